import PyProof.Rows.All
import Wide.All
import OpenK.AllK
import Wide.FinOn
import PySem.Challenge.RW_rowsback_k01_what_is_a_row
import HandS.ForMost
import HandS.IsInst
import HandS.TupAny
import HandS.TupMul
import HandS.Wide
import PyProof.ReprRoads
import HandS.Style
import PyProof.ReprLen
import PyProof.StrLawsRepr
import HandS.More
import HandS.CallLocal
import KE.GoesEnum
import HandS.Iter
set_option Elab.async false
set_option linter.all false
set_option maxRecDepth 100000
namespace Jg
open PySem PySem.Spec PyProof.Rows L2
def topS (i : Nat) : Stmt := PySem.Challenge.pw_rowsback_k01_what_is_a_row.main.body.getD i (.Pass ⟨0, 0, 0, 0⟩)
end Jg
namespace Jg
open PySem PySem.Spec PyProof.Rows L2
mutual
/-- a value as data: lists (none of them D or B), tuples, empty dicts -/
inductive Dq (D B : Addr) (H : Hp) : V → PyData → Prop
  | non : Dq D B H .non .none
  | bl (b : Bool) : Dq D B H (.bl b) (.bool b)
  | int (i : Int) : Dq D B H (.int i) (.int i)
  | str (x : Str) : Dq D B H (.str x) (.str x)
  | lst {a : Addr} {xs : List V} {ds : List PyData} : a ≠ D → a ≠ B → H a = some (.lst xs) → DqAll D B H xs ds → Dq D B H (.ref a) (.list ds)
  | tup {a : Addr} {xs : List V} {ds : List PyData} : H a = some (.tup xs) → DqAll D B H xs ds → Dq D B H (.ref a) (.tuple ds)
  | dct {a : Addr} : H a = some (.dK []) → Dq D B H (.ref a) (.dict [])
inductive DqAll (D B : Addr) (H : Hp) : List V → List PyData → Prop
  | nil : DqAll D B H [] []
  | cons {v : V} {vs : List V} {d : PyData} {ds : List PyData} : Dq D B H v d → DqAll D B H vs ds → DqAll D B H (v :: vs) (d :: ds)
end
theorem DqAll.len {D B : Addr} {H : Hp} : ∀ {vs : List V} {ds : List PyData}, DqAll D B H vs ds → vs.length = ds.length
  | _, _, .nil => rfl
  | _, _, .cons _ h => congrArg Nat.succ h.len
/-- what lies stays, where all that is neither D nor B stays -/
def Fr (D B : Addr) (H H' : Hp) : Prop := ∀ b o, b ≠ D → b ≠ B → H b = some o → H' b = some o
mutual
theorem Dq.keep {D B : Addr} {H H' : Hp} (hD : ∃ xs, H D = some (.lst xs)) (hB : ∃ xs, H B = some (.lst xs)) (f : Fr D B H H') : ∀ (d : PyData) (v : V), Dq D B H v d → Dq D B H' v d
  | .none, _, h => by
    cases h
    exact .non
  | .bool _, _, h => by
    cases h
    exact .bl _
  | .int _, _, h => by
    cases h
    exact .int _
  | .str _, _, h => by
    cases h
    exact .str _
  | .list ds, _, h => by
    cases h with
    | lst h1 h2 h3 h4 => exact .lst h1 h2 (f _ _ h1 h2 h3) (DqAll.keep hD hB f ds _ h4)
  | .tuple ds, _, h => by
    obtain ⟨xD, eD⟩ := hD
    obtain ⟨xB, eB⟩ := hB
    cases h with
    | tup h3 h4 =>
      refine .tup (f _ _ (fun z => ?_) (fun z => ?_) h3) (DqAll.keep ⟨xD, eD⟩ ⟨xB, eB⟩ f ds _ h4)
      · rw [z, eD] at h3
        cases h3
      · rw [z, eB] at h3
        cases h3
  | .dict ds, _, h => by
    obtain ⟨xD, eD⟩ := hD
    obtain ⟨xB, eB⟩ := hB
    cases h with
    | dct h3 =>
      refine .dct (f _ _ (fun z => ?_) (fun z => ?_) h3)
      · rw [z, eD] at h3
        cases h3
      · rw [z, eB] at h3
        cases h3
theorem DqAll.keep {D B : Addr} {H H' : Hp} (hD : ∃ xs, H D = some (.lst xs)) (hB : ∃ xs, H B = some (.lst xs)) (f : Fr D B H H') : ∀ (ds : List PyData) (vs : List V), DqAll D B H vs ds → DqAll D B H' vs ds
  | [], _, h => by
    cases h
    exact .nil
  | d :: ds, _, h => by
    cases h with
    | cons h1 h2 => exact .cons (Dq.keep hD hB f d _ h1) (DqAll.keep hD hB f ds _ h2)
end
section
variable {X : Cx} {pins : List (Addr × Obj)} {σ : L2.St} {H : Hp} {s : Shared} {D B : Addr}
mutual
theorem Dq.rep (I : Inv X pins σ H s) : ∀ (d : PyData) (v : V) (u : Value), Dq D B H v d → RelV v u → d.showable = true → d.shown.length ≤ sizeLine →
    ∃ bs as, ReadAtMost s.heap d.depth bs ∧ Reads s.heap u d as ∧ ReprK X.prog X.w bs s.heap d.depth u d.shown
  | .none, _, _, h, r, _, _ => by
    cases h
    cases r
    exact ⟨[], [], (fun _ h => nomatch h), .none, by simp only [PyData.shown]; exact .of_is ReprIs.none _ _ _⟩
  | .bool b, _, _, h, r, _, _ => by
    cases h
    cases r
    exact ⟨[], [], (fun _ h => nomatch h), .bool b, by simp only [PyData.shown]; exact .of_is (ReprIs.bool b) _ _ _⟩
  | .int i, _, _, h, r, hs, _ => by
    cases h
    obtain ⟨t, rfl⟩ := r
    exact ⟨[], [], (fun _ h => nomatch h), .int i t, by simp only [PyData.shown]; exact .of_is (ReprIs.int t (by simpa [PyData.showable] using hs)) _ _ _⟩
  | .str x, _, _, h, r, _, hz => by
    cases h
    obtain ⟨t, rfl⟩ := r
    exact ⟨[], [], (fun _ h => nomatch h), .str x t, by simp only [PyData.shown]; exact .of_is (ReprIs.str x t (by simpa only [PyData.shown] using hz)) _ _ _⟩
  | .list ds, _, _, h, r, hs, hz => by
    cases h with
    | lst _ _ e ha =>
      cases r
      have hz2 : (listText (PyData.shownAll ds)).length ≤ sizeLine := by simpa only [PyData.shown] using hz
      obtain ⟨_, its, n, rv, ho⟩ := I.hok _ _ e
      obtain ⟨bs, as, hb, hr, hk⟩ := DqAll.rep I ds _ its ha rv (by simpa [PyData.showable] using hs) (fun t ht => Nat.le_trans (listText_mem_le ht) hz2)
      have hr2 : ReadsAll s.heap its.toArray.toList ds as := hr
      have rd := Reads.list ho rfl rfl hr2
      have hna := not_mem_of_deeper (n := PyData.depthAll ds) rd (by simp only [PyData.depth]; omega) hb
      refine ⟨_ :: bs, _, ReadAtMost.cons rd (by simp only [PyData.depth]; omega) hb, rd, ?_⟩
      simp only [PyData.depth, PyData.shown]
      cases its with
      | nil =>
        cases hr
        simp only [PyData.shownAll, listText_nil]
        exact ReprK.listEmpty ho rfl rfl
      | cons x l => exact ReprK.list ho rfl rfl hna (by simpa using hk.length_eq) (fun i y e => hk.item i y (by simpa using e))
  | .tuple ds, _, _, h, r, hs, hz => by
    cases h with
    | tup e ha =>
      cases r
      have hz2 : (tupleText (PyData.shownAll ds)).length ≤ sizeLine := by simpa only [PyData.shown] using hz
      obtain ⟨_, its, rv, o, ho, hc, n, hd⟩ := I.hok _ _ e
      obtain ⟨bs, as, hb, hr, hk⟩ := DqAll.rep I ds _ its ha rv (by simpa [PyData.showable] using hs) (fun t ht => Nat.le_trans (tupleText_mem_le ht) hz2)
      have hr2 : ReadsAll s.heap its.toArray.toList ds as := hr
      have rd := Reads.tuple ho hc hd hr2
      have hna := not_mem_of_deeper (n := PyData.depthAll ds) rd (by simp only [PyData.depth]; omega) hb
      refine ⟨_ :: bs, _, ReadAtMost.cons rd (by simp only [PyData.depth]; omega) hb, rd, ?_⟩
      simp only [PyData.depth, PyData.shown]
      exact ReprK.tuple ho hc hd hna hk
  | .dict kvs, _, _, h, r, hs, hz => by
    cases h with
    | dct e =>
      cases r
      obtain ⟨_, hsys, vs, hv, o, es, ep, ho, hx, hd, hes⟩ := I.hok _ _ e
      have hv0 : vs = [] := by
        cases hv
        rfl
      subst hv0
      have he : es = #[] := by
        have h2 := hes.2.1
        cases hq : es.toList with
        | nil => simpa using hq
        | cons e r =>
          rw [hq] at h2
          cases h2
      subst he
      have rd := Reads.dict (kvs := []) ho hx.1 hd ReadsAll.nil ReadsAll.nil
      refine ⟨_ :: [], _, ReadAtMost.cons (n := 0) rd (Nat.zero_le _) (fun _ h => nomatch h), rd, ?_⟩
      simp only [PyData.depth, PyData.depthKv, PyData.shown, PyData.shownKv]
      exact ReprK.dict ho hx.1 hd hsys (fun z => nomatch z) .nil
theorem DqAll.rep (I : Inv X pins σ H s) : ∀ (ds : List PyData) (vs : List V) (us : List Value), DqAll D B H vs ds → Vals vs us → PyData.showableAll ds = true → (∀ t ∈ PyData.shownAll ds, t.length ≤ sizeLine) →
    ∃ bs as, ReadAtMost s.heap (PyData.depthAll ds) bs ∧ ReadsAll s.heap us ds as ∧ ReprAllK X.prog X.w bs s.heap (PyData.depthAll ds) us (PyData.shownAll ds)
  | [], _, _, h, r, _, _ => by
    cases h
    cases r
    exact ⟨[], [], (fun _ h => nomatch h), .nil, by simp only [PyData.shownAll]; exact .nil⟩
  | d :: ds, _, _, h, r, hs, hz => by
    have hs2 : d.showable = true ∧ PyData.showableAll ds = true := by simpa [PyData.showableAll] using hs
    cases h with
    | cons h1 h2 =>
      cases r with
      | cons r1 r2 =>
        obtain ⟨b1, a1, hb1, q1, k1⟩ := Dq.rep I d _ _ h1 r1 hs2.1 (hz _ (by simp [PyData.shownAll]))
        obtain ⟨b2, a2, hb2, q2, k2⟩ := DqAll.rep I ds _ _ h2 r2 hs2.2 (fun t ht => hz t (by simp [PyData.shownAll, ht]))
        refine ⟨b1 ++ b2, a1 ++ a2, ?_, .cons q1 q2, ?_⟩
        · simp only [PyData.depthAll]
          exact (hb1.mono (Nat.le_max_left _ _)).append (hb2.mono (Nat.le_max_right _ _))
        · simp only [PyData.depthAll, PyData.shownAll]
          exact .cons ((k1.more fun b hb => List.mem_append_left _ hb).level_le (Nat.le_max_left _ _)) (k2.more_le (fun b hb => List.mem_append_right _ hb) (Nat.le_max_right _ _))
end
/-- repr(x), x data: what is shown of it -/
def rRepr : List V → Hp → VK → Prop := fun xs H Q => ∃ (D B : Addr) (v : V) (d : PyData), xs = [v] ∧ Dq D B H v d ∧ d.showable = true ∧ d.shown.length ≤ sizeLine ∧ d.depth ≤ 60 ∧ Q (.str d.shown) H
theorem call_reprD {X : Cx} (hg : X.A.guards = some []) (hu : X.A.units + 64 < cLine) : CallR X (.builtin "repr") rRepr := by
  intro pins s σ H xs us Q I r h
  obtain ⟨D, B, v, d, rfl, hd, hs, hz, hdp, q⟩ := h
  obtain ⟨u, rfl, ru⟩ := vals1 r
  have fin : ∀ (x : Str), x = d.shown → ∀ (h' : Heap) (t : Tok) (tk : Nat), (∀ b o, s.heap.get? b = some o → h'.get? b = some o) → EP X pins σ Q (.str x t) { s with heap := h', toks := tk } := fun x e h' t tk k => by
    subst e
    exact ⟨.str d.shown, H, I.kept (t' := tk) k, ⟨_, rfl⟩, q⟩
  cases hd with
  | non =>
    cases ru
    exact PySem.P.repr_of_none (fin _ (by simp only [PyData.shown]) _ _ _ fun _ _ z => z)
  | bl b =>
    cases ru
    exact PySem.P.repr_of_bool (fin _ (by simp only [PyData.shown]) _ _ _ fun _ _ z => z)
  | int i =>
    obtain ⟨t, rfl⟩ := ru
    exact PySem.P.repr_of_int (by simpa [PyData.showable] using hs) (fin _ (by simp only [PyData.shown]) _ _ _ fun _ _ z => z)
  | str x =>
    obtain ⟨t, rfl⟩ := ru
    exact PySem.P.repr_of_str (fin _ (by simp only [PyData.shown]) _ _ _ fun _ _ z => z) (by simpa only [PyData.shown] using hz)
  | @lst a xs ds _ _ e ha =>
    cases ru
    simp only [PyData.depth] at hdp
    have hz2 : (listText (PyData.shownAll ds)).length ≤ sizeLine := by simpa only [PyData.shown] using hz
    obtain ⟨_, its, n, rv, ho⟩ := I.hok _ _ e
    obtain ⟨bs, as, hb, hr, hk⟩ := DqAll.rep I ds _ its ha rv (by simpa [PyData.showable] using hs) (fun t ht => Nat.le_trans (listText_mem_le ht) hz2)
    have hr2 : ReadsAll s.heap its.toArray.toList ds as := hr
    have hna := not_mem_of_deeper (n := PyData.depthAll ds) (Reads.list ho rfl rfl hr2) (by simp only [PyData.depth]; omega) hb
    refine call_repr_slot (by omega) ⟨_, ho, rfl⟩ F.slot_list_repr.toG ?_
    cases its with
    | nil =>
      cases hr
      exact call_list_repr_empty ⟨_, ho, rfl⟩ ho rfl ⟨_, _, rfl, fin _ (by simp only [PyData.shown, PyData.shownAll, listText_nil]) _ _ _ fun _ _ z => z⟩
    | cons x l =>
      exact call_list_reprK ho rfl rfl hna (by simpa using hk.length_eq) (fun i y e => hk.item i y (by simpa using e)) hg (fun b _ => Clear.nil b) (by show X.A.units + 1 + _ < _; omega) (fun _ _ z => z)
        (fun h' t tk k => ⟨_, _, rfl, fin _ (by simp only [PyData.shown]) _ _ _ k⟩) hz2
  | @tup a xs ds e ha =>
    cases ru
    simp only [PyData.depth] at hdp
    have hz2 : (tupleText (PyData.shownAll ds)).length ≤ sizeLine := by simpa only [PyData.shown] using hz
    obtain ⟨_, its, rv, o, ho, hc, n, hd⟩ := I.hok _ _ e
    obtain ⟨bs, as, hb, hr, hk⟩ := DqAll.rep I ds _ its ha rv (by simpa [PyData.showable] using hs) (fun t ht => Nat.le_trans (tupleText_mem_le ht) hz2)
    have hr2 : ReadsAll s.heap its.toArray.toList ds as := hr
    have hna := not_mem_of_deeper (n := PyData.depthAll ds) (Reads.tuple ho hc hd hr2) (by simp only [PyData.depth]; omega) hb
    refine call_repr_slot (by omega) ⟨_, ho, hc⟩ F.slot_tuple_repr ?_
    exact call_tuple_reprK ho hc hd hna hk hg (fun b _ => Clear.nil b) (by show X.A.units + 1 + _ < _; omega) (fun _ _ z => z)
      (fun h' t tk k => ⟨_, _, rfl, fin _ (by simp only [PyData.shown]) _ _ _ k⟩) hz2
  | dct e =>
    cases ru
    have ho0 := Dq.rep (D := D) (B := B) I _ _ _ (.dct e) rfl hs hz
    obtain ⟨_, hsys, vs, hv, o, es, ep, ho, hx, hd, hes⟩ := I.hok _ _ e
    have he : es = #[] := by
      have h2 := hes.2.1
      cases hv
      cases hq : es.toList with
      | nil => simpa using hq
      | cons e r =>
        rw [hq] at h2
        cases h2
    subst he
    refine call_repr_slot (by omega) ⟨_, ho, hx.1⟩ F.slot_dict_repr ?_
    exact call_dict_reprK (d := 0) (as := []) ho hx.1 hd hsys (fun z => nomatch z) .nil hg (fun b _ => Clear.nil b) (by show X.A.units + 1 + _ < _; omega) (fun _ _ z => z)
      (fun h' t tk k => ⟨_, _, rfl, fin _ (by simp only [PyData.shown, PyData.shownKv]) _ _ _ k⟩) (by simpa only [PyData.shown, PyData.shownKv] using hz)
end
end Jg
namespace Jg
open PySem PySem.Spec PyProof.Rows L2
/-- a def's promise where no repr is under way around its call -/
def RunG (P : Program) (w : World) (K : PySem.W.Frag) (mg : Str → Option Value) (base : Heap) (k : Nat) (f : Addr) (fd : FuncData) (ps : List Str) (sp : Sp) : Prop :=
  ∀ (Ar : Around) (out : List Env) (s0 : Shared) (H : Hp) (ar : Args) (us : List Value) (vs : List V) (Q : VK) (E : XK), Ar.guards = some [] → Room k Ar → Env0 P w K mg base Ar out s0 H → BindsTo s0 fd ar (ps.zip us) → Vals vs us → sp vs H Q E →
    codeAny (model P w) Ar (.call (.ref f) ar) (CR CX0 out P w H s0 Q E) s0
theorem runG_of {P : Program} {w : World} {K : PySem.W.Frag} {mg : Str → Option Value} {base : Heap} {k : Nat} {x qual : Str} {st : Stmt} {f : Addr} {fd : FuncData} {N ps : List Str} {sp : Sp} (F : Fun K x qual st f fd) (S : FnScope N ps (defScope st)) (len : ∀ vs H Q E, sp vs H Q E → vs.length = ps.length)
    (hb : ∀ (cdv : Value) (Ar : Around) (out : List Env) (s0 : Shared) (H : Hp) (vs : List V) (Q : VK) (E : XK), (Ar.deeper (envOfC qual (defScope st) s0.heap.objs.size f cdv)).guards = some [] → Room k (Ar.deeper (envOfC qual (defScope st) s0.heap.objs.size f cdv)) → sp vs H Q E →
      ∃ t, PSs (cxOf CX0 P w K mg base N qual (defScope st) f cdv Ar out s0 H E).nox (defBody st) t ∧ t { nx := fun _ H1 => Q .non H1, rt := Q } (start N vs) H) : RunG P w K mg base (k + 1) f fd ps sp := by
  obtain ⟨oc, od, kV, doc, pm, an, cdv, ct, osl, rfl, lk, hcd⟩ := F.ex
  intro Ar out s0 H ar us vs Q E hg hr e0 bd rv hsp
  have KX : K.In s0.heap := e0.mod.kin.keeps fun b o z => (e0.bs b o z).1
  have NL : s0.heap.NoLimit := e0.mod.nolimit.keeps fun b o z => (e0.bs b o z).1
  have kinds : ∀ y ∈ ps.zip us, (defScope st).names.lookup y.1 = some .local ∨ ((defScope st).names.lookup y.1 = some .cell ∧ ((cellsFrom (s0.heap.objs.size + 1) (defScope st).names []).lookup y.1).isSome = true) := by
    rintro ⟨n, v⟩ hy
    cases S.par n (List.of_mem_zip hy).1 with
    | inl q => exact .inl q
    | inr q => exact .inr ⟨q, PySem.W.cellsFrom_some _ _ _ (.inl q)⟩
  refine codeAny_call_function hr.depth (KX _ _ lk) rfl S.co S.gen rfl (PySem.W.codeRec_of KX hcd) (bd _ _ _ _ (wpAny_newFunctionEnv_cells S.kind kinds fun env he s1 ic => ?_))
  subst he
  refine ⟨NL.keeps ic.toInCall.keep, codeAny_func ?_⟩
  obtain ⟨t, ht, hq⟩ := hb cdv Ar out s0 H vs Q E hg (hr.deeper _) hsp
  have I0 : Inv (cxOf CX0 P w K mg base N qual (defScope st) f cdv Ar out s0 H E) [] (start N vs) H s1 := inv_start S hr.hd e0 (len _ _ _ _ hsp) rv ic
  refine wpAny_mono (ht.nox.run [] s1 (start N vs) H _ I0 hq) (fun fl s2 hs => ?_) fun e s2 hs => hs
  cases fl with
  | ret u =>
    obtain ⟨v, σ2, H2, J, ru, q⟩ := hs
    exact ⟨v, H2, J.os, J.bare, J.base, J.hok, ru, q⟩
  | next =>
    obtain ⟨σ2, H2, J, q⟩ := hs
    exact ⟨V.non, H2, J.os, J.bare, J.base, J.hok, rfl, q⟩
  | brk =>
    obtain ⟨_, _, _, q⟩ := hs
    exact False.elim q
  | cont =>
    obtain ⟨_, _, _, q⟩ := hs
    exact False.elim q
end Jg
namespace Jg
open PySem PySem.Spec PyProof.Rows L2
/-- the heap in which at most the script at a is told: a list of ns -/
def onlyAt (a : Addr) (o : Obj) (ns : List Int) : Hp := fun b => if b = a then some (.frz o (.lst (ns.map V.int))) else none
theorem law_runG {P : Program} {w : World} {K : PySem.W.Frag} {mg mb : Str → Option Value} {k : Nat} {fa a : Addr} {fd : FuncData} {x : Str} {sp : Sp} {s1 : Shared} {vs : List Value} {ns : List Int}
    (KX : K.In s1.heap) (hns : s1.heap.Ns mainGlobals mg) (hb : s1.heap.Ns builtinsNs mb) (hbb : ∀ x : Str, x ≠ "__name__" → mb x = bootBuiltins x) (hlim : s1.heap.NoLimit) (hg : s1.gens = #[])
    (ha : s1.heap.get? a = some { cls := .type "list", data := .seq vs.toArray }) (hi : IntsAre vs ns) (hl : ns.length ≤ sizeLine) (hr : Room k callerA)
    (F : ∀ base : Heap, K.In base → base.Ns mainGlobals mg → RunG P w K mg base k fa fd [x] sp) (hbind : ∀ (s : Shared) (u : Value), BindsTo s fd ⟨[u], []⟩ [(x, u)])
    (hsp : ∀ H : Hp, Only H → SqL K H a (ns.map V.int) → sp [.ref a] H (fun v _ => v = .bl true) fun _ _ _ => False) :
    codeAny (model P w) callerA (.call (.ref fa) ⟨[.ref a], []⟩) (fun r s' => r = .ok (.ret (.bool true)) ∧ OldK s1.heap s'.heap ∧ s'.os = s1.os ∧ AllBare s'.gens) s1 := by
  have rv := vals_ints hi
  have nV := hi.length
  have main : ∀ H : Hp, Only H → SqL K H a (ns.map V.int) → HOk P w H s1.heap → (∀ b, H b ≠ none → b = a) → (H a ≠ none → K.lookup a = none) →
      codeAny (model P w) callerA (.call (.ref fa) ⟨[.ref a], []⟩) (fun r s' => r = .ok (.ret (.bool true)) ∧ OldK s1.heap s'.heap ∧ s'.os = s1.os ∧ AllBare s'.gens) s1 := by
    intro H hO hS hok hA hK
    have here : ∀ {b : Addr} {o : Obj}, s1.heap.get? b = some o → H b = none → (hidT s1.heap H).get? b = some o := fun e n => hidT_get e n
    have free_of : ∀ {b : Addr}, (b = a → False) → H b = none := fun {b} nb => by
      cases q : H b with
      | none => rfl
      | some u => exact (nb (hA b (by rw [q]; simp))).elim
    have nsK : ∀ {b : Addr} {m : Str → Option Value}, s1.heap.Ns b m → (hidT s1.heap H).Ns b m := by
      rintro b m ⟨o, es, ep, e, d, r⟩
      refine ⟨o, es, ep, here e (free_of fun z => ?_), d, r⟩
      subst z
      rw [ha] at e
      cases e
      cases d
    have hKb : K.In (hidT s1.heap H) := by
      intro b o e
      refine here (KX b o e) ?_
      cases q : H b with
      | none => rfl
      | some u =>
        have z := hA b (by rw [q]; simp)
        subst z
        rw [hK (by rw [q]; simp)] at e
        cases e
    obtain ⟨mc, l1, l2⟩ := hlim
    have e0 : Env0 P w K mg (hidT s1.heap H) callerA [] s1 H :=
      ⟨rfl, ⟨hKb, nsK hns, ⟨mb, nsK hb, hbb⟩, ⟨mc, nsK l1, l2⟩⟩, fun b o e => of_hidT e, Nat.le_of_eq (hidT_size _ _), trivial, fun b hb => absurd (show b ∈ ([] : List Addr) from hb) (by simp), hok, .of_eq hg⟩
    refine codeAny_mono (F _ hKb (nsK hns) callerA [] s1 H ⟨[.ref a], []⟩ [.ref a] [.ref a] _ _ rfl hr e0 (hbind s1 (.ref a)) (.cons rfl .nil) (hsp H hO hS)) fun r s2 h => ?_
    cases r with
    | error e => exact False.elim h
    | ok fl =>
      cases fl with
      | next => exact False.elim h
      | brk => exact False.elim h
      | cont => exact False.elim h
      | ret u =>
        obtain ⟨v, H2, os, bare, un, hok2, ru, q⟩ := h
        have qv : v = .bl true := q
        subst qv
        have ru2 : u = Value.bool true := ru
        subst ru2
        refine ⟨rfl, OldK.of_keep fun b o e => ?_, os, bare⟩
        cases q : H b with
        | none => exact un.keep b o e q (fun z => absurd (show b ∈ ([] : List Addr) from z) (by simp)) (by simp)
        | some u =>
          cases hO b with
          | inl z =>
            rw [q] at z
            cases z
          | inr z =>
            obtain ⟨ob, xs, z⟩ := z
            obtain ⟨e1, _⟩ := hok b _ z
            obtain ⟨e2, _⟩ := hok2 b _ (un.frzs b ob _ z)
            rw [e] at e1
            cases e1
            exact e2
  cases hk : K.lookup a with
  | some o =>
    have e := KX a o hk
    rw [ha] at e
    cases e
    exact main (fun _ => none) (fun _ => .inl rfl) (.inr ⟨_, vs.toArray, _, hk, rfl, rfl, rfl, by rw [List.size_toArray, nV]; exact hl, by simpa using rv⟩) (fun b u z => absurd (show (none : Option HO) = some u from z) (by simp)) (fun b z => absurd rfl z) fun z => absurd rfl z
  | none =>
    refine main (onlyAt a { cls := .type "list", data := .seq vs.toArray } ns) (fun b => ?_) (.inl (.inr ⟨_, if_pos rfl⟩)) (fun b u z => ?_) (fun b z => ?_) fun _ => hk
    · by_cases hb : b = a
      · exact .inr ⟨_, _, if_pos hb⟩
      · exact .inl (if_neg hb)
    · by_cases hb : b = a
      · have z2 := (show some _ = some u from (if_pos hb).symm.trans z)
        cases z2
        subst hb
        exact ⟨ha, by rw [List.length_map]; exact hl, vs, _, rv, ha⟩
      · exact absurd ((if_neg hb).symm.trans z) (by simp)
    · by_cases hb : b = a
      · exact hb
      · exact absurd (if_neg hb) z
theorem walk_ofG {l : PySem.W.OpenLaw} {n k : Nat} {q : Program} {loose : List Str} {XP : (Str → Option Value) → Heap → Prop} {YP : World → Heap → Prop} {d : DefRec} {K : Params → PySem.W.Frag} {sp : World → Sp} {x : Str}
    (hn : l.most = some n) (hn2 : n ≤ sizeLine) (hdf : d.params.defaults = []) (hr : Room k callerA) (hY : ∀ (w : World) (h : Heap), YP w h → (K w.params).In h)
    (F : ∀ (w : World) (mg : Str → Option Value) (fa : Addr) (h : Heap), (K w.params).In h → h.Ns mainGlobals mg → mg d.name = some (.ref fa) →
      ∃ fd : FuncData, (∀ (s : Shared) (u : Value), BindsTo s fd ⟨[u], []⟩ [(x, u)]) ∧ ∀ base : Heap, (K w.params).In base → base.Ns mainGlobals mg → RunG l.prog w (K w.params) mg base k fa fd [x] (sp w))
    (hsp : ∀ (w : World) (H : Hp) (a : Addr) (ns : List Int), ns.length ≤ n → Only H → SqL (K w.params) H a (ns.map V.int) → sp w [.ref a] H (fun v _ => v = .bl true) fun _ _ _ => False) :
    PySem.W.WalkO q loose XP YP l.row.toRowW d [] (fun f vs => PySem.call f vs) := by
  refine Att.attach_call hn hdf fun w s0 s1 mg mb fa o pm cd doc a vs ns G Y ho hd hcd hmg hobj hints hlen hg => ?_
  obtain ⟨fd, hb, hF⟩ := F w mg fa _ (hY w _ Y) G.T.g hmg
  exact law_runG (hY w _ Y) G.T.g G.T.b G.T.builtins G.T.nolimit hg hobj hints (Nat.le_trans hlen hn2) hr hF hb fun H hO hS => hsp w H a ns hlen hO hS
end Jg
namespace Jg
open PySem PySem.Spec PyProof.Rows L2
/-! ### t[::-1], t a tuple -/
theorem adjust_back (n : Nat) : Builtin.Slice.sliceAdjust none none (-1) (n : Int) = ((n : Int) - 1, -1) := by
  unfold Builtin.Slice.sliceAdjust
  simp
theorem places_back (n : Nat) : Builtin.Slice.slicePlaces ((n : Int) - 1) (-1) (-1) = n := by
  unfold Builtin.Slice.slicePlaces
  have h1 : ¬ ((-1 : Int) > 0) := by decide
  simp only [h1, if_false]
  split
  · rw [show (- -1 : Int) = 1 by decide, Int.ediv_one]
    omega
  · omega
theorem fm_congr {α β : Type} {f g : α → Option β} : ∀ l : List α, (∀ m ∈ l, f m = g m) → l.filterMap f = l.filterMap g
  | [], _ => rfl
  | a :: l, h => by
    have e := fm_congr l fun m hm => h m (List.mem_cons_of_mem _ hm)
    simp only [List.filterMap_cons, h a List.mem_cons_self, e]
theorem pick_back {α : Type} (xs : Array α) : ((List.range xs.size).filterMap fun (m : Nat) => xs[(((xs.size : Nat) : Int) - 1 + (m : Int) * (-1)).toNat]?).toArray = xs.toList.reverse.toArray := by
  have e : (List.range xs.size).filterMap (fun (m : Nat) => xs[(((xs.size : Nat) : Int) - 1 + (m : Int) * (-1)).toNat]?) = ((List.range xs.size).map fun k => xs.size - 1 - k).filterMap (xs[·]?) := by
    rw [List.filterMap_map]
    refine fm_congr _ fun m hm => ?_
    have hl := List.mem_range.mp hm
    show xs[(((xs.size : Nat) : Int) - 1 + (m : Int) * (-1)).toNat]? = xs[xs.size - 1 - m]?
    rw [show (((xs.size : Nat) : Int) - 1 + (m : Int) * (-1)).toNat = xs.size - 1 - m by omega]
  rw [e, PySem.W.krv_range, List.filterMap_reverse, PySem.W.krv_all]
section
variable {prog : Program} {w : World} {A : Around} {E : Value → Shared → Prop} {s : Shared}
theorem applied_back {sl : Addr} {va vb vc : Value} {n : Nat} {Q : Int × Int × Nat → Shared → Prop} (hs : s.heap.IsSliceOf sl va vb vc) (pa : IsPart va none) (pb : IsPart vb none) (pc : IsPart vc (some (-1)))
    (h : Q ((n : Int) - 1, -1, n) s) : wpAny (model prog w) A (Builtin.Slice.sliceApplied (.ref sl) (pure (n : Int))) Q E s := by
  obtain ⟨os, hos, hcs, hds⟩ := id hs
  unfold Builtin.Slice.sliceApplied Builtin.Slice.sliceFields
  refine wpAny_bind (wpAny_bind (wpAny_field hos hds (x := va) rfl (wpAny_bind (wpAny_field hos hds (x := vb) rfl (wpAny_bind (wpAny_field hos hds (x := vc) rfl (wpAny_pure ?_)))))))
  refine wpAny_bind (HT.slicePart_ pc ?_)
  show wpAny _ _ (if ((-1 : Int) == 0) = true then _ else _) _ _ s
  rw [if_neg (by decide)]
  refine wpAny_bind (HT.slicePart_ pa (wpAny_bind (HT.slicePart_ pb (wpAny_bind (wpAny_pure ?_)))))
  show wpAny _ _ (match Builtin.Slice.sliceAdjust none none (-1) (n : Int) with | (lo, hi) => pure (lo, (-1 : Int), Builtin.Slice.slicePlaces lo hi (-1))) _ _ s
  rw [adjust_back n]
  show wpAny _ _ (pure ((n : Int) - 1, (-1 : Int), Builtin.Slice.slicePlaces ((n : Int) - 1) (-1) (-1))) _ _ s
  rw [places_back]
  exact wpAny_pure h
theorem getItem_back {t sl : Addr} {its : Array Value} {va vb vc : Value} {Q : Value → Shared → Prop} (ht : IsTup s.heap t its) (hs : s.heap.IsSliceOf sl va vb vc) (pa : IsPart va none) (pb : IsPart vb none) (pc : IsPart vc (some (-1)))
    (h : Q (.ref s.heap.objs.size) { s with heap := s.heap.push { cls := .type "tuple", data := .seq its.toList.reverse.toArray } }) (hz : its.size ≤ sizeLine) : wpAny (model prog w) A (getItem (.ref t) (.ref sl)) Q E s := by
  have ok : sizeOk (.seq its.toList.reverse.toArray) := by
    show its.toList.reverse.toArray.size ≤ sizeLine
    rw [List.size_toArray, List.length_reverse, Array.length_toList]
    exact hz
  obtain ⟨os, hos, hcs, hds⟩ := id hs
  have hTs : s.TypeIs (.ref sl) "slice" := ⟨os, hos, hcs⟩
  unfold getItem
  first | (with_reducible refine wpAny_holding ?_) | skip
  first | refine wpAny_bind (wpAny_pure ?_) | skip
  refine wpAny_bind (wpAny_sequenceKey ht.typeIs (by decide) (wpAny_bind (wpAny_callSpecial?_slot (name := Str.ofString "__getitem__") ht.typeIs PyProof.Rows.slot_tuple_getitem (wpAny_call_entry PyProof.Rows.slot_tuple_getitem ht.typeIs entry_tuple_getitem ?_ (args_tuple_getitem _ _)))))
  show wpAny _ _ (Builtin.Tuple.tupleItemsOf (.ref t) >>= _) _ _ s
  refine wpAny_bind (tupleItemsOf_ ht (wpAny_bind (wpAny_typeOf hTs ?_)))
  rw [if_pos (by decide)]
  refine wpAny_bind (applied_back hs pa pb pc ?_)
  have no : ¬ ((((its.size : Nat) : Int) - 1 == 0 && (-1 : Int) == 1 && its.size == its.size) = true) := by
    intro q
    rw [Bool.and_eq_true, Bool.and_eq_true] at q
    exact absurd q.1.2 (by decide)
  show wpAny _ _ (if (((its.size : Nat) : Int) - 1 == 0 && (-1 : Int) == 1 && its.size == its.size) = true then _ else _) _ _ s
  rw [if_neg no, pick_back]
  first
    | exact wpAny_bind (m := Builtin.Tuple.tupleExact _) (wpAny_newObj_type (wpAny_pure ⟨_, rfl, wpAny_pure h⟩) ok)
    | exact wpAny_bind (wpAny_bind (m := Builtin.Tuple.tupleExact _) (wpAny_newObj_type (wpAny_pure (wpAny_pure ⟨_, rfl, wpAny_pure h⟩)) ok))
    | exact wpAny_bind (m := Builtin.Tuple.tupleExact _) (wpAny_newObj_type (wpAny_bind (wpAny_pure (wpAny_pure ⟨_, rfl, wpAny_pure h⟩))) ok)
end
section
variable {X : Cx}
def tRevT (K : PySem.W.Frag) (te : TE) : TE := fun σ H Q => te σ H fun x H1 => ∃ a xs, x = .ref a ∧ SqT K H1 a xs ∧ ∀ p, H1 p = none → Q (.ref p) (upd H1 p (.tup xs.reverse))
theorem pe_revT {e : Expr} {te : TE} {k : Nat} {p1 p2 p3 pos : Pos} (he : PE X e te) : PE X (.Subscript e (.Slice none none (some (.UnaryOp .USub (.Constant (.int 1) k p1) p2)) p3) pos) (tRevT X.K te) := by
  refine ⟨fun pins s σ H Q I h => Subscript_ (thn (he.run pins s σ H _ I h) fun v s1 ⟨x, H1, I1, r1, a, xs, ex, hx, q⟩ => ?_)⟩
  subst ex
  cases r1
  have hst : PO X (some (.UnaryOp .USub (.Constant (.int 1) k p1) p2)) (tPart (tUn (rU fun i => .int (-i)) (tC (.int 1)))) := po_some (pe_un un_neg pe_int)
  refine wpAny_Slice (thn (po_none.run pins s1 σ H1 (fun o G => o = none ∧ G = H1) I1 ⟨rfl, rfl⟩) fun va s2 ⟨l, H2, I2, pa, el, e2⟩ => ?_)
  subst el e2
  refine thn (po_none.run pins s2 σ H2 (fun o G => o = none ∧ G = H2) I2 ⟨rfl, rfl⟩) fun vb s3 ⟨u, H3, I3, pb, eu, e3⟩ => ?_
  subst eu e3
  refine thn (hst.run pins s3 σ H3 (fun o G => o = some (-1) ∧ G = H3) I3 ⟨1, rfl, -1, rfl, rfl, rfl⟩) fun vc s4 ⟨o, H4, I4, pc, eo, e4⟩ => ?_
  subst eo e4
  have I5 : Inv X pins σ H4 { s4 with heap := s4.heap.push { cls := .type "slice", data := .fields #[va, vb, vc] } } := I4.kept (t' := s4.toks) fun b ob z => Heap.get?_push_of_some _ z
  obtain ⟨its, r, ht, hz⟩ := I5.tuple hx
  have hl := r.length
  show wpAny (model X.prog X.w) X.A (subscriptTail e (.Slice none none (some (.UnaryOp .USub (.Constant (.int 1) k p1) p2)) p3) (.ref a) (.ref s4.heap.objs.size)) (EP X pins σ Q) X.xe { s4 with heap := s4.heap.push { cls := .type "slice", data := .fields #[va, vb, vc] } }
  refine tail_any (ops := [.ref a, .ref s4.heap.objs.size]) ht.typeIs (PyProof.Rows.slot_tuple_getitem.lookup) ?_ (by with_unfolding_all rfl)
  refine getItem_back ht (Heap.IsSliceOf.new _ va vb vc) pa pb pc ?_ (by rw [List.size_toArray]; omega)
  refine ⟨.ref _, _, I5.laid (t' := s4.toks) (o := .tup xs.reverse) (fun b ob z => Heap.get?_push_of_some _ z) (Nat.le_refl _) ?_, rfl, q _ (I5.hok.fresh (Nat.le_refl _))⟩
  exact ⟨by rw [List.length_reverse]; exact hz, _, r.reverse, IsTup.new _ _⟩
end
end Jg
namespace Jg
open PySem PySem.Spec PyProof.Rows L2
abbrev sDeck : Stmt := topS 23
abbrev sDraw : Stmt := topS 24
abbrev sOne : Stmt := topS 25
abbrev nDeck : List Str := ["_law_script", "_law_cells", "_law_cell"]
abbrev nDraw : List Str := ["_law_deck_here", "_law_many", "_law_rest", "_law_cell", "_law_mixed"]
abbrev nOne : List Str := ["_law_deck_here", "_law_items"]
theorem scDeck : FnScope nDeck ["_law_script"] (defScope sDeck) := ⟨rfl, rfl, rfl, by decide +kernel, rfl, by decide +kernel, by decide +kernel⟩
theorem scDraw : FnScope nDraw ["_law_deck_here", "_law_many"] (defScope sDraw) := ⟨rfl, rfl, rfl, by decide +kernel, rfl, by decide +kernel, by decide +kernel⟩
theorem scOne : FnScope nOne ["_law_deck_here", "_law_items"] (defScope sOne) := ⟨rfl, rfl, rfl, by decide +kernel, rfl, by decide +kernel, by decide +kernel⟩
/-! ### data of ints -/
theorem lay_ints : ∀ ns : List Int, PyData.canLayAll0 (ns.map PyData.int) = true
  | [] => by simp [PyData.canLayAll0]
  | n :: ns => by simp [PyData.canLayAll0, PyData.canLay0, lay_ints ns]
theorem dep_ints : ∀ ns : List Int, PyData.depthAll (ns.map PyData.int) ≤ 1
  | [] => by simp [PyData.depthAll]
  | n :: ns => by
    have h := dep_ints ns
    simp only [List.map_cons, PyData.depthAll, PyData.depth]
    omega
theorem shaped_ints (ns : List Int) : SeqAt.shaped (.list (ns.map PyData.int)) = true := by
  have h1 := dep_ints ns
  have h2 : PyData.depth (.list (ns.map PyData.int)) ≤ 64 := by
    simp only [PyData.depth]
    omega
  show (PyData.canLay0 (.list (ns.map PyData.int)) && decide (PyData.depth (.list (ns.map PyData.int)) ≤ 64)) = true
  rw [Bool.and_eq_true]
  exact ⟨by simp only [PyData.canLay0]; exact lay_ints ns, decide_eq_true h2⟩
theorem dp_ints {K : PySem.W.Frag} {H : Hp} : ∀ ns : List Int, DpAll K H (ns.map V.int) (ns.map PyData.int)
  | [] => .nil
  | n :: ns => .cons (.int n) (dp_ints ns)
/-! ### the deck -/
/-- the deck at D: its great cells at B, its cells at C, a count -/
structure DeckAt (D B C : Addr) (cells : List Int) (H : Hp) : Prop where
  db : D ≠ B
  dc : D ≠ C
  bc : B ≠ C
  ne : cells ≠ []
  len : cells.length ≤ 64
  top : ∃ n : Int, H D = some (.lst [.ref B, .ref C, .int n])
  big : ∃ bigs : List Int, bigs.length ≤ 63 ∧ H B = some (.lst (bigs.map V.int))
  cel : H C = some (.lst (cells.map V.int))
theorem Fr.refl (D B : Addr) (H : Hp) : Fr D B H H := fun _ _ _ _ h => h
theorem Fr.trans {D B : Addr} {H H1 H2 : Hp} (a : Fr D B H H1) (b : Fr D B H1 H2) : Fr D B H H2 := fun c o h1 h2 h => b c o h1 h2 (a c o h1 h2 h)
theorem Fr.of_same {D B : Addr} {H H' : Hp} (s : Same H H') : Fr D B H H' := fun b o _ _ h => s b o h
theorem same_upd {H : Hp} {p : Addr} {o : HO} (h : H p = none) : Same H (upd H p o) := fun b x e => by
  rw [upd_ne (ne_of_none e h)]
  exact e
theorem DeckAt.same {D B C : Addr} {cells : List Int} {H H' : Hp} (d : DeckAt D B C cells H) (s : Same H H') : DeckAt D B C cells H' := by
  obtain ⟨n, hn⟩ := d.top
  obtain ⟨bs, hl, hb⟩ := d.big
  exact ⟨d.db, d.dc, d.bc, d.ne, d.len, ⟨n, s _ _ hn⟩, ⟨bs, hl, s _ _ hb⟩, s _ _ d.cel⟩
def spDraw : Sp := fun vs H Q _ => ∃ (D B C : Addr) (cells : List Int) (m : Int), vs = [.ref D, .int m] ∧ DeckAt D B C cells H ∧ 0 < m ∧ m < 1073741824 ∧
  ∀ (i : Int) (H' : Hp), 0 ≤ i → i < m → DeckAt D B C cells H' → Fr D B H H' → Q (.int i) H'
section
variable {P : Program} {w : World} {K : PySem.W.Frag} {mg : Str → Option Value} {base : Heap}
theorem ok_draw {f : Addr} {fd : FuncData} (F : Fun K "_law_draw" "_law_draw" sDraw f fd) (mi : mg "int" = none) (ml : mg "len" = none) : FnOk P w K mg base CX0 1 f fd ["_law_deck_here", "_law_many"] spDraw := by
  refine F.ok scDraw (fun vs H Q E h => ?_) (fun cdv A outer s H vs Q E hr h => ?_)
  · obtain ⟨D, B, C, cells, m, rfl, _⟩ := h
    rfl
  · obtain ⟨D, B, C, cells, m, rfl, dk, hm0, hm1, q⟩ := h
    have hu := hr.units
    refine ⟨_, pss_cons (ps_if (pt_cmpR (op_neD hu) (pe_ix ix_list (pv 0) pe_int (fun _ _ => rfl)) (pe_lst pa_nil) (nomark _))
        (pss_cons (ps_set (i := 2) scDraw.nd rfl (.inl rfl) (pe_ix ix_list (pe_ix ix_list (pv 0) pe_int (fun _ _ => rfl)) pe_int (fun _ _ => rfl)))
        (pss_cons (ps_asg (pe_op op_fdiv (pv 2) (pv 1)) (pg_sub (pe_ix ix_list (pv 0) pe_int (fun _ _ => rfl)) pe_int set_list))
        (pss_cons (ps_if (pt_cmpR op_eq (pe_ix ix_list (pe_ix ix_list (pv 0) pe_int (fun _ _ => rfl)) pe_int (fun _ _ => rfl)) pe_int (nomark _))
          (pss_one (ps_expr (pe_bm PySem.F.plainAttrs_list PySem.F.slot_list_pop PySem.F.type_list_pop mt_popAt (pe_ix ix_list (pv 0) pe_int (fun _ _ => rfl)) (pa_cons pe_int pa_nil)))) pss_nil)
        (pss_one (ps_ret (pe_op op_mod (pe_callTy call_int1 (by rfl) mi PyProof.Rows.boot_int (pa_cons (pv 2) pa_nil)) (pv 1))))))) pss_nil)
      (pss_cons (ps_asg (pe_op op_add (pe_ix ix_list (pv 0) pe_int (fun _ _ => rfl)) pe_int) (pg_sub (pv 0) pe_int set_list))
      (pss_cons (ps_set (i := 3) scDraw.nd rfl (.inl rfl) (pe_ix ix_list (pe_ix ix_list (pv 0) pe_int (fun _ _ => rfl)) (pe_op op_mod (pe_callTy call_int1 (by rfl) mi PyProof.Rows.boot_int (pa_cons (pe_ix ix_list (pv 0) pe_int (fun _ _ => rfl)) pa_nil)) (pe_callB call_len_seq (by rfl) ml PySem.boot_len (pa_cons (pe_ix ix_list (pv 0) pe_int (fun _ _ => rfl)) pa_nil))) (fun _ _ => rfl)))
      (pss_cons (ps_set (i := 4) scDraw.nd rfl (.inl rfl) (pe_op op_mod (pe_callTy call_int1 (by rfl) mi PyProof.Rows.boot_int (pa_cons (pe_op op_add (pe_op op_mod (pe_callTy call_int1 (by rfl) mi PyProof.Rows.boot_int (pa_cons (pv 3) pa_nil)) pe_int) (pe_op op_mul pe_int (pe_ix ix_list (pv 0) pe_int (fun _ _ => rfl)))) pa_nil)) pe_int))
      (pss_cons (ps_set (i := 4) scDraw.nd rfl (.inl rfl) (pe_op op_mod (pe_callTy call_int1 (by rfl) mi PyProof.Rows.boot_int (pa_cons (pe_op op_add (pe_op op_mul (pv 4) (pv 4)) (pe_op op_mul pe_int (pe_ix ix_list (pv 0) pe_int (fun _ _ => rfl)))) pa_nil)) pe_int))
      (pss_one (ps_ret (pe_op op_mod (pe_op op_fdiv (pe_op op_mod (pe_callTy call_int1 (by rfl) mi PyProof.Rows.boot_int (pa_cons (pe_op op_mul (pv 4) (pv 4)) pa_nil)) pe_int) pe_int) (pv 1)))))))), ?_⟩
    obtain ⟨n, hD⟩ := dk.top
    obtain ⟨bigs, hbl, hB⟩ := dk.big
    have hC := dk.cel
    -- if deck[0] != []
    refine ⟨.ref D, rfl, D, _, 0, .ref B, rfl, rfl, SqL.of hD, atI_nat (j := 0) rfl, Nat.zero_le _, fun e ne => ?_⟩
    have s1 : Same H (upd H e (.lst [])) := same_upd ne
    have hD1 := s1 _ _ hD
    have hB1 := s1 _ _ hB
    have hC1 := s1 _ _ hC
    refine ⟨.list (bigs.map PyData.int), .list [], .lst (SqL.of hB1) (dp_ints bigs), .lst (SqL.of upd_same) .nil, shaped_ints bigs, shaped_ints [], _, rfl, ?_⟩
    cases bigs with
    | cons b0 bs =>
      refine iteT ?_
      -- rest = deck[0][0]
      refine ⟨.ref D, rfl, D, _, 0, .ref B, rfl, rfl, SqL.of hD1, atI_nat (j := 0) rfl, B, _, 0, .int b0, rfl, rfl, SqL.of hB1, atI_nat (j := 0) rfl, ?_⟩
      -- deck[0][0] = rest // many
      refine ⟨.int b0, rfl, .int m, rfl, _, _, rfl, rfl, ⟨hm0, hm1⟩, .ref D, rfl, D, _, 0, .ref B, rfl, rfl, SqL.of hD1, atI_nat (j := 0) rfl, B, _, 0, 0, rfl, rfl, hB1, by simp [ixN], ?_⟩
      have hB2 : (upd (upd H e (.lst [])) B (.lst (List.set ((b0 :: bs).map V.int) 0 (.int (b0 / m))))) B = some (.lst ((b0 / m :: bs).map V.int)) := upd_same
      have hD2 : (upd (upd H e (.lst [])) B (.lst (List.set ((b0 :: bs).map V.int) 0 (.int (b0 / m))))) D = some (.lst [.ref B, .ref C, .int n]) := by
        rw [upd_ne dk.db]
        exact hD1
      have hC2 : (upd (upd H e (.lst [])) B (.lst (List.set ((b0 :: bs).map V.int) 0 (.int (b0 / m))))) C = some (.lst (cells.map V.int)) := by
        rw [upd_ne dk.bc.symm]
        exact hC1
      have f2 : Fr D B H (upd (upd H e (.lst [])) B (.lst (List.set ((b0 :: bs).map V.int) 0 (.int (b0 / m))))) := fun b o h1 h2 h => by
        rw [upd_ne h2]
        exact s1 _ _ h
      have q0 : (0 : Int) ≤ b0 % m := Int.emod_nonneg _ (by omega)
      have q1 : b0 % m < m := Int.emod_lt_of_pos _ hm0
      generalize (upd (upd H e (.lst [])) B (.lst (List.set ((b0 :: bs).map V.int) 0 (.int (b0 / m))))) = H2 at hB2 hD2 hC2 f2 ⊢
      -- if deck[0][0] == 0
      refine ⟨.ref D, rfl, D, _, 0, .ref B, rfl, rfl, SqL.of hD2, atI_nat (j := 0) rfl, B, _, 0, .int (b0 / m), rfl, rfl, SqL.of hB2, atI_nat (j := 0) rfl, rfl, _, rfl, ite2 (fun _ => ?_) (fun _ => ?_)⟩
      · refine ⟨.ref D, rfl, D, _, 0, .ref B, rfl, rfl, SqL.of hD2, atI_nat (j := 0) rfl, .inl ⟨rfl, _, SqL.of hB2⟩, B, _, 0, 0, .int (b0 / m), rfl, rfl, hB2, by decide, by decide, by simp [seqIndex?], rfl, ?_⟩
        refine ⟨.int b0, rfl, .inl ⟨b0, rfl, .int m, rfl, _, _, rfl, rfl, hm0, q _ _ q0 q1 ⟨dk.db, dk.dc, dk.bc, dk.ne, dk.len, ⟨n, ?_⟩, ⟨bs, ?_, upd_same⟩, ?_⟩ fun b o h1 h2 h => ?_⟩⟩
        · rw [upd_ne dk.db]
          exact hD2
        · simp only [List.length_cons] at hbl
          omega
        · rw [upd_ne dk.bc.symm]
          exact hC2
        · rw [upd_ne h2]
          exact f2 b o h1 h2 h
      · exact ⟨.int b0, rfl, .inl ⟨b0, rfl, .int m, rfl, _, _, rfl, rfl, hm0, q _ _ q0 q1 ⟨dk.db, dk.dc, dk.bc, dk.ne, dk.len, ⟨n, hD2⟩, ⟨b0 / m :: bs, hbl, hB2⟩, hC2⟩ f2⟩⟩
    | nil =>
      refine iteF ?_
      -- deck[2] = deck[2] + 1
      refine ⟨.ref D, rfl, D, _, 2, .int n, rfl, rfl, SqL.of hD1, atI_nat (j := 2) rfl, _, _, rfl, rfl, .ref D, rfl, D, _, 2, 2, rfl, rfl, hD1, rfl, ?_⟩
      have hD2 : (upd (upd H e (.lst [])) D (.lst (List.set [.ref B, .ref C, .int n] 2 (.int (n + 1))))) D = some (.lst [.ref B, .ref C, .int (n + 1)]) := upd_same
      have hB2 : (upd (upd H e (.lst [])) D (.lst (List.set [.ref B, .ref C, .int n] 2 (.int (n + 1))))) B = some (.lst []) := by
        rw [upd_ne dk.db.symm]
        exact hB1
      have hC2 : (upd (upd H e (.lst [])) D (.lst (List.set [.ref B, .ref C, .int n] 2 (.int (n + 1))))) C = some (.lst (cells.map V.int)) := by
        rw [upd_ne dk.dc.symm]
        exact hC1
      have f2 : Fr D B H (upd (upd H e (.lst [])) D (.lst (List.set [.ref B, .ref C, .int n] 2 (.int (n + 1))))) := fun b o h1 h2 h => by
        rw [upd_ne h1]
        exact s1 _ _ h
      generalize (upd (upd H e (.lst [])) D (.lst (List.set [.ref B, .ref C, .int n] 2 (.int (n + 1))))) = H2 at hB2 hD2 hC2 f2 ⊢
      have dk2 : DeckAt D B C cells H2 := ⟨dk.db, dk.dc, dk.bc, dk.ne, dk.len, ⟨_, hD2⟩, ⟨[], by decide, hB2⟩, hC2⟩
      -- cell = deck[1][deck[2] % len(deck[1])]
      have hl0 : 0 < cells.length := List.length_pos_iff.mpr dk.ne
      have hlm : (((cells.map V.int).length : Nat) : Int) = (cells.length : Int) := by rw [List.length_map]
      have i0 : 0 ≤ (n + 1) % (cells.length : Int) := Int.emod_nonneg _ (by omega)
      have i1 : (n + 1) % (cells.length : Int) < (cells.length : Int) := Int.emod_lt_of_pos _ (by omega)
      obtain ⟨j, hj⟩ : ∃ j : Nat, (n + 1) % (cells.length : Int) = (j : Int) := ⟨((n + 1) % (cells.length : Int)).toNat, by omega⟩
      have hjl : j < cells.length := by omega
      have hget : (cells.map V.int)[j]? = some (.int cells[j]) := by
        rw [List.getElem?_map, List.getElem?_eq_getElem hjl]
        rfl
      have hix : atI (cells.map V.int) ((n + 1) % (((cells.map V.int).length : Nat) : Int)) = some (.int cells[j]) := by
        rw [hlm, hj]
        exact atI_nat hget
      refine ⟨.ref D, rfl, D, _, 1, .ref C, rfl, rfl, SqL.of hD2, atI_nat (j := 1) rfl, .ref D, rfl, D, _, 2, .int (n + 1), rfl, rfl, SqL.of hD2, atI_nat (j := 2) rfl, .inl ⟨n + 1, rfl, .ref D, rfl, D, _, 1, .ref C, rfl, rfl, SqL.of hD2, atI_nat (j := 1) rfl, C, _, rfl, .inl (SqL.of hC2), _, _, rfl, rfl, by rw [hlm]; omega, C, _, _, .int cells[j], rfl, rfl, SqL.of hC2, hix, ?_⟩⟩
      -- mixed
      refine ⟨.int cells[j], rfl, .inl ⟨cells[j], rfl, _, _, rfl, rfl, (by show (0 : Int) < 4294966297; decide), .ref D, rfl, D, _, 2, .int (n + 1), rfl, rfl, SqL.of hD2, atI_nat (j := 2) rfl, _, _, rfl, rfl, .inl ⟨by decide, by decide⟩, _, _, rfl, rfl, .inl ⟨_, rfl, _, _, rfl, rfl, (by show (0 : Int) < 4294966297; decide), ?_⟩⟩⟩
      have x0 : 0 ≤ (cells[j] % 4294966297 + 1640531527 * (n + 1)) % 4294966297 := Int.emod_nonneg _ (by decide)
      have x1 : (cells[j] % 4294966297 + 1640531527 * (n + 1)) % 4294966297 < 4294966297 := Int.emod_lt_of_pos _ (by decide)
      refine ⟨_, rfl, _, rfl, _, _, rfl, rfl, .inl ⟨Int.lt_of_lt_of_le (by decide) x0, Int.lt_trans x1 (by decide)⟩, .ref D, rfl, D, _, 2, .int (n + 1), rfl, rfl, SqL.of hD2, atI_nat (j := 2) rfl, _, _, rfl, rfl, .inl ⟨by decide, by decide⟩, _, _, rfl, rfl, .inl ⟨_, rfl, _, _, rfl, rfl, (by show (0 : Int) < 4294966237; decide), ?_⟩⟩
      have y0 : 0 ≤ ((cells[j] % 4294966297 + 1640531527 * (n + 1)) % 4294966297 * ((cells[j] % 4294966297 + 1640531527 * (n + 1)) % 4294966297) + 122949823 * (n + 1)) % 4294966237 := Int.emod_nonneg _ (by decide)
      have y1 : ((cells[j] % 4294966297 + 1640531527 * (n + 1)) % 4294966297 * ((cells[j] % 4294966297 + 1640531527 * (n + 1)) % 4294966297) + 122949823 * (n + 1)) % 4294966237 < 4294966237 := Int.emod_lt_of_pos _ (by decide)
      refine ⟨_, rfl, _, rfl, _, _, rfl, rfl, .inl ⟨Int.lt_of_lt_of_le (by decide) y0, Int.lt_trans y1 (by decide)⟩, .inl ⟨_, rfl, _, _, rfl, rfl, (by show (0 : Int) < 4294966187; decide), _, _, rfl, rfl, ⟨by decide, by decide⟩, .int m, rfl, _, _, rfl, rfl, hm0, q _ _ (Int.emod_nonneg _ (by omega)) (Int.emod_lt_of_pos _ hm0) dk2 f2⟩⟩
theorem sz1 {α : Type} {l : List α} (h : Nat.ble l.length 1000 = true) : l.length ≤ sizeLine := Nat.le_of_lt (small1000 (Nat.le_of_ble_eq_true h))
theorem tYes_if {σ : L2.St} {H : Hp} {T E : Hp → Prop} (h : T H) : tYes σ H (fun b H1 => if b = true then T H1 else E H1) := by
  show (if true = true then T H else E H)
  rw [if_pos rfl]
  exact h
def absI (i : Int) : Int := if i < 0 then -i else i
/-- law: the deck is made -/
def spDeck (K : PySem.W.Frag) : Sp := fun vs H Q _ => ∃ (a : Addr) (ns : List Int), vs = [.ref a] ∧ SqL K H a (ns.map V.int) ∧ ns.length ≤ 63 ∧
  ∀ (H' : Hp) (D B C : Addr) (cells : List Int), Same H H' → H D = none → H B = none → H C = none → DeckAt D B C cells H' → Q (.ref D) H'
theorem cut_ints (ns : List Int) (lo hi : Option Int) : ∃ ms : List Int, cutV (ns.map V.int) lo hi = ms.map V.int ∧ ms.length ≤ ns.length := by
  unfold cutV
  refine ⟨(ns.drop _).take _, by rw [List.map_take, List.map_drop], ?_⟩
  rw [List.length_take, List.length_drop]
  omega
theorem ok_deck {f : Addr} {fd : FuncData} (F : Fun K "_law_deck" "_law_deck" sDeck f fd) (ma : mg "abs" = none) (ml : mg "len" = none) : FnOk P w K mg base CX0 1 f fd ["_law_script"] (spDeck K) := by
  refine F.ok scDeck (fun vs H Q E h => ?_) (fun cdv A outer s H vs Q E hr h => ?_)
  · obtain ⟨a, ns, rfl, _⟩ := h
    rfl
  · obtain ⟨a, ns, rfl, hS, hn, q⟩ := h
    refine ⟨_, pss_cons (ps_setLc (i := 1) (own := [("_law_cell", 2)]) (g := gName 2) (tt := tYes) rfl scDeck.nd rfl rfl (sw_true rfl rfl rfl (by decide +kernel)) (pi_list (pe_slice sl_list (pv 0) po_none (po_some pe_int))) (blkOk_by (N := nDeck) (sc := defScope sDeck) (by decide +kernel))
        (fun _ _ _ _ _ => pg_name (i := 2) scDeck.nd rfl (.inl rfl)) (fun _ _ _ _ _ => pts_nil) (fun _ _ _ _ _ => pe_callB call_abs (by rfl) ma PyProof.Rows.boot_abs (pa_cons (pv 2) pa_nil)))
      (pss_one (ps_ret (pe_lst (pa_cons (pe_lc (own := [("_law_cell", 2)]) (g := gName 2) rfl scDeck.nd (pi_list (pv 1)) (blkOk_by (N := nDeck) (sc := defScope sDeck) (by decide +kernel))
          (fun _ _ _ _ _ => pg_name (i := 2) scDeck.nd rfl (.inl rfl)) (fun _ _ _ _ _ => pts_one (pt_cmpR op_ge (pv 2) (pe_op op_pow pe_int pe_int) (nomark _))) (fun _ _ _ _ _ => pv 2))
        (pa_cons (pe_op op_cat (pv 1) (pe_lst (pa_cons (pe_op op_add pe_int (pe_callB call_len_seq (by rfl) ml PySem.boot_len (pa_cons (pv 1) pa_nil))) pa_nil)))
        (pa_cons pe_int pa_nil)))))), ?_⟩
    obtain ⟨ms, hms, hml⟩ := cut_ints ns none (some 63)
    refine ⟨.ref a, rfl, 63, rfl, a, ns.map V.int, rfl, hS, fun c nc => ⟨c, rfl, ⟨_, SqL.of upd_same⟩, fun D1 nD1 => ?_⟩⟩
    rw [hms] at nD1 ⊢
    have s1 : Same H (upd H c (.lst (ms.map V.int))) := same_upd nc
    have s2 : Same (upd H c (.lst (ms.map V.int))) (upd (upd H c (.lst (ms.map V.int))) D1 (.lst [])) := same_upd nD1
    have nD1' : H D1 = none := s1.free nD1
    have nDc : D1 ≠ c := fun e => by
      rw [e, upd_same] at nD1
      cases nD1
    refine lc_list (K := K) (a := c) (xs := ms.map V.int) (fun i H3 => H3 D1 = some (.lst (((ms.take i).map absI).map V.int)) ∧ H3 c = some (.lst (ms.map V.int)) ∧ Same H H3) ⟨upd_same, ?_, s1.trans s2⟩ (fun i H3 _ h => SqL.of h.2.1) ?_ ?_
    · rw [upd_ne nDc.symm]
      exact upd_same
    · rintro i x H3 hi ⟨e1, e2, e3⟩
      have hil : i < ms.length := by
        have := (List.getElem?_eq_some_iff.mp hi).1
        rw [List.length_map] at this
        exact this
      have ex : x = .int ms[i] := by
        rw [List.getElem?_map, List.getElem?_eq_getElem hil] at hi
        exact (Option.some.inj hi).symm
      subst ex
      refine ⟨rfl, tYes_if ?_⟩
      refine ⟨_, rfl, ms[i], rfl, _, e1, ?_, ?_, ?_, ?_⟩
      · simp only [List.length_map, List.length_take]
        exact Nat.lt_of_le_of_lt (Nat.min_le_left _ _) (small1000 (by omega))
      · rw [upd_same, List.take_add_one, List.getElem?_eq_getElem hil, List.map_append, List.map_append]
        rfl
      · rw [upd_ne nDc.symm]
        exact e2
      · intro b o hb
        rw [upd_ne (ne_of_none hb nD1')]
        exact e3 b o hb
    · rintro H3 ⟨e1, e2, e3⟩
      rw [List.length_map, List.take_length] at e1
      refine ⟨_, rfl, D1, rfl, ⟨_, SqL.of e1⟩, fun D2 nD2 => ?_⟩
      have nDD : D2 ≠ D1 := fun e => by
        rw [e, e1] at nD2
        cases nD2
      have sB : Same H3 (upd H3 D2 (.lst [])) := same_upd nD2
      refine lc_list (K := K) (a := D1) (xs := (ms.map absI).map V.int) (fun i H4 => ∃ bs : List Int, bs.length ≤ i ∧ H4 D2 = some (.lst (bs.map V.int)) ∧ H4 D1 = some (.lst ((ms.map absI).map V.int)) ∧ Same H3 H4) ⟨[], Nat.le_refl _, upd_same, ?_, sB⟩ (fun i H3 _ ⟨_, _, _, h, _⟩ => SqL.of h) ?_ ?_
      · rw [upd_ne nDD.symm]
        exact e1
      · rintro i x H4 hi ⟨bs, hb, g1, g2, g3⟩
        obtain ⟨z, rfl⟩ : ∃ z, x = V.int z := by
          rw [List.getElem?_map] at hi
          cases e : (ms.map absI)[i]? with
          | none =>
            rw [e] at hi
            cases hi
          | some z =>
            rw [e] at hi
            exact ⟨z, (Option.some.inj hi).symm⟩
        have hil : i < (ms.map absI).length := by
          have := (List.getElem?_eq_some_iff.mp hi).1
          rw [List.length_map] at this
          exact this
        rw [List.length_map] at hil
        refine ⟨rfl, .int z, rfl, _, _, rfl, rfl, ⟨by decide, by decide, by decide⟩, _, _, rfl, rfl, _, rfl, ite2 (fun _ => ?_) (fun _ => ?_)⟩
        · refine ⟨_, rfl, _, g1, ?_, bs ++ [z], ?_, ?_, ?_, ?_⟩
          · rw [List.length_map]
            exact small1000 (by omega)
          · rw [List.length_append]
            show bs.length + 1 ≤ i + 1
            omega
          · rw [upd_same, List.map_append]
            rfl
          · rw [upd_ne nDD.symm]
            exact g2
          · intro b o hb
            rw [upd_ne (ne_of_none hb nD2)]
            exact g3 b o hb
        · exact ⟨bs, by omega, g1, g2, g3⟩
      · rintro H4 ⟨bs, hb, g1, g2, g3⟩
        rw [List.length_map, List.length_map] at hb
        refine ⟨_, rfl, _, rfl, D1, _, rfl, .inl (SqL.of g2), _, _, rfl, rfl, sz1 rfl, fun e ne => ?_⟩
        have s4 : Same H4 (upd H4 e (.lst [.int (11246 + (((ms.map absI).map V.int).length : Nat))])) := same_upd ne
        refine ⟨D1, e, _, _, rfl, rfl, s4 _ _ g2, upd_same, ?_, fun C nC => ?_⟩
        · rw [List.length_map, List.length_map]
          exact Nat.le_of_lt (small1000 (by simp only [List.length_singleton]; omega))
        refine ⟨sz1 rfl, fun D nD => ?_⟩
        have s5 := same_upd (o := .lst ((ms.map absI).map V.int ++ [.int (11246 + (((ms.map absI).map V.int).length : Nat))])) nC
        have s6 := same_upd (o := .lst [.ref D2, .ref C, .int 0]) nD
        have sE : Same H _ := e3.trans (g3.trans (s4.trans (s5.trans s6)))
        have n4 : H4 D = none := s4.free (s5.free nD)
        have n4C : H4 C = none := s4.free nC
        have hD2 : D2 ≠ D := ne_of_none g1 n4
        have hD2C : D2 ≠ C := ne_of_none g1 n4C
        have hDC : D ≠ C := fun z => by
          rw [z, upd_same] at nD
          cases nD
        refine q _ D D2 C ((ms.map absI) ++ [(11246 : Int) + ((((ms.map absI).map V.int).length : Nat) : Int)]) sE (e3.free (g3.free n4)) (e3.free nD2) (e3.free (g3.free n4C)) ⟨hD2.symm, hDC, hD2C, by simp, ?_, ⟨0, upd_same⟩, ⟨bs, by omega, s6 _ _ (s5 _ _ (s4 _ _ g1))⟩, ?_⟩
        · rw [List.length_append, List.length_map]
          show ms.length + 1 ≤ 64
          omega
        · rw [upd_ne hDC.symm, upd_same, List.map_append]
          rfl

theorem DeckAt.isD {D B C : Addr} {cells : List Int} {H : Hp} (d : DeckAt D B C cells H) : ∃ xs, H D = some (.lst xs) := by
  obtain ⟨n, hn⟩ := d.top
  exact ⟨_, hn⟩
theorem DeckAt.isB {D B C : Addr} {cells : List Int} {H : Hp} (d : DeckAt D B C cells H) : ∃ xs, H B = some (.lst xs) := by
  obtain ⟨bs, _, hb⟩ := d.big
  exact ⟨_, hb⟩
theorem DeckAt.data {D B C : Addr} {cells : List Int} {H H' : Hp} {v : V} {d : PyData} (k : DeckAt D B C cells H) (f : Fr D B H H') (h : Dq D B H v d) : Dq D B H' v d := Dq.keep k.isD k.isB f d v h
theorem DeckAt.dataAll {D B C : Addr} {cells : List Int} {H H' : Hp} {v : List V} {d : List PyData} (k : DeckAt D B C cells H) (f : Fr D B H H') (h : DqAll D B H v d) : DqAll D B H' v d := DqAll.keep k.isD k.isB f d v h
/-- one of the items of a list that is not the deck's -/
def spOne : Sp := fun vs H Q _ => ∃ (D B C : Addr) (cells : List Int) (L : Addr) (xs : List V), vs = [.ref D, .ref L] ∧ DeckAt D B C cells H ∧ H L = some (.lst xs) ∧ L ≠ D ∧ L ≠ B ∧ 0 < xs.length ∧ xs.length < 1073741824 ∧
  ∀ (i : Nat) (v : V) (H' : Hp), xs[i]? = some v → DeckAt D B C cells H' → Fr D B H H' → Q v H'
theorem ok_one {f fd' : Addr} {fd fdD : FuncData} (F : Fun K "_law_one" "_law_one" sOne f fd) (FD : Fun K "_law_draw" "_law_draw" sDraw fd' fdD) (bD : Binds K fdD ["_law_deck_here", "_law_many"] []) (gD : mg "_law_draw" = some (.ref fd')) (mi : mg "int" = none) (ml : mg "len" = none) :
    FnOk P w K mg base CX0 2 f fd ["_law_deck_here", "_law_items"] spOne := by
  have GD : FnOk P w K mg base CX0 1 fd' fdD ["_law_deck_here", "_law_many"] spDraw := ok_draw FD mi ml
  refine F.ok scOne (fun vs H Q E h => ?_) (fun cdv A outer s H vs Q E hr h => ?_)
  · obtain ⟨D, B, C, cells, L, xs, rfl, _⟩ := h
    rfl
  · obtain ⟨D, B, C, cells, L, xs, rfl, dk, hL, nD, nB, h0, h1, q⟩ := h
    refine ⟨_, pss_one (ps_ret (pe_ix ix_list (pv 1) (pe_call GD hr (by rfl) gD FD.kp bD .nil pass0 (pa_cons (pv 0) (pa_cons (pe_callB call_len_seq (by rfl) ml PySem.boot_len (pa_cons (pv 1) pa_nil)) pa_nil))) (fun _ _ => rfl))), ?_⟩
    refine ⟨_, rfl, _, rfl, _, rfl, L, xs, rfl, .inl (SqL.of hL), D, B, C, cells, _, rfl, dk, by omega, by omega, fun i H' i0 i1 dk' f' => ?_⟩
    have hL' := f' _ _ nD nB hL
    obtain ⟨j, rfl⟩ : ∃ j : Nat, i = (j : Int) := ⟨i.toNat, by omega⟩
    have hj : j < xs.length := by omega
    have hg : xs[j]? = some xs[j] := List.getElem?_eq_getElem hj
    exact ⟨L, xs, _, _, rfl, rfl, SqL.of hL', atI_nat hg, q j _ H' hg dk' f'⟩
end
end Jg
namespace Jg
open PySem PySem.Spec PyProof.Rows L2
/-! ### looks at data -/
def tyN : PyData → String
  | .none => "NoneType" | .bool _ => "bool" | .int _ => "int" | .str _ => "str" | .list _ => "list" | .tuple _ => "tuple" | .dict _ => "dict"
def isIB : PyData → Bool
  | .int _ => true | .bool _ => true | _ => false
def isBo : PyData → Bool
  | .bool _ => true | _ => false
def isIn : PyData → Bool
  | .int _ => true | _ => false
def isTu : PyData → Bool
  | .tuple _ => true | _ => false
def within (lo hi : Int) : PyData → Bool
  | .int i => decide (lo ≤ i) && decide (i ≤ hi) | _ => false
def tupOf (n : Int) : PyData → Bool
  | .tuple ds => decide ((ds.length : Int) = n) | _ => false
abbrev M20 : Int := 10 ^ 20
theorem Dq.ty {K : PySem.W.Frag} {D B : Addr} {H : Hp} {v : V} {d : PyData} (h : Dq D B H v d) : TyX K H v (.type (tyN d)) := by
  cases h with
  | non => exact .base .non
  | bl b => exact .base (.bl b)
  | int i => exact .base (.int i)
  | str x => exact .base (.str x)
  | lst _ _ e _ => exact .base (.lst e)
  | tup e _ => exact .base (.tup e)
  | dct e => exact .base (.dK e)
theorem kInt {K : PySem.W.Frag} : ∀ d : PyData, PySem.W.kitOne K (.type (tyN d)) (.type "int") = some (isIB d)
  | .none => kit_ty (a := "NoneType") (by show kitB "NoneType" "int" = some false; decide +kernel)
  | .bool _ => kit_ty (a := "bool") (by show kitB "bool" "int" = some true; decide +kernel)
  | .int _ => kit_ty (a := "int") (by show kitB "int" "int" = some true; decide +kernel)
  | .str _ => kit_ty (a := "str") (by show kitB "str" "int" = some false; decide +kernel)
  | .list _ => kit_ty (a := "list") (by show kitB "list" "int" = some false; decide +kernel)
  | .tuple _ => kit_ty (a := "tuple") (by show kitB "tuple" "int" = some false; decide +kernel)
  | .dict _ => kit_ty (a := "dict") (by show kitB "dict" "int" = some false; decide +kernel)
theorem kBool {K : PySem.W.Frag} : ∀ d : PyData, PySem.W.kitOne K (.type (tyN d)) (.type "bool") = some (isBo d)
  | .none => kit_ty (a := "NoneType") (by show kitB "NoneType" "bool" = some false; decide +kernel)
  | .bool _ => kit_ty (a := "bool") (by show kitB "bool" "bool" = some true; decide +kernel)
  | .int _ => kit_ty (a := "int") (by show kitB "int" "bool" = some false; decide +kernel)
  | .str _ => kit_ty (a := "str") (by show kitB "str" "bool" = some false; decide +kernel)
  | .list _ => kit_ty (a := "list") (by show kitB "list" "bool" = some false; decide +kernel)
  | .tuple _ => kit_ty (a := "tuple") (by show kitB "tuple" "bool" = some false; decide +kernel)
  | .dict _ => kit_ty (a := "dict") (by show kitB "dict" "bool" = some false; decide +kernel)
theorem kTup {K : PySem.W.Frag} : ∀ d : PyData, PySem.W.kitOne K (.type (tyN d)) (.type "tuple") = some (isTu d)
  | .none => kit_ty (a := "NoneType") (by show kitB "NoneType" "tuple" = some false; decide +kernel)
  | .bool _ => kit_ty (a := "bool") (by show kitB "bool" "tuple" = some false; decide +kernel)
  | .int _ => kit_ty (a := "int") (by show kitB "int" "tuple" = some false; decide +kernel)
  | .str _ => kit_ty (a := "str") (by show kitB "str" "tuple" = some false; decide +kernel)
  | .list _ => kit_ty (a := "list") (by show kitB "list" "tuple" = some false; decide +kernel)
  | .tuple _ => kit_ty (a := "tuple") (by show kitB "tuple" "tuple" = some true; decide +kernel)
  | .dict _ => kit_ty (a := "dict") (by show kitB "dict" "tuple" = some false; decide +kernel)
/-- a look: a bool comes, nothing is changed -/
def spLook (n : Nat) (ok : PyData → List V → Prop) (b : PyData → List V → Bool) : Sp := fun vs H Q _ => ∃ (D B : Addr) (v : V) (d : PyData) (ws : List V), vs = v :: ws ∧ ws.length = n ∧ Dq D B H v d ∧ ok d ws ∧ Q (.bl (b d ws)) H
/-! ### the texts -/
abbrev sInt : Stmt := topS 8
abbrev sWith : Stmt := topS 9
abbrev sTupO : Stmt := topS 10
abbrev sWhole : Stmt := topS 27
theorem scInt : FnScope ["value"] ["value"] (defScope sInt) := ⟨rfl, rfl, rfl, by decide +kernel, rfl, by decide +kernel, by decide +kernel⟩
theorem scWith : FnScope ["value", "low", "high"] ["value", "low", "high"] (defScope sWith) := ⟨rfl, rfl, rfl, by decide +kernel, rfl, by decide +kernel, by decide +kernel⟩
theorem scTupO : FnScope ["value", "many"] ["value", "many"] (defScope sTupO) := ⟨rfl, rfl, rfl, by decide +kernel, rfl, by decide +kernel, by decide +kernel⟩
theorem scWhole : FnScope ["_law_value", "_law_least", "_law_most"] ["_law_value", "_law_least", "_law_most"] (defScope sWhole) := ⟨rfl, rfl, rfl, by decide +kernel, rfl, by decide +kernel, by decide +kernel⟩
/-- the built-in names that no def of the text takes -/
structure Bn (mg : Str → Option Value) : Prop where
  isi : mg "isinstance" = none
  int : mg "int" = none
  bool : mg "bool" = none
  tup : mg "tuple" = none
  len : mg "len" = none
  all : mg "all" = none
  rng : mg "range" = none
  lst : mg "list" = none
  str : mg "str" = none
  min : mg "min" = none
  rep : mg "repr" = none
  abs : mg "abs" = none
  max : mg "max" = none
  sum : mg "sum" = none
  enu : mg "enumerate" = none
theorem dec_int2 {i j : Int} : decide (V.int i = V.int j) = decide (i = j) := by
  rw [dec_int]
  rfl
theorem boot_bool' : bootBuiltins "bool" = some (.type "bool") := by decide +kernel
theorem boot_tuple' : bootBuiltins "tuple" = some (.type "tuple") := by decide +kernel
theorem boot_all' : bootBuiltins "all" = some (.builtin "all") := by decide +kernel
section
variable {P : Program} {w : World} {K : PySem.W.Frag} {mg : Str → Option Value} {base : Heap}
def spInt : Sp := fun vs H Q _ => ∃ (D B : Addr) (v : V) (d : PyData), vs = [v] ∧ Dq D B H v d ∧ Q (.bl (isIn d)) H
theorem ok_int {f : Addr} {fd : FuncData} (F : Fun K "is_integer" "is_integer" sInt f fd) (T : Bn mg) : FnOk P w K mg base CX0 1 f fd ["value"] spInt := by
  refine F.ok scInt (fun vs H Q E h => ?_) (fun cdv A outer s H vs Q E hr h => ?_)
  · obtain ⟨D, B, v, d, rfl, _⟩ := h
    rfl
  · obtain ⟨D, B, v, d, rfl, hd, q⟩ := h
    refine ⟨_, pss_one (ps_ret (pe_and (pe_callB call_isi (by rfl) T.isi PyProof.Rows.boot_isinstance (pa_cons (pv 0) (pa_cons (pe_bltn (by rfl) T.int PyProof.Rows.boot_int (v := .ty "int") rfl) pa_nil)))
      (pe_one (pe_not (pe_callB call_isi (by rfl) T.isi PyProof.Rows.boot_isinstance (pa_cons (pv 0) (pa_cons (pe_bltn (by rfl) T.bool boot_bool' (v := .ty "bool") rfl) pa_nil))))))), ?_⟩
    refine ⟨v, rfl, v, .ty "int", _, _, _, rfl, .ty "int", hd.ty, kInt d, _, rfl, ?_⟩
    cases hb : isIB d with
    | false =>
      refine iteF ?_
      have e : isIn d = false := by
        cases d <;> first | rfl | cases hb
      rw [e] at q
      exact q
    | true =>
      refine iteT ⟨v, rfl, v, .ty "bool", _, _, _, rfl, .ty "bool", hd.ty, kBool d, _, rfl, ?_⟩
      have e : isIn d = !isBo d := by
        cases d <;> first | rfl | cases hb
      rw [e] at q
      exact q
def spWith : Sp := fun vs H Q _ => ∃ (D B : Addr) (v : V) (d : PyData) (lo hi : Int), vs = [v, .int lo, .int hi] ∧ Dq D B H v d ∧ Q (.bl (within lo hi d)) H
theorem within_no {lo hi : Int} {d : PyData} (h : isIn d = false) : within lo hi d = false := by
  cases d <;> first | rfl | cases h
theorem isIn_of {D B : Addr} {H : Hp} {v : V} {d : PyData} (hd : Dq D B H v d) (h : isIn d = true) : ∃ i, d = .int i ∧ v = .int i := by
  cases hd <;> first | exact ⟨_, rfl, rfl⟩ | cases h
theorem ok_with {f f1 : Addr} {fd fd1 : FuncData} (F : Fun K "is_within" "is_within" sWith f fd) (F1 : Fun K "is_integer" "is_integer" sInt f1 fd1) (b1 : Binds K fd1 ["value"] []) (g1 : mg "is_integer" = some (.ref f1)) (T : Bn mg) : FnOk P w K mg base CX0 2 f fd ["value", "low", "high"] spWith := by
  have G1 : FnOk P w K mg base CX0 1 f1 fd1 ["value"] spInt := ok_int F1 T
  refine F.ok scWith (fun vs H Q E h => ?_) (fun cdv A outer s H vs Q E hr h => ?_)
  · obtain ⟨D, B, v, d, lo, hi, rfl, _⟩ := h
    rfl
  · obtain ⟨D, B, v, d, lo, hi, rfl, hd, q⟩ := h
    refine ⟨_, pss_one (ps_ret (pe_and (pe_call G1 hr (by rfl) g1 F1.kp b1 .nil pass0 (pa_cons (pv 0) pa_nil)) (pe_one (pe_chain op_le op_le (pv 1) (pv 0) (pv 2))))), ?_⟩
    refine ⟨v, rfl, D, B, v, d, rfl, hd, _, rfl, ?_⟩
    cases hb : isIn d with
    | false =>
      refine iteF ?_
      rw [within_no hb] at q
      exact q
    | true =>
      obtain ⟨i, rfl, rfl⟩ := isIn_of hd hb
      refine iteT ⟨_, rfl, _, rfl, _, _, rfl, rfl, _, rfl, ?_⟩
      have q2 : Q (.bl (decide (lo ≤ i) && decide (i ≤ hi))) H := q
      cases h1 : decide (lo ≤ i) with
      | false =>
        refine iteF ?_
        rw [h1] at q2
        exact q2
      | true =>
        refine iteT ⟨_, rfl, _, _, rfl, rfl, ?_⟩
        rw [h1] at q2
        exact q2
def spTupO : Sp := fun vs H Q _ => ∃ (D B : Addr) (v : V) (d : PyData) (n : Int), vs = [v, .int n] ∧ Dq D B H v d ∧ Q (.bl (tupOf n d)) H
theorem isTu_of {D B : Addr} {H : Hp} {v : V} {d : PyData} (hd : Dq D B H v d) (h : isTu d = true) : ∃ a xs ds, d = .tuple ds ∧ v = .ref a ∧ H a = some (.tup xs) ∧ DqAll D B H xs ds := by
  cases hd with
  | tup e ha => exact ⟨_, _, _, rfl, rfl, e, ha⟩
  | _ => cases h
theorem tupOf_no {n : Int} {d : PyData} (h : isTu d = false) : tupOf n d = false := by
  cases d <;> first | rfl | cases h
theorem ok_tupO {f : Addr} {fd : FuncData} (F : Fun K "is_tuple_of" "is_tuple_of" sTupO f fd) (T : Bn mg) : FnOk P w K mg base CX0 1 f fd ["value", "many"] spTupO := by
  refine F.ok scTupO (fun vs H Q E h => ?_) (fun cdv A outer s H vs Q E hr h => ?_)
  · obtain ⟨D, B, v, d, n, rfl, _⟩ := h
    rfl
  · obtain ⟨D, B, v, d, n, rfl, hd, q⟩ := h
    refine ⟨_, pss_one (ps_ret (pe_and (pe_callB call_isi (by rfl) T.isi PyProof.Rows.boot_isinstance (pa_cons (pv 0) (pa_cons (pe_bltn (by rfl) T.tup boot_tuple' (v := .ty "tuple") rfl) pa_nil)))
      (pe_one (pe_cmpR op_eq (pe_callB call_len_seq (by rfl) T.len PySem.boot_len (pa_cons (pv 0) pa_nil)) (pv 1) (nomark _))))), ?_⟩
    refine ⟨v, rfl, v, .ty "tuple", _, _, _, rfl, .ty "tuple", hd.ty, kTup d, _, rfl, ?_⟩
    cases hb : isTu d with
    | false =>
      refine iteF ?_
      rw [tupOf_no hb] at q
      exact q
    | true =>
      obtain ⟨a, xs, ds, rfl, rfl, e, ha⟩ := isTu_of hd hb
      refine iteT ⟨_, rfl, a, xs, rfl, .inr (SqT.of e), _, rfl, rfl, ?_⟩
      have q2 : Q (.bl (decide ((ds.length : Int) = n))) H := q
      rw [← ha.len, ← dec_int2] at q2
      exact q2
end
end Jg
namespace Jg
open PySem PySem.Spec PyProof.Rows L2
theorem smallM {n : Nat} (h : n ≤ 1000000) : n < sizeLine := Nat.lt_of_le_of_lt h (by rw [sizeLine_eq]; decide)
theorem DqAll.at_ {D B : Addr} {H : Hp} : ∀ {xs : List V} {ds : List PyData}, DqAll D B H xs ds → ∀ (i : Nat) (x : V), xs[i]? = some x → ∃ d, ds[i]? = some d ∧ Dq D B H x d
  | _, _, .nil, _, _, e => by simp at e
  | _, _, .cons h _, 0, _, e => by
    simp at e
    subst e
    exact ⟨_, rfl, h⟩
  | _, _, .cons _ h, i + 1, x, e => by
    obtain ⟨d, e2, q⟩ := h.at_ i x (by simpa using e)
    exact ⟨d, by simpa using e2, q⟩
/-- data stays where all that was stays -/
theorem Dq.same {D B : Addr} {H H' : Hp} {v : V} {d : PyData} (s : Same H H') (h : Dq D B H v d) : Dq D B H' v d := by
  refine Dq.rec (D := D) (B := B) (H := H) (motive_1 := fun v d _ => Dq D B H' v d) (motive_2 := fun vs ds _ => DqAll D B H' vs ds) .non .bl .int .str ?_ ?_ ?_ .nil ?_ h
  · exact fun h1 h2 e _ k => .lst h1 h2 (s _ _ e) k
  · exact fun e _ k => .tup (s _ _ e) k
  · exact fun e => .dct (s _ _ e)
  · exact fun _ _ k1 k2 => .cons k1 k2
theorem DqAll.same {D B : Addr} {H H' : Hp} (s : Same H H') : ∀ {vs : List V} {ds : List PyData}, DqAll D B H vs ds → DqAll D B H' vs ds
  | _, _, .nil => .nil
  | _, _, .cons a b => .cons (a.same s) (b.same s)
theorem take_map_next {α β : Type} {f : α → β} {xs : List α} {i : Nat} {x : α} (h : xs[i]? = some x) : (xs.take (i + 1)).map f = (xs.take i).map f ++ [f x] := by
  rw [List.take_add_one, h, List.map_append]
  rfl
/-! ### tuples made of tuples, whatever is shared -/
theorem cut_whole {xs : List V} {lo hi : Option Int} (h : HT.sIx xs.length 0 lo = 0 ∧ HT.sIx xs.length xs.length hi = xs.length) : cutV xs lo hi = xs := by
  unfold cutV
  rw [h.1, h.2, List.drop_zero, Nat.sub_zero, List.take_length]
theorem sl_read {K : PySem.W.Frag} {H : Hp} {a : Addr} {xs : List V} {lo hi : Option Int} {Q : VK} (e : H a = some (.tup xs)) (q : ∀ b H', Same H H' → H' b = some (.tup (cutV xs lo hi)) → Q (.ref b) H') : rSlA K (.ref a) lo hi H Q :=
  ⟨a, xs, rfl, SqT.of e, fun z => q a H (Same.refl H) (by rw [cut_whole z]; exact e), fun _ p np => q p _ (same_upd np) upd_same⟩
theorem cat_read {K : PySem.W.Frag} {H : Hp} {a b : Addr} {xs ys : List V} {Q : VK} (e : H a = some (.tup xs)) (e2 : H b = some (.tup ys)) (hz : xs.length + ys.length ≤ 1000) (q : ∀ c H', Same H H' → H' c = some (.tup (xs ++ ys)) → Q (.ref c) H') : rCatA K (.ref a) (.ref b) H Q := by
  refine ⟨a, b, xs, ys, rfl, rfl, SqT.of e, SqT.of e2, Nat.le_of_lt (small1000 hz), fun z => q b H (Same.refl H) ?_, fun _ z => q a H (Same.refl H) ?_, fun _ _ p np => q p _ (same_upd np) upd_same⟩
  · rw [z, List.nil_append]
    exact e2
  · rw [z, List.append_nil]
    exact e
theorem cutV_from (xs : List V) (k : Nat) : cutV xs (some (k : Int)) none = xs.drop k := by
  unfold cutV
  rw [HT.sIx_nat, HT.sIx_none]
  by_cases h : k ≤ xs.length
  · rw [Nat.min_eq_left h, List.take_of_length_le (by rw [List.length_drop]; omega)]
  · rw [Nat.min_eq_right (by omega), List.drop_eq_nil_of_le (Nat.le_refl _), List.drop_eq_nil_of_le (by omega), List.take_nil]
theorem cutV_to (xs : List V) (k : Nat) : cutV xs none (some (k : Int)) = xs.take k := by
  unfold cutV
  rw [HT.sIx_nat, HT.sIx_none, List.drop_zero, Nat.sub_zero]
  by_cases h : k ≤ xs.length
  · rw [Nat.min_eq_left h]
  · rw [Nat.min_eq_right (by omega), List.take_length, List.take_of_length_le (by omega)]
theorem Dq.tupE {D B : Addr} {H : Hp} {v : V} {ds : List PyData} (h : Dq D B H v (.tuple ds)) : ∃ a xs, v = .ref a ∧ H a = some (.tup xs) ∧ DqAll D B H xs ds := by
  cases h with
  | tup e ha => exact ⟨_, _, rfl, e, ha⟩
theorem Dq.intE {D B : Addr} {H : Hp} {v : V} {i : Int} (h : Dq D B H v (.int i)) : v = .int i := by
  cases h
  rfl
theorem DqAll.take {D B : Addr} {H : Hp} : ∀ {xs : List V} {ds : List PyData} (k : Nat), DqAll D B H xs ds → DqAll D B H (xs.take k) (ds.take k)
  | _, _, 0, _ => by
    rw [List.take_zero, List.take_zero]
    exact .nil
  | _, _, _ + 1, .nil => .nil
  | _, _, k + 1, .cons a b => .cons a (b.take k)
theorem DqAll.drop {D B : Addr} {H : Hp} : ∀ {xs : List V} {ds : List PyData} (k : Nat), DqAll D B H xs ds → DqAll D B H (xs.drop k) (ds.drop k)
  | _, _, 0, h => h
  | _, _, _ + 1, .nil => .nil
  | _, _, k + 1, .cons _ b => b.drop k
theorem DqAll.append {D B : Addr} {H : Hp} {ys : List V} {es : List PyData} (h2 : DqAll D B H ys es) : ∀ {xs : List V} {ds : List PyData}, DqAll D B H xs ds → DqAll D B H (xs ++ ys) (ds ++ es)
  | _, _, .nil => h2
  | _, _, .cons a b => .cons a (DqAll.append h2 b)
/-- the defs that draw -/
structure Dr (K : PySem.W.Frag) (mg : Str → Option Value) (fD : Addr) (fdD : FuncData) : Prop where
  F : Fun K "_law_draw" "_law_draw" sDraw fD fdD
  b : Binds K fdD ["_law_deck_here", "_law_many"] []
  g : mg "_law_draw" = some (.ref fD)
structure On (K : PySem.W.Frag) (mg : Str → Option Value) (fO : Addr) (fdO : FuncData) : Prop where
  F : Fun K "_law_one" "_law_one" sOne fO fdO
  b : Binds K fdO ["_law_deck_here", "_law_items"] []
  g : mg "_law_one" = some (.ref fO)
theorem tupOf_yes {D B : Addr} {H : Hp} {v : V} {d : PyData} {n : Int} (hd : Dq D B H v d) (h : tupOf n d = true) : ∃ a xs ds, d = .tuple ds ∧ v = .ref a ∧ H a = some (.tup xs) ∧ DqAll D B H xs ds ∧ (ds.length : Int) = n := by
  cases hd with
  | tup e ha => exact ⟨_, _, _, rfl, rfl, e, ha, of_decide_eq_true h⟩
  | _ => cases h
section
variable {P : Program} {w : World} {K : PySem.W.Frag} {mg : Str → Option Value} {base : Heap}
theorem ok_whole {f : Addr} {fd : FuncData} (F : Fun K "_law_whole" "_law_whole" sWhole f fd) (T : Bn mg) : FnOk P w K mg base CX0 1 f fd ["_law_value", "_law_least", "_law_most"] spWith := by
  refine F.ok scWhole (fun vs H Q E h => ?_) (fun cdv A outer s H vs Q E hr h => ?_)
  · obtain ⟨D, B, v, d, lo, hi, rfl, _⟩ := h
    rfl
  · obtain ⟨D, B, v, d, lo, hi, rfl, hd, q⟩ := h
    refine ⟨_, pss_one (ps_ret (pe_and (pe_callB call_isi (by rfl) T.isi PyProof.Rows.boot_isinstance (pa_cons (pv 0) (pa_cons (pe_bltn (by rfl) T.int PyProof.Rows.boot_int (v := .ty "int") rfl) pa_nil)))
      (pe_and (pe_not (pe_callB call_isi (by rfl) T.isi PyProof.Rows.boot_isinstance (pa_cons (pv 0) (pa_cons (pe_bltn (by rfl) T.bool boot_bool' (v := .ty "bool") rfl) pa_nil))))
        (pe_one (pe_chain op_le op_le (pv 1) (pv 0) (pv 2)))))), ?_⟩
    refine ⟨v, rfl, v, .ty "int", _, _, _, rfl, .ty "int", hd.ty, kInt d, _, rfl, ?_⟩
    cases hb : isIB d with
    | false =>
      have e : isIn d = false := by
        cases d <;> first | rfl | cases hb
      rw [within_no e] at q
      exact iteF q
    | true =>
      refine iteT ⟨v, rfl, v, .ty "bool", _, _, _, rfl, .ty "bool", hd.ty, kBool d, _, rfl, ?_⟩
      cases hb2 : isBo d with
      | true =>
        have e : isIn d = false := by
          cases d <;> first | rfl | cases hb2
        rw [within_no e] at q
        exact ⟨_, rfl, iteF q⟩
      | false =>
        have hi2 : isIn d = true := by
          cases d <;> first | rfl | exact Bool.noConfusion (show false = true from hb) | exact Bool.noConfusion (show true = false from hb2)
        obtain ⟨i, rfl, rfl⟩ := isIn_of hd hi2
        refine ⟨_, rfl, iteT ⟨_, rfl, _, rfl, _, _, rfl, rfl, _, rfl, ?_⟩⟩
        have q2 : Q (.bl (decide (lo ≤ i) && decide (i ≤ hi))) H := q
        cases h1 : decide (lo ≤ i) with
        | false =>
          rw [h1] at q2
          exact iteF q2
        | true =>
          rw [h1] at q2
          exact iteT ⟨_, rfl, _, _, rfl, rfl, q2⟩

end
end Jg
namespace Jg
open PySem PySem.Spec PyProof.Rows L2
/-! ### t * 1 is t, t * 0 is () -/
theorem tmul_one (l : Addr) (its : Array Value) (n : Nat) (dd : Option Addr) (sl : Array (Option Value)) (u : Tok) :
    Meets (Builtin.«tuple.__mul__» ⟨[.ref l, .int 1 u], []⟩) (fun _ R s => s.heap.get? l = some { cls := .type "tuple", dict := dd, data := .seq its n, slots := sl } ∧ R (.ok (.ret (Value.ref l))) s) := by
  refine .of_wp fun prog w A R s h => ?_
  obtain ⟨hp, g, d, tk, os⟩ := s
  obtain ⟨hl, h⟩ := h
  have f1 := AutoSeq1.idx_int
  have c1 : (its.isEmpty || (1 : Int) == 1) = true := by simp
  wp_walk using AutoSeq1.wpAny_loadPart' hl
  exact ⟨_, rfl, h⟩
theorem tmul_nought (l : Addr) (its : Array Value) (n : Nat) (dd : Option Addr) (sl : Array (Option Value)) (u : Tok) (hi : its.isEmpty = false) :
    Meets (Builtin.«tuple.__mul__» ⟨[.ref l, .int 0 u], []⟩) (fun _ R s => s.heap.get? l = some { cls := .type "tuple", dict := dd, data := .seq its n, slots := sl } ∧
      R (.ok (.ret (Value.ref s.heap.objs.size))) { s with heap := s.heap.push { cls := Value.type "tuple", data := Data.seq #[] }, toks := s.toks }) := by
  refine .of_wp fun prog w A R s h => ?_
  obtain ⟨hp, g, d, tk, os⟩ := s
  obtain ⟨hl, h⟩ := h
  have f1 := AutoSeq1.idx_int
  have c1 : (its.isEmpty || (0 : Int) == 1) = false := by rw [hi]; rfl
  wp_walk using AutoSeq1.wpAny_loadPart' hl
  first
    | exact ⟨_, rfl, h⟩
    | (refine wpAny_ite_false (decide_eq_false (by rw [c1]; exact Bool.false_ne_true)) ?_
       wp_walk using AutoSeq1.wpAny_loadPart' hl
       exact ⟨_, rfl, h⟩)
section
variable {X : Cx}
/-- t * k, k from 0 to 8 -/
def rRepA : R2 := fun x y H Q => ∃ (l : Addr) (k : Nat) (xs : List V), x = .ref l ∧ y = .int (k : Int) ∧ H l = some (.tup xs) ∧ xs ≠ [] ∧ k ≤ 8 ∧ xs.length ≤ 100 ∧ ∀ p H', Same H H' → H' p = some (.tup (List.replicate k xs).flatten) → Q (.ref p) H'
theorem op_repA : OpR X (binaryOp .Mult) rRepA := by
  intro pins s σ H x y v u Q I rx ry h
  obtain ⟨l, k, xs, rfl, rfl, hT, hne, hk, hz, q⟩ := h
  by_cases h2 : 2 ≤ k
  · refine op_repT pins s σ H _ _ v u Q I rx ry ⟨l, (k : Int), xs, rfl, rfl, SqT.of hT, hne, by omega, by omega, by omega, fun p np => q p _ (same_upd np) ?_⟩
    rw [upd_same]
    rfl
  · cases rx
    obtain ⟨t, rfl⟩ := ry
    obtain ⟨its, r, ⟨⟨cls, dd, data, sl⟩, ho, hc, n, hd⟩, hs⟩ := I.tuple (SqT.of hT)
    simp only at hc hd
    subst hc hd
    have hi : its.toArray.isEmpty = false := by
      cases its with
      | nil =>
        cases r
        exact absurd rfl hne
      | cons a b => rfl
    have two : k = 0 ∨ k = 1 := by omega
    rcases two with rfl | rfl
    · refine wpAny_binaryOp_repeat_ref (T := "tuple") (U := "int") (by decide) ⟨_, ho, rfl⟩ (fun s' => typeIs_int s' _ t) noFill_tuple_mul F.fills_int_mul F.slot_int_rmul repeat_tuple F.slot_int_index.lookup
        (call_meets F.slot_int_rmul (typeIs_int s _ t) F.entry_int_rmul (F.args_int_rmul_2 _ _) (int_rmul_tuple _ t l its.toArray n dd sl) ⟨ho, rfl, ⟨_, ho, rfl⟩, call_meets F.slot_tuple_mul ⟨_, ho, rfl⟩ F.entry_tuple_mul (F.args_tuple_mul_2 _ _) (tmul_nought l its.toArray n dd sl t hi) ⟨ho, ?_⟩⟩)
      have nf : H s.heap.objs.size = none := I.hok.fresh (Nat.le_refl _)
      refine ⟨.ref s.heap.objs.size, _, I.laid (t' := s.toks) (o := .tup []) (fun b ob z => Heap.get?_push_of_some _ z) (Nat.le_refl _) ?_, rfl, q _ _ (same_upd nf) upd_same⟩
      exact ⟨Nat.zero_le _, [], .nil, IsTup.new _ _⟩
    · refine wpAny_binaryOp_repeat_ref (T := "tuple") (U := "int") (by decide) ⟨_, ho, rfl⟩ (fun s' => typeIs_int s' _ t) noFill_tuple_mul F.fills_int_mul F.slot_int_rmul repeat_tuple F.slot_int_index.lookup
        (call_meets F.slot_int_rmul (typeIs_int s _ t) F.entry_int_rmul (F.args_int_rmul_2 _ _) (int_rmul_tuple _ t l its.toArray n dd sl) ⟨ho, rfl, ⟨_, ho, rfl⟩, call_meets F.slot_tuple_mul ⟨_, ho, rfl⟩ F.entry_tuple_mul (F.args_tuple_mul_2 _ _) (tmul_one l its.toArray n dd sl t) ⟨ho, ?_⟩⟩)
      exact ⟨.ref l, H, I, rfl, q l H (Same.refl H) (by rw [hT, List.replicate_one, List.flatten_cons, List.flatten_nil, List.append_nil])⟩
end
end Jg
namespace Jg
open PySem PySem.Spec PyProof.Rows L2
/-! ### written data -/
theorem pe_imp {X : Cx} {e : Expr} {t t' : TE} (h : PE X e t) (k : ∀ σ H Q, t' σ H Q → t σ H Q) : PE X e t' := ⟨fun pins s σ H Q I q => h.run pins s σ H Q I (k σ H Q q)⟩
theorem pa_imp {X : Cx} {es : List Expr} {t t' : TA} (h : PA X es t) (k : ∀ σ H Q, t' σ H Q → t σ H Q) : PA X es t' := ⟨fun pos pins s σ H Q I q => h.run pos pins s σ H Q I (k σ H Q q)⟩
def tLit (d : PyData) : TE := fun σ H Q => ∀ v H', Same H H' → (∀ D B, H D ≠ none → H B ≠ none → Dq D B H' v d) → Q v H'
def tLits (ds : List PyData) : TA := fun σ H Q => ∀ vs H', Same H H' → vs.length = ds.length → (∀ D B, H D ≠ none → H B ≠ none → DqAll D B H' vs ds) → Q vs H'
theorem Same.some {H H' : Hp} (s : Same H H') {a : Addr} (h : H a ≠ none) : H' a ≠ none := by
  cases e : H a with
  | none => exact absurd e h
  | some o =>
    rw [s a o e]
    exact fun z => nomatch z
section
variable {X : Cx} {pos : Pos}
theorem lit_int {i : Int} {j} : PE X (.Constant (.int i) j pos) (tLit (.int i)) := pe_imp pe_int fun σ H Q q => q (.int i) H (Same.refl H) fun _ _ _ _ => .int i
theorem lit_bl {b : Bool} {j} : PE X (.Constant (.bool b) j pos) (tLit (.bool b)) := pe_imp pe_bl fun σ H Q q => q (.bl b) H (Same.refl H) fun _ _ _ _ => .bl b
theorem lit_non {j} : PE X (.Constant .none j pos) (tLit .none) := pe_imp pe_non fun σ H Q q => q .non H (Same.refl H) fun _ _ _ _ => .non
theorem lit_str {x : Str} {j} : PE X (.Constant (.str x) j pos) (tLit (.str x)) := pe_imp pe_str fun σ H Q q => q (.str x) H (Same.refl H) fun _ _ _ _ => .str x
theorem lit_neg {i : Int} {j} {p : Pos} : PE X (.UnaryOp .USub (.Constant (.int i) j p) pos) (tLit (.int (-i))) := pe_imp (pe_un un_neg pe_int) fun σ H Q q => ⟨i, rfl, q (.int (-i)) H (Same.refl H) fun _ _ _ _ => .int (-i)⟩
theorem lit_pow {i j : Int} {a b} {p1 p2 : Pos} (h : CPow i j) : PE X (.BinOp (.Constant (.int i) a p1) .Pow (.Constant (.int j) b p2) pos) (tLit (.int (i ^ j.toNat))) := pe_imp (pe_op op_pow pe_int pe_int) fun σ H Q q => ⟨i, j, rfl, rfl, h, q _ H (Same.refl H) fun _ _ _ _ => .int _⟩
theorem lits_nil : PA X [] (tLits []) := pa_imp pa_nil fun σ H Q q => q [] H (Same.refl H) rfl fun _ _ _ _ => .nil
theorem lits_cons {e : Expr} {es : List Expr} {d : PyData} {ds : List PyData} (h : PE X e (tLit d)) (hr : PA X es (tLits ds)) (hs : starEach (e :: es) X.env = (false, eval e X.env) :: starEach es X.env := by rfl) : PA X (e :: es) (tLits (d :: ds)) :=
  pa_imp (pa_cons h hr hs) fun σ H Q q v H1 s1 h1 vs H2 s2 l2 h2 => q (v :: vs) H2 (s1.trans s2) (congrArg Nat.succ l2) fun D B nD nB => .cons ((h1 D B nD nB).same s2) (h2 D B (Same.some s1 nD) (Same.some s1 nB))
theorem lit_tup {es : List Expr} {ds : List PyData} {k} (h : PA X es (tLits ds)) (hz : Nat.ble ds.length 1000 = true := by rfl) : PE X (.Tuple es k pos) (tLit (.tuple ds)) :=
  pe_imp (pe_tup h) fun σ H Q q vs H1 s1 l1 h1 => ⟨by rw [l1]; exact sz1 hz, fun p np => q (.ref p) _ (s1.trans (same_upd np)) fun D B nD nB => .tup upd_same ((h1 D B nD nB).same (same_upd np))⟩
theorem lit_lst {es : List Expr} {ds : List PyData} (h : PA X es (tLits ds)) (hz : Nat.ble ds.length 1000 = true := by rfl) : PE X (.List es pos) (tLit (.list ds)) :=
  pe_imp (pe_lst h) fun σ H Q q vs H1 s1 l1 h1 => ⟨by rw [l1]; exact sz1 hz, fun p np => q (.ref p) _ (s1.trans (same_upd np)) fun D B nD nB =>
    .lst (fun z => Same.some s1 nD (by rw [← z]; exact np)) (fun z => Same.some s1 nB (by rw [← z]; exact np)) upd_same ((h1 D B nD nB).same (same_upd np))⟩
theorem lit_dct : PE X (.Dict [] [] pos) (tLit (.dict [])) := pe_imp pe_dnewK fun σ H Q q p np => q (.ref p) _ (same_upd np) fun _ _ _ _ => .dct upd_same
/-- a list display of written data, as a list -/
theorem lit_list {es : List Expr} {ds : List PyData} (h : PA X es (tLits ds)) (hz : Nat.ble ds.length 1000 = true := by rfl) :
    PE X (.List es pos) (fun σ H Q => ∀ p vs H', Same H H' → H p = none → H' p = some (.lst vs) → vs.length = ds.length → (∀ D B, H D ≠ none → H B ≠ none → DqAll D B H' vs ds) → Q (.ref p) H') :=
  pe_imp (pe_lst h) fun σ H Q q vs H1 s1 l1 h1 => ⟨by rw [l1]; exact sz1 hz, fun p np => q p vs _ (s1.trans (same_upd np)) (s1.free np) upd_same l1 fun D B nD nB => (h1 D B nD nB).same (same_upd np)⟩
end
def S (x : String) : Str := Str.ofString x
def odd1 : List PyData := [.none, .bool true, .bool false, .int 0, .int 1, .int 2, .int (-1), .int (10 ^ (30 : Int).toNat), .str (S ""), .str (S "0"), .str (S "in"), .tuple [], .list [], .dict [], .tuple [.int 0], .tuple [.int 1], .tuple [.int 0, .int 1], .tuple [.bool true, .int 0], .list [.int 0]]
def odd2 : List PyData := [.tuple [.str (S "in"), .int 0], .tuple [.str (S "set"), .int 1], .tuple [.str (S "neg"), .int 0], .tuple [.str (S "+"), .int 0, .int 0], .tuple [.str (S "*"), .int 0], .tuple [.str (S "in"), .bool true], .tuple [.str (S "+"), .int 0, .int (-1)], .tuple [.str (S "/"), .int 0, .int 0]]
def odd3 : List PyData := [.tuple [.none], .tuple [.int (-1)], .tuple [.int 1, .tuple [.tuple [.str (S "in"), .int 0]], .tuple [.int 0]], .tuple [.int 0, .tuple [], .tuple []], .tuple [.tuple [.int 0], .int 1], .tuple [.str (S "in")], .int 64, .int 65]
def oddD : List PyData := (odd1 ++ odd2) ++ odd3
abbrev sOdd : Stmt := topS 28
theorem scOdd : FnScope ["_law_deck_here", "_law_some"] ["_law_deck_here"] (defScope sOdd) := ⟨rfl, rfl, rfl, by decide +kernel, rfl, by decide +kernel, by decide +kernel⟩
theorem DeckAt.nD {D B C : Addr} {cells : List Int} {H : Hp} (d : DeckAt D B C cells H) : H D ≠ none := by
  obtain ⟨xs, h⟩ := d.isD
  rw [h]
  exact fun z => nomatch z
theorem DeckAt.nB {D B C : Addr} {cells : List Int} {H : Hp} (d : DeckAt D B C cells H) : H B ≠ none := by
  obtain ⟨xs, h⟩ := d.isB
  rw [h]
  exact fun z => nomatch z
theorem DeckAt.neD {D B C : Addr} {cells : List Int} {H : Hp} (d : DeckAt D B C cells H) {p : Addr} (h : H p = none) : p ≠ D := fun z => d.nD (by rw [← z]; exact h)
theorem DeckAt.neB {D B C : Addr} {cells : List Int} {H : Hp} (d : DeckAt D B C cells H) {p : Addr} (h : H p = none) : p ≠ B := fun z => d.nB (by rw [← z]; exact h)
mutual
/-- what lies at neither D nor B stays, said of any two others -/
theorem Dq.two {D B Z Y : Addr} {H H' : Hp} (hD : ∃ xs, H D = some (.lst xs)) (hB : ∃ xs, H B = some (.lst xs)) (f : Fr D B H H') : ∀ (d : PyData) (v : V), Dq D B H v d → Dq Z Y H v d → Dq Z Y H' v d
  | .none, _, _, h => by
    cases h
    exact .non
  | .bool _, _, _, h => by
    cases h
    exact .bl _
  | .int _, _, _, h => by
    cases h
    exact .int _
  | .str _, _, _, h => by
    cases h
    exact .str _
  | .list ds, _, k, h => by
    cases k with
    | lst k1 k2 k3 k4 =>
      cases h with
      | lst h1 h2 h3 h4 =>
        rw [k3] at h3
        cases h3
        exact .lst h1 h2 (f _ _ k1 k2 k3) (DqAll.two hD hB f ds _ k4 h4)
  | .tuple ds, _, k, h => by
    obtain ⟨xD, eD⟩ := hD
    obtain ⟨xB, eB⟩ := hB
    cases k with
    | tup k3 k4 =>
      cases h with
      | tup h3 h4 =>
        rw [k3] at h3
        cases h3
        refine .tup (f _ _ (fun z => ?_) (fun z => ?_) k3) (DqAll.two ⟨xD, eD⟩ ⟨xB, eB⟩ f ds _ k4 h4)
        · rw [z, eD] at k3
          cases k3
        · rw [z, eB] at k3
          cases k3
  | .dict ds, _, k, h => by
    obtain ⟨xD, eD⟩ := hD
    obtain ⟨xB, eB⟩ := hB
    cases h with
    | dct h3 =>
      refine .dct (f _ _ (fun z => ?_) (fun z => ?_) h3)
      · rw [z, eD] at h3
        cases h3
      · rw [z, eB] at h3
        cases h3
theorem DqAll.two {D B Z Y : Addr} {H H' : Hp} (hD : ∃ xs, H D = some (.lst xs)) (hB : ∃ xs, H B = some (.lst xs)) (f : Fr D B H H') : ∀ (ds : List PyData) (vs : List V), DqAll D B H vs ds → DqAll Z Y H vs ds → DqAll Z Y H' vs ds
  | [], _, _, h => by
    cases h
    exact .nil
  | d :: ds, _, k, h => by
    cases k with
    | cons k1 k2 =>
      cases h with
      | cons h1 h2 => exact .cons (Dq.two hD hB f d _ k1 h1) (DqAll.two hD hB f ds _ k2 h2)
end
theorem DeckAt.two {D B C Z Y : Addr} {cells : List Int} {H H' : Hp} {v : V} {d : PyData} (k : DeckAt D B C cells H) (f : Fr D B H H') (h : Dq D B H v d) (z : Dq Z Y H v d) : Dq Z Y H' v d := Dq.two k.isD k.isB f d v h z
theorem DeckAt.alive {D B C Z : Addr} {cells : List Int} {H H' : Hp} (k : DeckAt D B C cells H') (f : Fr D B H H') (h : H Z ≠ none) : H' Z ≠ none := by
  by_cases hD : Z = D
  · rw [hD]
    exact k.nD
  · by_cases hB : Z = B
    · rw [hB]
      exact k.nB
    · cases e : H Z with
      | none => exact absurd e h
      | some o =>
        rw [f Z o hD hB e]
        exact fun z => nomatch z
def spOdd : Sp := fun vs H Q _ => ∃ (D B C : Addr) (cells : List Int), vs = [.ref D] ∧ DeckAt D B C cells H ∧ ∀ (v : V) (d : PyData) (H' : Hp), d ∈ oddD → Dq D B H' v d → (∀ Z, H Z ≠ none → Dq Z Z H' v d) → DeckAt D B C cells H' → Fr D B H H' → Q v H'
section
variable {P : Program} {w : World} {K : PySem.W.Frag} {mg : Str → Option Value} {base : Heap}
theorem ok_odd {f fO fD : Addr} {fd fdO fdD : FuncData} (F : Fun K "_law_odd" "_law_odd" sOdd f fd) (FO : Fun K "_law_one" "_law_one" sOne fO fdO) (bO : Binds K fdO ["_law_deck_here", "_law_items"] []) (gO : mg "_law_one" = some (.ref fO))
    (FD : Fun K "_law_draw" "_law_draw" sDraw fD fdD) (bD : Binds K fdD ["_law_deck_here", "_law_many"] []) (gD : mg "_law_draw" = some (.ref fD)) (T : Bn mg) : FnOk P w K mg base CX0 3 f fd ["_law_deck_here"] spOdd := by
  have GO : FnOk P w K mg base CX0 2 fO fdO ["_law_deck_here", "_law_items"] spOne := ok_one FO FD bD gD T.int T.len
  refine F.ok scOdd (fun vs H Q E h => ?_) (fun cdv A outer s H vs Q E hr h => ?_)
  · obtain ⟨D, B, C, cells, rfl, _⟩ := h
    rfl
  · obtain ⟨D, B, C, cells, rfl, dk, q⟩ := h
    refine ⟨_, pss_cons (ps_set (i := 1) scOdd.nd rfl (.inl rfl) (lit_list (ds := odd1) (lits_cons lit_non (lits_cons lit_bl (lits_cons lit_bl (lits_cons lit_int (lits_cons lit_int (lits_cons lit_int (lits_cons lit_neg (lits_cons (lit_pow ⟨by decide, by decide, by decide⟩)
        (lits_cons lit_str (lits_cons lit_str (lits_cons lit_str (lits_cons (lit_tup lits_nil) (lits_cons (lit_lst lits_nil) (lits_cons lit_dct (lits_cons (lit_tup (lits_cons lit_int lits_nil)) (lits_cons (lit_tup (lits_cons lit_int lits_nil))
        (lits_cons (lit_tup (lits_cons lit_int (lits_cons lit_int lits_nil))) (lits_cons (lit_tup (lits_cons lit_bl (lits_cons lit_int lits_nil))) (lits_cons (lit_lst (lits_cons lit_int lits_nil)) lits_nil)))))))))))))))))))))
      (pss_cons (ps_set (i := 1) scOdd.nd rfl (.inl rfl) (pe_op op_cat (pv 1) (lit_list (ds := odd2) (lits_cons (lit_tup (lits_cons lit_str (lits_cons lit_int lits_nil))) (lits_cons (lit_tup (lits_cons lit_str (lits_cons lit_int lits_nil))) (lits_cons (lit_tup (lits_cons lit_str (lits_cons lit_int lits_nil)))
        (lits_cons (lit_tup (lits_cons lit_str (lits_cons lit_int (lits_cons lit_int lits_nil)))) (lits_cons (lit_tup (lits_cons lit_str (lits_cons lit_int lits_nil))) (lits_cons (lit_tup (lits_cons lit_str (lits_cons lit_bl lits_nil)))
        (lits_cons (lit_tup (lits_cons lit_str (lits_cons lit_int (lits_cons lit_neg lits_nil)))) (lits_cons (lit_tup (lits_cons lit_str (lits_cons lit_int (lits_cons lit_int lits_nil)))) lits_nil)))))))))))
      (pss_one (ps_ret (pe_call GO hr (by rfl) gO FO.kp bO .nil pass0 (pa_cons (pv 0) (pa_cons (pe_op op_cat (pv 1) (lit_list (ds := odd3) (lits_cons (lit_tup (lits_cons lit_non lits_nil)) (lits_cons (lit_tup (lits_cons lit_neg lits_nil))
        (lits_cons (lit_tup (lits_cons lit_int (lits_cons (lit_tup (lits_cons (lit_tup (lits_cons lit_str (lits_cons lit_int lits_nil))) lits_nil)) (lits_cons (lit_tup (lits_cons lit_int lits_nil)) lits_nil))))
        (lits_cons (lit_tup (lits_cons lit_int (lits_cons (lit_tup lits_nil) (lits_cons (lit_tup lits_nil) lits_nil)))) (lits_cons (lit_tup (lits_cons (lit_tup (lits_cons lit_int lits_nil)) (lits_cons lit_int lits_nil)))
        (lits_cons (lit_tup (lits_cons lit_str lits_nil)) (lits_cons lit_int (lits_cons lit_int lits_nil)))))))))) pa_nil)))))), ?_⟩
    intro p1 v1 H1 s1 n1 e1 l1 a1
    have A1 := a1 D B dk.nD dk.nB
    have dk1 := dk.same s1
    refine ⟨_, rfl, fun p2 v2 H2 s2 n2 e2 l2 a2 => ⟨p1, p2, v1, v2, rfl, rfl, s2 _ _ e1, e2, by rw [l1, l2]; exact sz1 (l := odd1 ++ odd2) rfl, fun p3 n3 => ?_⟩⟩
    have A2 := a2 D B dk1.nD dk1.nB
    have s3 := same_upd (o := .lst (v1 ++ v2)) n3
    have dk3 := (dk1.same s2).same s3
    refine ⟨_, rfl, _, rfl, fun p4 v4 H4 s4 n4 e4 l4 a4 => ⟨p3, p4, v1 ++ v2, v4, rfl, rfl, s4 _ _ upd_same, e4, by rw [List.length_append, l1, l2, l4]; exact sz1 (l := oddD) rfl, fun p5 n5 => ?_⟩⟩
    have A4 := a4 D B dk3.nD dk3.nB
    have s5 := same_upd (o := .lst ((v1 ++ v2) ++ v4)) n5
    have dk5 := (dk3.same s4).same s5
    have A5 : DqAll D B _ ((v1 ++ v2) ++ v4) oddD := DqAll.append (A4.same s5) (DqAll.append (((A2.same s3).same s4).same s5) ((((A1.same s2).same s3).same s4).same s5))
    have hl5 : ((v1 ++ v2) ++ v4).length = 35 := by rw [A5.len]; rfl
    refine ⟨D, B, C, cells, p5, _, rfl, dk5, upd_same, (dk3.same s4).neD n5, (dk3.same s4).neB n5, by rw [hl5]; decide, by rw [hl5]; decide, fun i v H' hv dk' f' => ?_⟩
    obtain ⟨d, hd, hq⟩ := A5.at_ i v hv
    refine q v d H' (List.mem_of_getElem? hd) (dk5.data f' hq) (fun Z nZ => ?_) dk' ((Fr.of_same (s1.trans (s2.trans (s3.trans (s4.trans s5))))).trans f')
    have z1 := Same.some s1 nZ
    have z3 := Same.some s3 (Same.some s2 z1)
    have A5Z : DqAll Z Z _ ((v1 ++ v2) ++ v4) oddD := DqAll.append ((a4 Z Z z3 z3).same s5) (DqAll.append ((((a2 Z Z z1 z1).same s3).same s4).same s5) (((((a1 Z Z nZ nZ).same s2).same s3).same s4).same s5))
    obtain ⟨d2, hd2, hq2⟩ := A5Z.at_ i v hv
    rw [hd] at hd2
    cases hd2
    exact dk5.two f' hq hq2
end
end Jg
namespace Jg
open PySem PySem.Spec PyProof.Rows L2
/-! ### how long what is shown may be -/
structure Ok (k c : Nat) (d : PyData) : Prop where
  sh : d.showable = true
  dp : d.depth ≤ k
  ln : d.shown.length ≤ c
theorem Ok.mono {k c k' c' : Nat} {d : PyData} (h : Ok k c d) (hk : k ≤ k') (hc : c ≤ c') : Ok k' c' d := ⟨h.sh, Nat.le_trans h.dp hk, Nat.le_trans h.ln hc⟩
theorem ok_all {k c : Nat} : ∀ {ds : List PyData}, (∀ d ∈ ds, Ok k c d) → PyData.showableAll ds = true ∧ PyData.depthAll ds ≤ k ∧ ((PyData.shownAll ds).map (·.length)).sum ≤ c * ds.length ∧ (PyData.shownAll ds).length = ds.length
  | [], _ => by simp [PyData.showableAll, PyData.depthAll, PyData.shownAll]
  | d :: ds, h => by
    have h1 := h d List.mem_cons_self
    obtain ⟨a, b, e, f⟩ := ok_all (ds := ds) fun x hx => h x (List.mem_cons_of_mem _ hx)
    refine ⟨?_, ?_, ?_, ?_⟩
    · simp only [PyData.showableAll, h1.sh, a, Bool.and_self]
    · simp only [PyData.depthAll]
      exact Nat.max_le.mpr ⟨h1.dp, b⟩
    · simp only [PyData.shownAll, List.map_cons, List.sum_cons, List.length_cons, Nat.mul_succ]
      have := h1.ln
      omega
    · simp only [PyData.shownAll, List.length_cons, f]
theorem ok_bound {k c n : Nat} {ds : List PyData} (h : ∀ d ∈ ds, Ok k c d) (hn : ds.length ≤ n) : ((PyData.shownAll ds).map (·.length)).sum + 2 * (PyData.shownAll ds).length + 3 ≤ n * (c + 2) + 3 := by
  obtain ⟨_, _, e, f⟩ := ok_all h
  rw [f]
  have h1 : c * ds.length ≤ c * n := Nat.mul_le_mul_left c hn
  have h2 : n * (c + 2) = c * n + 2 * n := by rw [Nat.mul_add, Nat.mul_comm n c, Nat.mul_comm n 2]
  omega
theorem ok_tup {k c n : Nat} {ds : List PyData} (h : ∀ d ∈ ds, Ok k c d) (hn : ds.length ≤ n) : Ok (k + 1) (n * (c + 2) + 3) (.tuple ds) := by
  obtain ⟨a, b, _, _⟩ := ok_all h
  refine ⟨by simpa only [PyData.showable] using a, by simp only [PyData.depth]; omega, ?_⟩
  simp only [PyData.shown]
  exact Nat.le_trans (tupleText_len_le _) (ok_bound h hn)
theorem ok_lst {k c n : Nat} {ds : List PyData} (h : ∀ d ∈ ds, Ok k c d) (hn : ds.length ≤ n) : Ok (k + 1) (n * (c + 2) + 3) (.list ds) := by
  obtain ⟨a, b, _, _⟩ := ok_all h
  refine ⟨by simpa only [PyData.showable] using a, by simp only [PyData.depth]; omega, ?_⟩
  simp only [PyData.shown]
  exact Nat.le_trans (listText_len_le _) (ok_bound h hn)
theorem ok_intW {i : Int} {k : Nat} (hk : 0 < k) (hk2 : k ≤ 1920) (h : i.natAbs < 2 ^ k) : Ok 0 (k + 1) (.int i) := by
  have hl : i.natAbs.log2 < k := PySem.Flt.log2_lt_of hk h
  refine ⟨?_, Nat.le_of_eq (by simp only [PyData.depth]), ?_⟩
  · simp only [PyData.showable]
    exact decide_eq_true (by omega)
  · simp only [PyData.shown]
    rw [PySem.ofString_length]
    exact int_text_length_le hk hl
theorem ok_int25 {i : Int} (h : i.natAbs < 10 ^ 25) : Ok 0 26 (.int i) := by
  have h2 : i.natAbs < 2 ^ 90 := Nat.lt_trans h (by decide)
  refine ⟨(ok_intW (k := 90) (by decide) (by decide) h2).sh, (ok_intW (k := 90) (by decide) (by decide) h2).dp, ?_⟩
  simp only [PyData.shown]
  rw [PySem.ofString_length]
  exact int_text_length_le10 (by decide) h
theorem ok_bl (b : Bool) : Ok 0 26 (.bool b) := by
  refine ⟨by simp only [PyData.showable], Nat.le_of_eq (by simp only [PyData.depth]), ?_⟩
  simp only [PyData.shown]
  cases b <;> decide
theorem ok_non : Ok 0 26 .none := by
  refine ⟨by simp only [PyData.showable], Nat.le_of_eq (by simp only [PyData.depth]), ?_⟩
  simp only [PyData.shown]
  decide
theorem ok_str {x : Str} (h : (reprText x).length ≤ 40) : Ok 0 40 (.str x) := by
  refine ⟨by simp only [PyData.showable], Nat.le_of_eq (by simp only [PyData.depth]), ?_⟩
  simp only [PyData.shown]
  exact h
theorem ok_dct : Ok 1 26 (.dict []) := by
  refine ⟨by simp only [PyData.showable, PyData.showableKv], by simp only [PyData.depth, PyData.depthKv]; decide, ?_⟩
  simp only [PyData.shown, PyData.shownKv]
  decide
/-- what a data is made of: its length, at most -/
def lens : PyData → Nat
  | .str x => (reprText x).length | .int _ => 40 | _ => 26
theorem odd_ok : ∀ d ∈ oddD, Ok 3 1197 d := by
  have i40 : ∀ i : Int, i.natAbs < 10 ^ 31 → Ok 0 40 (.int i) := fun i h => by
    have h2 : i.natAbs < 2 ^ 120 := Nat.lt_trans h (by decide)
    refine ⟨(ok_intW (k := 120) (by decide) (by decide) h2).sh, (ok_intW (k := 120) (by decide) (by decide) h2).dp, ?_⟩
    simp only [PyData.shown]
    rw [PySem.ofString_length]
    exact Nat.le_trans (int_text_length_le10 (k := 31) (by decide) h) (by decide)
  have b40 : ∀ b, Ok 0 40 (.bool b) := fun b => (ok_bl b).mono (Nat.le_refl _) (by decide)
  have n40 : Ok 0 40 .none := ok_non.mono (Nat.le_refl _) (by decide)
  have s40 : ∀ x : Str, (reprText x).length ≤ 40 → Ok 0 40 (.str x) := fun x h => ok_str h
  have t1 : ∀ ds : List PyData, (∀ d ∈ ds, Ok 0 40 d) → ds.length ≤ 3 → Ok 1 129 (.tuple ds) := fun ds h hl => ok_tup h hl
  have l1 : ∀ ds : List PyData, (∀ d ∈ ds, Ok 0 40 d) → ds.length ≤ 3 → Ok 1 129 (.list ds) := fun ds h hl => ok_lst h hl
  have t2 : ∀ ds : List PyData, (∀ d ∈ ds, Ok 1 129 d) → ds.length ≤ 3 → Ok 2 396 (.tuple ds) := fun ds h hl => ok_tup h hl
  have t3 : ∀ ds : List PyData, (∀ d ∈ ds, Ok 2 396 d) → ds.length ≤ 3 → Ok 3 1197 (.tuple ds) := fun ds h hl => ok_tup h hl
  have m1 : ∀ {d : PyData}, Ok 0 40 d → Ok 1 129 d := fun h => h.mono (by decide) (by decide)
  have m2 : ∀ {d : PyData}, Ok 1 129 d → Ok 2 396 d := fun h => h.mono (by decide) (by decide)
  have fin : ∀ {d : PyData} {k c : Nat}, Ok k c d → k ≤ 3 → c ≤ 1197 → Ok 3 1197 d := fun h a b => h.mono a b
  have all0 : ∀ {k c : Nat}, ∀ d ∈ ([] : List PyData), Ok k c d := fun _ h => nomatch h
  have cons : ∀ {k c : Nat} {d : PyData} {ds : List PyData}, Ok k c d → (∀ x ∈ ds, Ok k c x) → ∀ x ∈ d :: ds, Ok k c x := fun h1 h2 x hx => by
    rcases List.mem_cons.mp hx with rfl | hx
    · exact h1
    · exact h2 x hx
  have sOk : ∀ y : String, y ∈ ["", "0", "in", "set", "neg", "+", "*", "/"] → Ok 0 40 (.str (S y)) := fun y hy => by
    refine s40 _ ?_
    revert y
    decide +kernel
  have up : ∀ {ds : List PyData} {k c : Nat}, k ≤ 3 → c ≤ 1197 → (∀ d ∈ ds, Ok k c d) → ∀ d ∈ ds, Ok 3 1197 d := fun a b h d hd => (h d hd).mono a b
  have A1 : ∀ d ∈ odd1, Ok 2 396 d := by
    unfold odd1
    refine cons (m2 (m1 n40)) (cons (m2 (m1 (b40 _))) (cons (m2 (m1 (b40 _))) (cons (m2 (m1 (i40 _ (by decide)))) (cons (m2 (m1 (i40 _ (by decide)))) (cons (m2 (m1 (i40 _ (by decide)))) (cons (m2 (m1 (i40 _ (by decide)))) (cons (m2 (m1 (i40 _ (by decide)))) ?_)))))))
    refine cons (m2 (m1 (sOk _ (by decide)))) (cons (m2 (m1 (sOk _ (by decide)))) (cons (m2 (m1 (sOk _ (by decide)))) (cons (m2 (t1 _ all0 (by decide))) (cons (m2 (l1 _ all0 (by decide))) (cons (m2 (ok_dct.mono (by decide) (by decide))) ?_)))))
    exact cons (m2 (t1 _ (cons (i40 _ (by decide)) all0) (by decide))) (cons (m2 (t1 _ (cons (i40 _ (by decide)) all0) (by decide))) (cons (m2 (t1 _ (cons (i40 _ (by decide)) (cons (i40 _ (by decide)) all0)) (by decide))) (cons (m2 (t1 _ (cons (b40 _) (cons (i40 _ (by decide)) all0)) (by decide))) (cons (m2 (l1 _ (cons (i40 _ (by decide)) all0) (by decide))) all0))))
  have A2 : ∀ d ∈ odd2, Ok 1 129 d := by
    unfold odd2
    have I : ∀ i : Int, i.natAbs < 10 ^ 31 → Ok 0 40 (.int i) := i40
    exact cons (t1 _ (cons (sOk _ (by decide)) (cons (I _ (by decide)) all0)) (by decide)) (cons (t1 _ (cons (sOk _ (by decide)) (cons (I _ (by decide)) all0)) (by decide)) (cons (t1 _ (cons (sOk _ (by decide)) (cons (I _ (by decide)) all0)) (by decide)) (cons (t1 _ (cons (sOk _ (by decide)) (cons (I _ (by decide)) (cons (I _ (by decide)) all0))) (by decide))
      (cons (t1 _ (cons (sOk _ (by decide)) (cons (I _ (by decide)) all0)) (by decide)) (cons (t1 _ (cons (sOk _ (by decide)) (cons (b40 _) all0)) (by decide)) (cons (t1 _ (cons (sOk _ (by decide)) (cons (I _ (by decide)) (cons (I _ (by decide)) all0))) (by decide)) (cons (t1 _ (cons (sOk _ (by decide)) (cons (I _ (by decide)) (cons (I _ (by decide)) all0))) (by decide)) all0)))))))
  have A3 : ∀ d ∈ odd3, Ok 3 1197 d := by
    unfold odd3
    have I : ∀ i : Int, i.natAbs < 10 ^ 31 → Ok 0 40 (.int i) := i40
    have m3 : ∀ {d : PyData}, Ok 1 129 d → Ok 3 1197 d := fun h => h.mono (by decide) (by decide)
    refine cons (m3 (t1 _ (cons n40 all0) (by decide))) (cons (m3 (t1 _ (cons (I _ (by decide)) all0) (by decide))) (cons (t3 _ (cons (m2 (m1 (I _ (by decide)))) (cons (t2 _ (cons (t1 _ (cons (sOk _ (by decide)) (cons (I _ (by decide)) all0)) (by decide)) all0) (by decide)) (cons (m2 (t1 _ (cons (I _ (by decide)) all0) (by decide))) all0))) (by decide)) ?_))
    refine cons ((t2 _ (cons (m1 (I _ (by decide))) (cons (t1 _ all0 (by decide)) (cons (t1 _ all0 (by decide)) all0))) (by decide)).mono (by decide) (by decide)) (cons ((t2 _ (cons (t1 _ (cons (I _ (by decide)) all0) (by decide)) (cons (m1 (I _ (by decide))) all0)) (by decide)).mono (by decide) (by decide)) ?_)
    exact cons (m3 (t1 _ (cons (sOk _ (by decide)) all0) (by decide))) (cons (m3 (m1 (I _ (by decide)))) (cons (m3 (m1 (I _ (by decide)))) all0))
  intro d hd
  unfold oddD at hd
  rcases List.mem_append.mp hd with hd | hd
  · rcases List.mem_append.mp hd with hd | hd
    · exact up (by decide) (by decide) A1 d hd
    · exact up (by decide) (by decide) A2 d hd
  · exact up (by decide) (by decide) A3 d hd
end Jg
namespace Jg
open PySem PySem.Spec PyProof.Rows L2
/-! ### bent values -/
theorem cps_lt (s : String) : ∀ c ∈ (Str.ofString s).cps.toList, c < 16 ^ 8 := by
  intro c hc
  rw [Str.ofString_eq_toList] at hc
  simp at hc
  obtain ⟨a, _, rfl⟩ := hc
  exact a.val.toNat_lt
theorem ok_text {i : Int} (h : i.natAbs < 10 ^ 25) : Ok 3 1200 (.str (toString i)) := by
  refine ⟨by simp only [PyData.showable], by simp only [PyData.depth]; omega, ?_⟩
  simp only [PyData.shown]
  refine Nat.le_trans (PySem.StrLaws.reprText_len _ (cps_lt _)) ?_
  rw [PySem.ofString_length]
  have := int_text_length_le10 (k := 25) (by decide) h
  omega
/-- how wide a tuple may be, so many levels above the last -/
def wd : Nat → Nat
  | 2 => 5 | 3 => 61 | 4 => 3 | _ => 0
theorem wd_le : ∀ n, wd n ≤ 61
  | 0 => by decide | 1 => by decide | 2 => by decide | 3 => by decide | 4 => by decide | _ + 5 => Nat.zero_le _
def Leaf (d : PyData) : Prop := (∃ i : Int, d = .int i ∧ i.natAbs ≤ 10 ^ 20) ∨ (∃ x : Str, d = .str x ∧ (reprText x).length ≤ 40 ∧ PyData.strOk x = true)
def Plain : Nat → PyData → Prop
  | 0, d => Leaf d
  | n + 1, d => Leaf d ∨ ∃ ds, d = .tuple ds ∧ ds.length ≤ wd (n + 1) ∧ ∀ x ∈ ds, Plain n x
theorem Leaf.plain {d : PyData} (h : Leaf d) : ∀ n, Plain n d
  | 0 => h
  | _ + 1 => .inl h
theorem Leaf.no {d : PyData} (h : Leaf d) : isTu d = false := by
  rcases h with ⟨i, rfl, _⟩ | ⟨x, rfl, _⟩ <;> rfl
theorem plain_leaf : ∀ {n : Nat} {d : PyData}, Plain n d → isTu d = false → Leaf d
  | 0, _, h, _ => h
  | _ + 1, _, .inl h, _ => h
  | _ + 1, _, .inr ⟨_, e, _⟩, hb => by
    rw [e] at hb
    cases hb
theorem plain_no {d : PyData} (h : Plain 0 d) (hb : isTu d = true) : False := by
  rw [Leaf.no h] at hb
  cases hb
theorem plain_tup {n : Nat} {d : PyData} (h : Plain (n + 1) d) (hb : isTu d = true) : ∃ ds, d = .tuple ds ∧ ds.length ≤ wd (n + 1) ∧ ∀ x ∈ ds, Plain n x := by
  rcases h with h | h
  · rw [h.no] at hb
    cases hb
  · exact h
def cB : Nat → Nat
  | 0 => 1200 | n + 1 => (2 * wd (n + 1) + 1) * (cB n + 2) + 3
theorem cB_up (n : Nat) : cB n ≤ cB (n + 1) := by
  show cB n ≤ (2 * wd (n + 1) + 1) * (cB n + 2) + 3
  have h : 1 * (cB n + 2) ≤ (2 * wd (n + 1) + 1) * (cB n + 2) := Nat.mul_le_mul_right _ (by omega)
  omega
theorem cB_le : ∀ n, 1200 ≤ cB n
  | 0 => Nat.le_refl _
  | n + 1 => Nat.le_trans (cB_le n) (cB_up n)
theorem leaf_ok {d : PyData} (h : Leaf d) : Ok 3 1200 d := by
  rcases h with ⟨i, rfl, hi⟩ | ⟨x, rfl, hx⟩
  · exact (ok_int25 (Nat.lt_of_le_of_lt hi (by decide))).mono (by decide) (by decide)
  · exact (ok_str hx.1).mono (by decide) (by decide)
theorem plain_ok : ∀ (n : Nat) (d : PyData), Plain n d → Ok (3 + n) (cB n) d
  | 0, d, h => leaf_ok h
  | n + 1, d, h => by
    rcases h with h | ⟨ds, rfl, hl, hx⟩
    · exact (leaf_ok h).mono (by omega) (cB_le _)
    · exact ok_tup (fun x hm => plain_ok n x (hx x hm)) (Nat.le_trans hl (by omega))
theorem leaf_lay {d : PyData} (h : Leaf d) : d.canLay0 = true ∧ d.depth ≤ 0 := by
  rcases h with ⟨i, rfl, _⟩ | ⟨x, rfl, _, hs⟩
  · exact ⟨by simp only [PyData.canLay0], by simp only [PyData.depth]; exact Nat.le_refl _⟩
  · exact ⟨by simp only [PyData.canLay0]; exact hs, by simp only [PyData.depth]; exact Nat.le_refl _⟩
theorem plain_lay : ∀ (n : Nat) (d : PyData), Plain n d → d.canLay0 = true ∧ d.depth ≤ n
  | 0, d, h => leaf_lay h
  | n + 1, d, h => by
    rcases h with h | ⟨ds, rfl, hl, hx⟩
    · exact ⟨(leaf_lay h).1, Nat.le_trans (leaf_lay h).2 (Nat.zero_le _)⟩
    · have key : ∀ l : List PyData, (∀ x ∈ l, Plain n x) → PyData.canLayAll0 l = true ∧ PyData.depthAll l ≤ n := by
        intro l
        induction l with
        | nil => intro _; exact ⟨by simp only [PyData.canLayAll0], by simp only [PyData.depthAll]; omega⟩
        | cons y r ih =>
          intro hy
          obtain ⟨a, b⟩ := plain_lay n y (hy y List.mem_cons_self)
          obtain ⟨c, e⟩ := ih fun x hm => hy x (List.mem_cons_of_mem _ hm)
          exact ⟨by simp only [PyData.canLayAll0, a, c, Bool.and_self], by simp only [PyData.depthAll]; exact Nat.max_le.mpr ⟨b, e⟩⟩
      obtain ⟨a, b⟩ := key ds hx
      exact ⟨by simpa only [PyData.canLay0] using a, by simp only [PyData.depth]; omega⟩
theorem leaf_dp {K : PySem.W.Frag} {D B : Addr} {H : Hp} {d : PyData} {v : V} (h : Leaf d) (hd : Dq D B H v d) : Dp K H v d := by
  rcases h with ⟨i, rfl, _⟩ | ⟨x, rfl, _⟩
  · cases hd
    exact .int i
  · cases hd
    exact .str x
theorem leaf_any {D B Z Y : Addr} {H : Hp} {d : PyData} {v : V} (h : Leaf d) (hd : Dq D B H v d) : Dq Z Y H v d := by
  rcases h with ⟨i, rfl, _⟩ | ⟨x, rfl, _⟩
  · cases hd
    exact .int i
  · cases hd
    exact .str x
theorem plain_dp {K : PySem.W.Frag} {D B : Addr} {H : Hp} : ∀ (n : Nat) (d : PyData) (v : V), Plain n d → Dq D B H v d → Dp K H v d
  | 0, d, v, h, hd => leaf_dp h hd
  | n + 1, d, v, h, hd => by
    rcases h with h | ⟨ds, rfl, hl, hx⟩
    · exact leaf_dp h hd
    · obtain ⟨a, xs, rfl, e, ha⟩ := hd.tupE
      refine .tup (SqT.of e) ?_
      clear e hl hd
      induction ha using DqAll.rec (motive_1 := fun _ _ _ => True) with
      | nil => exact .nil
      | cons h1 h2 _ ih => exact .cons (plain_dp n _ _ (hx _ List.mem_cons_self) h1) (ih fun x hm => hx x (List.mem_cons_of_mem _ hm))
      | _ => trivial
theorem plain_any {D B Z Y : Addr} {H : Hp} : ∀ (n : Nat) (d : PyData) (v : V), Plain n d → Dq D B H v d → Dq Z Y H v d
  | 0, d, v, h, hd => leaf_any h hd
  | n + 1, d, v, h, hd => by
    rcases h with h | ⟨ds, rfl, hl, hx⟩
    · exact leaf_any h hd
    · obtain ⟨a, xs, rfl, e, ha⟩ := hd.tupE
      refine .tup e ?_
      clear e hl hd
      induction ha using DqAll.rec (motive_1 := fun _ _ _ => True) with
      | nil => exact .nil
      | cons h1 h2 _ ih => exact .cons (plain_any n _ _ (hx _ List.mem_cons_self) h1) (ih fun x hm => hx x (List.mem_cons_of_mem _ hm))
      | _ => trivial
theorem plain_anyAll {D B Z Y : Addr} {H : Hp} {n : Nat} : ∀ {xs : List V} {ds : List PyData}, (∀ x ∈ ds, Plain n x) → DqAll D B H xs ds → DqAll Z Y H xs ds
  | _, _, _, .nil => .nil
  | _, _, hx, .cons a b => .cons (plain_any n _ _ (hx _ List.mem_cons_self) a) (plain_anyAll (fun x hm => hx x (List.mem_cons_of_mem _ hm)) b)
theorem plain_shaped {n : Nat} {d : PyData} (h : Plain n d) (hn : n ≤ 64) : SeqAt.shaped d = true := by
  obtain ⟨a, b⟩ := plain_lay n d h
  show (d.canLay0 && decide (d.depth ≤ 64)) = true
  rw [a, decide_eq_true (Nat.le_trans b hn)]
  rfl
theorem eqv_empty (ds : List PyData) : PyData.eqv (.tuple ds) (.tuple []) = ds.isEmpty := by
  cases ds with
  | nil => simp [PyData.eqv, PyData.eqvAll]
  | cons d ds => simp [PyData.eqv, PyData.eqvAll]
theorem pt_imp {X : Cx} {e : Expr} {t t' : TT} (h : PT X e t) (k : ∀ σ H Q, t' σ H Q → t σ H Q) : PT X e t' := ⟨fun pins s σ H Q I q => h.run pins s σ H Q I (k σ H Q q)⟩
/-- the first test of a bent tuple -/
def tBent : TT := fun σ H Q => ∃ (D B C : Addr) (cells : List Int) (v : V) (d : PyData) (n : Nat), σ[0]? = some (some (.ref D)) ∧ σ[1]? = some (some v) ∧ σ[2]? = some (some (.int (n : Int))) ∧ DeckAt D B C cells H ∧ Dq D B H v d ∧ Plain n d ∧ n ≤ 60 ∧
  (∀ H2, DeckAt D B C cells H2 → Fr D B H H2 → isTu d = true → 0 < n → d ≠ .tuple [] → Q true H2) ∧ (∀ H2, DeckAt D B C cells H2 → Fr D B H H2 → Q false H2)
abbrev sBent : Stmt := topS 26
abbrev nBent : List Str := ["_law_deck_here", "_law_value", "_law_deep", "_law_at", "_law_near", "_law_some"]
theorem scBent : FnScope nBent ["_law_deck_here", "_law_value", "_law_deep"] (defScope sBent) := ⟨rfl, rfl, rfl, by decide +kernel, rfl, by decide +kernel, by decide +kernel⟩
theorem boot_list' : bootBuiltins "list" = some (.type "list") := by decide +kernel
theorem boot_str' : bootBuiltins "str" = some (.type "str") := by decide +kernel
structure Od (K : PySem.W.Frag) (mg : Str → Option Value) (f : Addr) (fd : FuncData) : Prop where
  F : Fun K "_law_odd" "_law_odd" sOdd f fd
  b : Binds K fd ["_law_deck_here"] []
  g : mg "_law_odd" = some (.ref f)
def spB : Nat → Sp
  | 0 => fun _ _ _ _ => False
  | n + 1 => fun vs H Q _ => ∃ (D B C : Addr) (cells : List Int) (v : V) (d : PyData), vs = [.ref D, v, .int (n : Int)] ∧ DeckAt D B C cells H ∧ Dq D B H v d ∧ Plain n d ∧
    ∀ (v' : V) (d' : PyData) (H' : Hp), Ok (3 + n) (cB n) d' → Dq D B H' v' d' → (∀ Z, H Z ≠ none → Dq Z Z H' v' d') → DeckAt D B C cells H' → Fr D B H H' → Q v' H'
theorem cut_data {D B : Addr} {H : Hp} {xs : List V} {ds : List PyData} (h : DqAll D B H xs ds) (lo hi : Option Int) : ∃ es, DqAll D B H (cutV xs lo hi) es ∧ (∀ e ∈ es, e ∈ ds) ∧ es.length ≤ ds.length := by
  unfold cutV
  refine ⟨(ds.drop _).take _, (h.drop _).take _, fun e he => List.mem_of_mem_drop (List.mem_of_mem_take he), ?_⟩
  rw [List.length_take, List.length_drop]
  omega
theorem DqAll.rev {D B : Addr} {H : Hp} : ∀ {xs : List V} {ds : List PyData}, DqAll D B H xs ds → DqAll D B H xs.reverse ds.reverse
  | _, _, .nil => .nil
  | _, _, .cons a b => by
    rw [List.reverse_cons, List.reverse_cons]
    exact DqAll.append (.cons a .nil) b.rev
section
variable {P : Program} {w : World} {K : PySem.W.Frag} {mg : Str → Option Value} {base : Heap}
theorem ok_bent {f fO fD fd' : Addr} {k n : Nat} {fd fdO fdD fdd : FuncData} (hk : 3 ≤ k) (hn : n ≤ 60) (F : Fun K "_law_bent" "_law_bent" sBent f fd) (bB : Binds K fd ["_law_deck_here", "_law_value", "_law_deep"] []) (gB : mg "_law_bent" = some (.ref f))
    (GB : FnOk P w K mg base CX0 k f fd ["_law_deck_here", "_law_value", "_law_deep"] (spB n)) (FX : Od K mg fd' fdd) (FO : On K mg fO fdO) (FD : Dr K mg fD fdD) (T : Bn mg) :
    FnOk P w K mg base CX0 (k + 1) f fd ["_law_deck_here", "_law_value", "_law_deep"] (spB (n + 1)) := by
  have GD : FnOk P w K mg base CX0 1 fD fdD ["_law_deck_here", "_law_many"] spDraw := ok_draw FD.F T.int T.len
  have GO : FnOk P w K mg base CX0 2 fO fdO ["_law_deck_here", "_law_items"] spOne := ok_one FO.F FD.F FD.b FD.g T.int T.len
  have GX : FnOk P w K mg base CX0 3 fd' fdd ["_law_deck_here"] spOdd := ok_odd FX.F FO.F FO.b FO.g FD.F FD.b FD.g T
  refine F.ok scBent (fun vs H Q E h => ?_) (fun cdv A outer s H vs Q E hr h => ?_)
  · obtain ⟨D, B, C, cells, v, d, rfl, _⟩ := h
    rfl
  · obtain ⟨D, B, C, cells, v, d, rfl, dk, hd, hp, q⟩ := h
    have hr1 : Room 1 _ := hr.mono (by omega)
    have hr2 : Room 2 _ := hr.mono (by omega)
    have hr3 : Room 3 _ := hr.mono hk
    have hu := hr.units
    refine ⟨_, pss_cons (ps_if (pt_imp (t' := tBent) (PW.pt (pw_and (pt_val (pe_callB call_isi (by rfl) T.isi PyProof.Rows.boot_isinstance (pa_cons (pv 1) (pa_cons (pe_bltn (by rfl) T.tup boot_tuple' (v := .ty "tuple") rfl) pa_nil))))
          (pw_and (pt_cmpR (op_neD hu) (pv 1) (pe_tup pa_nil) (nomark _)) (pw_and (pt_cmpR op_gt (pv 2) pe_int (nomark _))
            (pw_and1 (pt_cmpR op_gt (pe_call GD hr1 (by rfl) FD.g FD.F.kp FD.b .nil pass0 (pa_cons (pv 0) (pa_cons pe_int pa_nil))) pe_int (nomark _))))))) ?_)
        (pss_cons (ps_set (i := 3) scBent.nd rfl (.inl rfl) (pe_call GD hr1 (by rfl) FD.g FD.F.kp FD.b .nil pass0 (pa_cons (pv 0) (pa_cons (pe_callB call_len_seq (by rfl) T.len PySem.boot_len (pa_cons (pv 1) pa_nil)) pa_nil))))
        (pss_one (ps_ret (pe_op op_catA (pe_op op_catA (pe_slice sl_tupA (pv 1) po_none (po_some (pv 3)))
          (pe_tup (pa_cons (pe_call GB hr (by rfl) gB F.kp bB .nil pass0 (pa_cons (pv 0) (pa_cons (pe_ix ix_tup (pv 1) (pv 3) (fun _ _ => rfl)) (pa_cons (pe_op op_sub (pv 2) pe_int) pa_nil)))) pa_nil)))
          (pe_slice sl_tupA (pv 1) (po_some (pe_op op_add (pv 3) pe_int)) po_none))))) pss_nil)
      (pss_cons (ps_if (pt_not (pt_val (pe_callB call_isi (by rfl) T.isi PyProof.Rows.boot_isinstance (pa_cons (pv 1) (pa_cons (pe_bltn (by rfl) T.tup boot_tuple' (v := .ty "tuple") rfl) pa_nil)))))
        (pss_cons (ps_set (i := 4) scBent.nd rfl (.inl rfl) (pe_ifExp (pt_val (pe_callB call_isi (by rfl) T.isi PyProof.Rows.boot_isinstance (pa_cons (pv 1) (pa_cons (pe_bltn (by rfl) T.int PyProof.Rows.boot_int (v := .ty "int") rfl) pa_nil))))
          (pe_lst (pa_cons (pe_op op_add (pv 1) pe_int) (pa_cons (pe_op op_sub (pv 1) pe_int) (pa_cons (pe_op op_sub pe_int (pv 1)) (pa_cons (pe_callTy call_bool1 (by rfl) T.bool boot_bool' (pa_cons (pv 1) pa_nil))
            (pa_cons (pe_callTy call_str_int (by rfl) T.str boot_str' (pa_cons (pv 1) pa_nil)) pa_nil)))))) (pe_lst pa_nil)))
        (pss_one (ps_ret (pe_call GO hr2 (by rfl) FO.g FO.F.kp FO.b .nil pass0 (pa_cons (pv 0) (pa_cons (pe_op op_cat (pv 4) (pe_lst (pa_cons (pe_call GX hr3 (by rfl) FX.g FX.F.kp FX.b .nil pass0 (pa_cons (pv 0) pa_nil))
          (pa_cons (pe_call GX hr3 (by rfl) FX.g FX.F.kp FX.b .nil pass0 (pa_cons (pv 0) pa_nil)) pa_nil)))) pa_nil)))))) pss_nil)
      (pss_cons (ps_set (i := 3) scBent.nd rfl (.inl rfl) (pe_call GD hr1 (by rfl) FD.g FD.F.kp FD.b .nil pass0 (pa_cons (pv 0) (pa_cons (pe_op op_add (pe_callB call_len_seq (by rfl) T.len PySem.boot_len (pa_cons (pv 1) pa_nil)) pe_int) pa_nil))))
      (pss_cons (ps_set (i := 5) scBent.nd rfl (.inl rfl) (pe_lst (pa_cons (pe_call GX hr3 (by rfl) FX.g FX.F.kp FX.b .nil pass0 (pa_cons (pv 0) pa_nil))
        (pa_cons (pe_slice sl_tupA (pv 1) (po_some pe_int) po_none) (pa_cons (pe_slice sl_tupA (pv 1) po_none (po_some (pe_un un_neg pe_int))) (pa_cons (pe_revT (pv 1)) (pa_cons (pe_callTy call_list_of (by rfl) T.lst boot_list' (pa_cons (pv 1) pa_nil))
        (pa_cons (pe_op op_catA (pv 1) (pe_slice sl_tupA (pv 1) (po_some (pe_un un_neg pe_int)) po_none)) pa_nil))))))))
      (pss_one (ps_ret (pe_call GO hr2 (by rfl) FO.g FO.F.kp FO.b .nil pass0 (pa_cons (pv 0) (pa_cons (pe_op op_cat (pv 5) (pe_lst (pa_cons (pe_op op_catA (pe_op op_catA (pe_slice sl_tupA (pv 1) po_none (po_some (pv 3)))
          (pe_tup (pa_cons (pe_call GX hr3 (by rfl) FX.g FX.F.kp FX.b .nil pass0 (pa_cons (pv 0) pa_nil)) pa_nil))) (pe_slice sl_tupA (pv 1) (po_some (pv 3)) po_none))
        (pa_cons (pe_op op_catA (pe_slice sl_tupA (pv 1) po_none (po_some (pv 3))) (pe_slice sl_tupA (pv 1) (po_some (pe_op op_add (pv 3) pe_int)) po_none)) pa_nil)))) pa_nil)))))))), ?_⟩
    case refine_2.refine_1 =>
      intro σ H0 R ht
      obtain ⟨D, B, C, cells, v, d, m, g0, g1, g2, dk, hd, hp, hm, qt, qf⟩ := ht
      refine ⟨v, g1, v, .ty "tuple", _, _, _, rfl, .ty "tuple", hd.ty, kTup d, _, rfl, ?_⟩
      cases hb : isTu d with
      | false => exact iteF (qf H0 dk (Fr.refl D B H0))
      | true =>
        cases m with
        | zero => exact (plain_no hp hb).elim
        | succ m =>
          obtain ⟨ds, rfl, hl, hx⟩ := plain_tup hp hb
          refine iteT ⟨v, g1, Nat.zero_le _, fun e ne => ?_⟩
          have s1 := same_upd (o := .tup []) ne
          refine ⟨.tuple ds, .tuple [], plain_dp (m + 1) _ _ hp (hd.same s1), .tup (SqT.of upd_same) .nil, plain_shaped hp (by omega), by decide, _, rfl, ?_⟩
          rw [eqv_empty]
          cases ds with
          | nil => exact iteF (qf _ (dk.same s1) (Fr.of_same s1))
          | cons d0 dr =>
            refine iteT ⟨_, g2, _, _, rfl, rfl, _, rfl, ?_⟩
            rw [decide_eq_true (show (0 : Int) < ((m + 1 : Nat) : Int) by omega)]
            refine iteT ⟨_, g0, D, B, C, cells, 4, rfl, dk.same s1, by decide, by decide, fun j H3 j0 j1 dk3 f3 => ⟨_, _, rfl, rfl, _, rfl, ?_⟩⟩
            have f13 := (Fr.of_same (D := D) (B := B) s1).trans f3
            by_cases hj : (0 : Int) < j
            · rw [decide_eq_true hj]
              exact qt H3 dk3 f13 rfl (by omega) (fun z => by cases z)
            · rw [decide_eq_false hj]
              exact qf H3 dk3 f13
    refine ⟨D, B, C, cells, v, d, n, rfl, rfl, rfl, dk, hd, hp, hn, fun H2 dk2 f2 hb h0 hne => iteT ?_, fun H2 dk2 f2 => iteF ?_⟩
    · -- one item bent
      cases n with
      | zero => exact absurd h0 (Nat.lt_irrefl 0)
      | succ m =>
        obtain ⟨ds, rfl, hl, hx⟩ := plain_tup hp hb
        have hw := wd_le (m + 1)
        obtain ⟨a, xs, rfl, e2, ha2⟩ := (dk.data f2 hd).tupE
        have hlx : xs.length = ds.length := ha2.len
        have hl0 : 0 < ds.length := by
          cases ds with
          | nil => exact absurd rfl hne
          | cons _ _ => exact Nat.succ_pos _
        have tD : ∀ {G : Hp} {zs : List V} {b : Addr}, DeckAt D B C cells G → G b = some (.tup zs) → b ≠ D ∧ b ≠ B := fun {G zs b} k e => by
          obtain ⟨x1, g1⟩ := k.isD
          obtain ⟨x2, g2⟩ := k.isB
          exact ⟨(fun z => by rw [z, g1] at e; cases e), (fun z => by rw [z, g2] at e; cases e)⟩
        refine ⟨_, rfl, _, rfl, a, xs, rfl, .inr (SqT.of e2), D, B, C, cells, _, rfl, dk2, by omega, by omega, fun at_ H3 at0 at1 dk3 f3 => ?_⟩
        obtain ⟨j, rfl⟩ : ∃ j : Nat, at_ = (j : Int) := ⟨at_.toNat, by omega⟩
        have hj : j < xs.length := by omega
        have e3 := f3 _ _ (tD dk2 e2).1 (tD dk2 e2).2 e2
        have ha3 := dk2.dataAll f3 ha2
        refine ⟨_, rfl, _, rfl, _, rfl, sl_read e3 fun c1 H4 s4 g4 => ?_⟩
        have dk4 := dk3.same s4
        have e4 := s4 _ _ e3
        have ha4 := ha3.same s4
        obtain ⟨dj, hdj, qj⟩ := ha4.at_ j xs[j] (List.getElem?_eq_getElem hj)
        refine ⟨_, rfl, _, rfl, _, rfl, a, xs, _, _, rfl, rfl, SqT.of e4, atI_nat (List.getElem?_eq_getElem hj), _, rfl, _, _, rfl, rfl, D, B, C, cells, xs[j], dj, ?_, dk4, qj, hx _ (List.mem_of_getElem? hdj), fun v5 d5 H5 o5 q5 z5 dk5 f5 => ?_⟩
        · show [V.ref D, xs[j], V.int (((m + 1 : Nat) : Int) - 1)] = [V.ref D, xs[j], V.int (m : Int)]
          rw [show (((m + 1 : Nat) : Int) - 1) = (m : Int) by omega]
        have e5 := f5 _ _ (tD dk4 e4).1 (tD dk4 e4).2 e4
        have g5 := f5 _ _ (tD dk4 g4).1 (tD dk4 g4).2 g4
        have ha5 := dk4.dataAll f5 ha4
        obtain ⟨es1, hes1, mem1, len1⟩ := cut_data ha5 none (some (j : Int))
        refine ⟨sz1 rfl, fun t nt => ?_⟩
        have s6 := same_upd (o := .tup [v5]) nt
        refine cat_read (s6 _ _ g5) upd_same (by rw [hes1.len]; show _ + 1 ≤ 1000; omega) fun c7 H7 s7 g7 => ?_
        have s57 := s6.trans s7
        refine ⟨_, rfl, _, rfl, _, _, rfl, rfl, _, rfl, ?_⟩
        dsimp only [tNoPart]
        refine sl_read (s57 _ _ e5) fun c8 H8 s8 g8 => ?_
        have s58 := s57.trans s8
        obtain ⟨es2, hes2, mem2, len2⟩ := cut_data (ha5.same s58) (some ((j : Int) + 1)) none
        refine cat_read (s8 _ _ g7) g8 (by rw [List.length_append, hes1.len, hes2.len]; show _ + 1 + _ ≤ 1000; omega) fun c9 H9 s9 g9 => ?_
        have s59 := s58.trans s9
        refine q (.ref c9) (.tuple ((es1 ++ [d5]) ++ es2)) H9 ?_ (.tup g9 (DqAll.append (hes2.same s9) (DqAll.append (.cons (q5.same s59) .nil) (hes1.same s59)))) (fun Z nZ => .tup g9 (DqAll.append ((plain_anyAll (fun x hm => hx x (mem2 x hm)) hes2).same s9) (DqAll.append (.cons ((z5 Z (Same.some s4 (dk3.alive f3 (dk2.alive f2 nZ)))).same s59) .nil) ((plain_anyAll (fun x hm => hx x (mem1 x hm)) hes1).same s59)))) (dk5.same s59) ((f2.trans (f3.trans (Fr.of_same s4))).trans (f5.trans (Fr.of_same s59)))
        refine ok_tup (n := 2 * wd (m + 1) + 1) (fun x hm => ?_) (by rw [List.length_append, List.length_append]; show es1.length + 1 + es2.length ≤ 2 * wd (m + 1) + 1; omega)
        rcases List.mem_append.mp hm with hm | hm
        · rcases List.mem_append.mp hm with hm | hm
          · exact plain_ok m x (hx x (mem1 x hm))
          · rw [List.mem_singleton.mp hm]
            exact o5
        · exact plain_ok m x (hx x (mem2 x hm))
    · have hd2 := dk.data f2 hd
      refine ⟨v, rfl, v, .ty "tuple", _, _, _, rfl, .ty "tuple", hd2.ty, kTup d, _, rfl, ?_⟩
      cases hb : isTu d with
      | false =>
        rcases plain_leaf hp hb with ⟨i, rfl, hi⟩ | ⟨x, rfl, hxl⟩
        · cases hd2.intE
          have oki := ok_int25 (i := i) (Nat.lt_of_le_of_lt hi (by decide))
          have hlog : i.natAbs.log2 < 1920 := by
            have h1 := oki.sh
            simp only [PyData.showable] at h1
            exact of_decide_eq_true h1
          refine iteT ⟨_, rfl, _, .ty "int", _, _, _, rfl, .ty "int", hd2.ty, kInt (.int i), _, rfl, iteT ⟨_, rfl, _, _, rfl, rfl, _, rfl, _, _, rfl, rfl, _, rfl, _, _, rfl, rfl, _, rfl, .inl ⟨i, rfl, _, rfl, i, rfl, hlog, sz1 rfl, fun L nL => ?_⟩⟩⟩
          have s3 := same_upd (o := .lst [.int (i + 1), .int (i - 1), .int (0 - i), .bl (i != 0), .str (toString i)]) nL
          have dk3 := dk2.same s3
          have nLD := dk2.neD nL
          have nLB := dk2.neB nL
          refine ⟨_, rfl, _, rfl, _, rfl, D, B, C, cells, rfl, dk3, fun v1 d1 H4 m1 q1 z1 dk4 f4 => ⟨_, rfl, D, B, C, cells, rfl, dk4, fun v2 d2 H5 m2 q2 z2 dk5 f5 => ⟨sz1 rfl, fun L2 nL2 => ?_⟩⟩⟩
          have s6 := same_upd (o := .lst [v1, v2]) nL2
          have eL := s6 _ _ (f5 _ _ nLD nLB (f4 _ _ nLD nLB upd_same))
          refine ⟨L, L2, _, _, rfl, rfl, eL, upd_same, sz1 (l := [(0 : Nat), 0, 0, 0, 0, 0, 0]) rfl, fun p np => ?_⟩
          have s7 := same_upd (o := .lst ([.int (i + 1), .int (i - 1), .int (0 - i), .bl (i != 0), .str (toString i)] ++ [v1, v2])) np
          have dk6 := dk5.same s6
          have all : DqAll D B _ ([.int (i + 1), .int (i - 1), .int (0 - i), .bl (i != 0), .str (toString i)] ++ [v1, v2]) ([.int (i + 1), .int (i - 1), .int (0 - i), .bool (i != 0), .str (toString i), d1, d2]) :=
            .cons (.int _) (.cons (.int _) (.cons (.int _) (.cons (.bl _) (.cons (.str _) (.cons (((dk4.data f5 q1).same s6).same s7) (.cons ((q2.same s6).same s7) .nil))))))
          refine ⟨D, B, C, cells, p, _, rfl, dk6.same s7, upd_same, dk6.neD np, dk6.neB np, by show 0 < 7; decide, by show 7 < 1073741824; decide, fun j v8 H8 hv dk8 f8 => ?_⟩
          obtain ⟨d8, hd8, q8⟩ := all.at_ j v8 hv
          refine q v8 d8 H8 ?_ ((dk6.same s7).data f8 q8) (fun Z nZ => ?_) dk8 (f2.trans ((Fr.of_same s3).trans (f4.trans (f5.trans ((Fr.of_same s6).trans ((Fr.of_same s7).trans f8))))))
          rotate_left
          · have nZ3 := Same.some s3 (dk2.alive f2 nZ)
            have allZ : DqAll Z Z (upd (upd H5 L2 (.lst [v1, v2])) p (.lst ([.int (i + 1), .int (i - 1), .int (0 - i), .bl (i != 0), .str (toString i)] ++ [v1, v2]))) ([.int (i + 1), .int (i - 1), .int (0 - i), .bl (i != 0), .str (toString i)] ++ [v1, v2]) ([.int (i + 1), .int (i - 1), .int (0 - i), .bool (i != 0), .str (toString i), d1, d2]) :=
              .cons (.int _) (.cons (.int _) (.cons (.int _) (.cons (.bl _) (.cons (.str _) (.cons (((dk4.two f5 q1 (z1 Z nZ3)).same s6).same s7) (.cons (((z2 Z (dk4.alive f4 nZ3)).same s6).same s7) .nil))))))
            obtain ⟨d9, hd9, q9⟩ := allZ.at_ j v8 hv
            rw [hd8] at hd9
            cases hd9
            exact (dk6.same s7).two f8 q8 q9
          have up : ∀ {x : PyData}, Ok 3 1200 x → Ok (3 + n) (cB n) x := fun h => h.mono (by omega) (cB_le n)
          have hint : ∀ z : Int, z.natAbs ≤ 10 ^ 20 + 1 → Ok 3 1200 (.int z) := fun z hz => (ok_int25 (Nat.lt_of_le_of_lt hz (by decide))).mono (by decide) (by decide)
          have hodd : ∀ x ∈ oddD, Ok 3 1200 x := fun x hx => (odd_ok x hx).mono (Nat.le_refl _) (by decide)
          match j, hd8 with
          | 0, h => exact by obtain rfl := Option.some.inj h; exact up (hint _ (by omega))
          | 1, h => exact by obtain rfl := Option.some.inj h; exact up (hint _ (by omega))
          | 2, h => exact by obtain rfl := Option.some.inj h; exact up (hint _ (by omega))
          | 3, h => exact by obtain rfl := Option.some.inj h; exact up ((ok_bl _).mono (by decide) (by decide))
          | 4, h => exact by obtain rfl := Option.some.inj h; exact up (ok_text (Nat.lt_of_le_of_lt hi (by decide)))
          | 5, h => exact by obtain rfl := Option.some.inj h; exact up (hodd _ m1)
          | 6, h => exact by obtain rfl := Option.some.inj h; exact up (hodd _ m2)
          | j + 7, h => cases h
        · refine iteT ⟨_, rfl, _, .ty "int", _, _, _, rfl, .ty "int", hd2.ty, kInt (.str x), _, rfl, iteF ⟨sz1 rfl, fun L nL => ?_⟩⟩
          have s3 := same_upd (o := .lst []) nL
          have dk3 := dk2.same s3
          have nLD := dk2.neD nL
          have nLB := dk2.neB nL
          refine ⟨_, rfl, _, rfl, _, rfl, D, B, C, cells, rfl, dk3, fun v1 d1 H4 m1 q1 z1 dk4 f4 => ⟨_, rfl, D, B, C, cells, rfl, dk4, fun v2 d2 H5 m2 q2 z2 dk5 f5 => ⟨sz1 rfl, fun L2 nL2 => ?_⟩⟩⟩
          have s6 := same_upd (o := .lst [v1, v2]) nL2
          have eL := s6 _ _ (f5 _ _ nLD nLB (f4 _ _ nLD nLB upd_same))
          refine ⟨L, L2, _, _, rfl, rfl, eL, upd_same, sz1 (l := [(0 : Nat), 0]) rfl, fun p np => ?_⟩
          have s7 := same_upd (o := .lst ([] ++ [v1, v2])) np
          have dk6 := dk5.same s6
          have all : DqAll D B _ ([] ++ [v1, v2]) ([d1, d2]) := .cons (((dk4.data f5 q1).same s6).same s7) (.cons ((q2.same s6).same s7) .nil)
          refine ⟨D, B, C, cells, p, _, rfl, dk6.same s7, upd_same, dk6.neD np, dk6.neB np, by show 0 < 2; decide, by show 2 < 1073741824; decide, fun j v8 H8 hv dk8 f8 => ?_⟩
          obtain ⟨d8, hd8, q8⟩ := all.at_ j v8 hv
          refine q v8 d8 H8 ?_ ((dk6.same s7).data f8 q8) (fun Z nZ => ?_) dk8 (f2.trans ((Fr.of_same s3).trans (f4.trans (f5.trans ((Fr.of_same s6).trans ((Fr.of_same s7).trans f8))))))
          rotate_left
          · have nZ3 := Same.some s3 (dk2.alive f2 nZ)
            have allZ : DqAll Z Z (upd (upd H5 L2 (.lst [v1, v2])) p (.lst ([] ++ [v1, v2]))) ([] ++ [v1, v2]) ([d1, d2]) :=
              .cons (((dk4.two f5 q1 (z1 Z nZ3)).same s6).same s7) (.cons (((z2 Z (dk4.alive f4 nZ3)).same s6).same s7) .nil)
            obtain ⟨d9, hd9, q9⟩ := allZ.at_ j v8 hv
            rw [hd8] at hd9
            cases hd9
            exact (dk6.same s7).two f8 q8 q9
          have hodd : ∀ x ∈ oddD, Ok (3 + n) (cB n) x := fun x hx => (odd_ok x hx).mono (by omega) (Nat.le_trans (by decide) (cB_le n))
          match j, hd8 with
          | 0, h => exact Option.some.inj h ▸ hodd _ m1
          | 1, h => exact Option.some.inj h ▸ hodd _ m2
          | j + 2, h => cases h
      | true =>
        cases n with
        | zero => exact (plain_no hp hb).elim
        | succ m =>
          obtain ⟨ds, rfl, hl, hx⟩ := plain_tup hp hb
          have hw := wd_le (m + 1)
          obtain ⟨a, xs, rfl, e2, ha2⟩ := hd2.tupE
          have hlx : xs.length = ds.length := ha2.len
          have tD : ∀ {G : Hp} {zs : List V} {b : Addr}, DeckAt D B C cells G → G b = some (.tup zs) → b ≠ D ∧ b ≠ B := fun {G zs b} k e => by
            obtain ⟨x1, g1⟩ := k.isD
            obtain ⟨x2, g2⟩ := k.isB
            exact ⟨(fun z => by rw [z, g1] at e; cases e), (fun z => by rw [z, g2] at e; cases e)⟩
          have itemOk : ∀ x, x ∈ ds ∨ x ∈ oddD → Ok (3 + m) (cB m) x := fun x hm => by
            rcases hm with hm | hm
            · exact plain_ok m x (hx x hm)
            · exact (odd_ok x hm).mono (by omega) (Nat.le_trans (by decide) (cB_le m))
          have oddOk : ∀ x ∈ oddD, Ok (3 + (m + 1)) (cB (m + 1)) x := fun x hm => (odd_ok x hm).mono (by omega) (Nat.le_trans (by decide) (cB_le (m + 1)))
          have tupOk : ∀ es : List PyData, (∀ x ∈ es, x ∈ ds ∨ x ∈ oddD) → es.length ≤ 2 * wd (m + 1) + 1 → Ok (3 + (m + 1)) (cB (m + 1)) (.tuple es) := fun es h hn => ok_tup (fun x hm => itemOk x (h x hm)) hn
          have lstOk : ∀ es : List PyData, (∀ x ∈ es, x ∈ ds ∨ x ∈ oddD) → es.length ≤ 2 * wd (m + 1) + 1 → Ok (3 + (m + 1)) (cB (m + 1)) (.list es) := fun es h hn => ok_lst (fun x hm => itemOk x (h x hm)) hn
          refine iteF ⟨_, rfl, _, rfl, a, xs, rfl, .inr (SqT.of e2), _, _, rfl, rfl, D, B, C, cells, _, rfl, dk2, by omega, by omega, fun at_ H3 at0 at1 dk3 f3 => ?_⟩
          obtain ⟨j, rfl⟩ : ∃ j : Nat, at_ = (j : Int) := ⟨at_.toNat, by omega⟩
          have e3 := f3 _ _ (tD dk2 e2).1 (tD dk2 e2).2 e2
          have ha3 := dk2.dataAll f3 ha2
          -- the list of six
          refine ⟨_, rfl, D, B, C, cells, rfl, dk3, fun v1 d1 H4 m1 q1 z1 dk4 f4 => ?_⟩
          have e4 := f4 _ _ (tD dk3 e3).1 (tD dk3 e3).2 e3
          have ha4 := dk3.dataAll f4 ha3
          refine ⟨_, rfl, _, rfl, ?_⟩
          dsimp only [tNoPart]
          refine sl_read e4 fun c1 H5 s5 g5 => ?_
          obtain ⟨es1, hes1, mem1, len1⟩ := cut_data (ha4.same s5) (some 1) none
          refine ⟨_, rfl, _, rfl, _, rfl, sl_read (s5 _ _ e4) fun c2 H6 s6 g6 => ?_⟩
          have e6 := s6 _ _ (s5 _ _ e4)
          have ha6 := (ha4.same s5).same s6
          obtain ⟨es2, hes2, mem2, len2⟩ := cut_data ha6 none (some (-1))
          refine ⟨_, rfl, a, xs, rfl, SqT.of e6, fun c3 n3 => ?_⟩
          have s7 := same_upd (o := .tup xs.reverse) n3
          have dk7 := ((dk4.same s5).same s6).same s7
          refine ⟨_, rfl, a, xs, rfl, .inr (SqT.of (s7 _ _ e6)), fun c4 n4 => ?_⟩
          have s8 := same_upd (o := .lst xs) n4
          have dk8 := dk7.same s8
          have e8 := s8 _ _ (s7 _ _ e6)
          have ha8 := (ha6.same s7).same s8
          refine ⟨_, rfl, _, rfl, _, rfl, _, rfl, ?_⟩
          dsimp only [tNoPart]
          refine sl_read e8 fun c5 H9 s9 g9 => ?_
          obtain ⟨es5, hes5, mem5, len5⟩ := cut_data (ha8.same s9) (some (-1)) none
          refine cat_read (s9 _ _ e8) g9 (by rw [hes5.len]; omega) fun c6 H10 s10 g10 => ⟨sz1 rfl, fun L nL => ?_⟩
          have dk10 := (dk8.same s9).same s10
          have s11 := same_upd (o := .lst [v1, .ref c1, .ref c2, .ref c3, .ref c4, .ref c6]) nL
          have dk11 := dk10.same s11
          have nLD := dk10.neD nL
          have nLB := dk10.neB nL
          have e11 := s11 _ _ (s10 _ _ (s9 _ _ e8))
          have ha11 := ((ha8.same s9).same s10).same s11
          -- the two behind
          refine ⟨_, rfl, _, rfl, _, rfl, _, rfl, _, rfl, sl_read e11 fun x1 H12 s12 g12 => ?_⟩
          have dk12 := dk11.same s12
          refine ⟨_, rfl, D, B, C, cells, rfl, dk12, fun v2 d2 H13 m2 q2 z2 dk13 f13 => ?_⟩
          have e13 := f13 _ _ (tD dk12 (s12 _ _ e11)).1 (tD dk12 (s12 _ _ e11)).2 (s12 _ _ e11)
          have g13 := f13 _ _ (tD dk12 g12).1 (tD dk12 g12).2 g12
          have ha13 := dk12.dataAll f13 (ha11.same s12)
          obtain ⟨ex1, hex1, memx1, lenx1⟩ := cut_data ha13 none (some (j : Int))
          refine ⟨sz1 rfl, fun t nt => ?_⟩
          have s14 := same_upd (o := .tup [v2]) nt
          refine cat_read (s14 _ _ g13) upd_same (by rw [hex1.len]; show _ + 1 ≤ 1000; omega) fun x2 H15 s15 g15 => ?_
          have s1315 := s14.trans s15
          refine ⟨_, rfl, _, rfl, _, rfl, ?_⟩
          dsimp only [tNoPart]
          refine sl_read (s1315 _ _ e13) fun x3 H16 s16 g16 => ?_
          have s1316 := s1315.trans s16
          obtain ⟨ex3, hex3, memx3, lenx3⟩ := cut_data (ha13.same s1316) (some (j : Int)) none
          refine cat_read (s16 _ _ g15) g16 (by rw [List.length_append, hex1.len, hex3.len]; show _ + 1 + _ ≤ 1000; omega) fun x4 H17 s17 g17 => ?_
          have s1317 := s1316.trans s17
          refine ⟨_, rfl, _, rfl, _, rfl, sl_read (s1317 _ _ e13) fun y1 H18 s18 g18 => ?_⟩
          have s1318 := s1317.trans s18
          obtain ⟨ey1, hey1, memy1, leny1⟩ := cut_data (ha13.same s1318) none (some (j : Int))
          refine ⟨_, rfl, _, rfl, _, _, rfl, rfl, _, rfl, ?_⟩
          dsimp only [tNoPart]
          refine sl_read (s1318 _ _ e13) fun y2 H19 s19 g19 => ?_
          have s1319 := s1318.trans s19
          obtain ⟨ey2, hey2, memy2, leny2⟩ := cut_data (ha13.same s1319) (some ((j : Int) + 1)) none
          refine cat_read (s19 _ _ g18) g19 (by rw [hey1.len, hey2.len]; omega) fun y3 H20 s20 g20 => ⟨sz1 rfl, fun M nM => ?_⟩
          have s21 := same_upd (o := .lst [.ref x4, .ref y3]) nM
          have s1321 := (s1319.trans s20).trans s21
          have f1121 := ((Fr.of_same s12).trans f13).trans (Fr.of_same s1321)
          refine ⟨L, M, _, _, rfl, rfl, f1121 _ _ nLD nLB upd_same, upd_same, sz1 (l := [(0 : Nat), 0, 0, 0, 0, 0, 0, 0]) rfl, fun p np => ?_⟩
          have s22 := same_upd (o := .lst ([v1, .ref c1, .ref c2, .ref c3, .ref c4, .ref c6] ++ [.ref x4, .ref y3])) np
          have dk21 := dk13.same s1321
          have dk22 := dk21.same s22
          have f1122 := f1121.trans (Fr.of_same s22)
          have s1322 := s1321.trans s22
          have s1011 : Same H10 _ := s11
          have s911 := s10.trans s11
          have s811 := s9.trans s911
          have s711 := s8.trans s811
          have s611 := s7.trans s711
          have s511 := s6.trans s611
          have s411 := s5.trans s511
          have all : DqAll D B (upd (upd H20 M (.lst [.ref x4, .ref y3])) p (.lst ([v1, .ref c1, .ref c2, .ref c3, .ref c4, .ref c6] ++ [.ref x4, .ref y3]))) ([v1, .ref c1, .ref c2, .ref c3, .ref c4, .ref c6] ++ [.ref x4, .ref y3]) ([d1, .tuple es1, .tuple es2, .tuple ds.reverse, .list ds, .tuple (ds ++ es5)] ++ [.tuple ((ex1 ++ [d2]) ++ ex3), .tuple (ey1 ++ ey2)]) := by
            refine DqAll.append (.cons (.tup ((s18.trans (s19.trans (s20.trans (s21.trans s22)))) _ _ g17) ?_) (.cons (.tup ((s21.trans s22) _ _ g20) ?_) .nil)) (dk11.dataAll f1122 (.cons (q1.same s411) (.cons (.tup (s511 _ _ g5) (hes1.same s511)) (.cons (.tup (s611 _ _ g6) (hes2.same s611)) (.cons (.tup (s711 _ _ upd_same) ((ha6.rev.same s7).same s711))
              (.cons (.lst (dk7.neD n4) (dk7.neB n4) (s811 _ _ upd_same) (ha8.same s811)) (.cons (.tup (s1011 _ _ g10) (DqAll.append ((hes5.same s10).same s1011) (ha8.same s811))) .nil)))))))
            · exact DqAll.append (hex3.same ((s17.trans (s18.trans (s19.trans s20))).trans (s21.trans s22))) (DqAll.append (.cons (q2.same s1322) .nil) (hex1.same s1322))
            · exact DqAll.append (hey2.same (s20.trans (s21.trans s22))) (hey1.same ((s19.trans s20).trans (s21.trans s22)))
          refine ⟨D, B, C, cells, p, _, rfl, dk22, upd_same, dk21.neD np, dk21.neB np, by show 0 < 8; decide, by show 8 < 1073741824; decide, fun i8 v8 H23 hv dk23 f23 => ?_⟩
          obtain ⟨d8, hd8, q8⟩ := all.at_ i8 v8 hv
          have fH4 : Fr D B H H4 := f2.trans (f3.trans f4)
          refine q v8 d8 H23 ?_ (dk22.data f23 q8) (fun Z nZ => ?_) dk23 ((fH4.trans (Fr.of_same s411)).trans (f1122.trans f23))
          rotate_left
          · have nZ3 := dk3.alive f3 (dk2.alive f2 nZ)
            have nZ4 := dk4.alive f4 nZ3
            have nZ7 := Same.some s7 (Same.some s6 (Same.some s5 nZ4))
            have nZ12 := Same.some s12 (Same.some (s8.trans s811) nZ7)
            have cZ : c4 ≠ Z := fun z => nZ7 (by rw [← z]; exact n4)
            have P1 : ∀ {es : List PyData}, (∀ e ∈ es, e ∈ ds) → ∀ x ∈ es, Plain m x := fun h x hm => hx x (h x hm)
            have aZ : ∀ {G : Hp}, DqAll D B G xs ds → DqAll Z Z G xs ds := fun h => plain_anyAll hx h
            have q1Z := (dk11.two f1122 (q1.same s411) ((z1 Z nZ3).same s411))
            have allZ : DqAll Z Z (upd (upd H20 M (.lst [.ref x4, .ref y3])) p (.lst ([v1, .ref c1, .ref c2, .ref c3, .ref c4, .ref c6] ++ [.ref x4, .ref y3]))) ([v1, .ref c1, .ref c2, .ref c3, .ref c4, .ref c6] ++ [.ref x4, .ref y3]) ([d1, .tuple es1, .tuple es2, .tuple ds.reverse, .list ds, .tuple (ds ++ es5)] ++ [.tuple ((ex1 ++ [d2]) ++ ex3), .tuple (ey1 ++ ey2)]) := by
              have tup1 : ∀ {c : Addr} {zs : List V} {es : List PyData}, (∀ x ∈ es, Plain m x) → Dq D B (upd H10 L (.lst [v1, .ref c1, .ref c2, .ref c3, .ref c4, .ref c6])) (.ref c) (.tuple es) → (upd H10 L (.lst [v1, .ref c1, .ref c2, .ref c3, .ref c4, .ref c6])) c = some (.tup zs) → Dq Z Z (upd (upd H20 M (.lst [.ref x4, .ref y3])) p (.lst ([v1, .ref c1, .ref c2, .ref c3, .ref c4, .ref c6] ++ [.ref x4, .ref y3]))) (.ref c) (.tuple es) := fun h k e => by
                refine dk11.two f1122 k ?_
                cases k with
                | tup e2 ha => exact .tup e2 (plain_anyAll h ha)
              refine DqAll.append (.cons (.tup ((s18.trans (s19.trans (s20.trans (s21.trans s22)))) _ _ g17) ?_) (.cons (.tup ((s21.trans s22) _ _ g20) ?_) .nil)) (.cons q1Z (.cons (tup1 (P1 mem1) (.tup (s511 _ _ g5) (hes1.same s511)) (s511 _ _ g5)) (.cons (tup1 (P1 mem2) (.tup (s611 _ _ g6) (hes2.same s611)) (s611 _ _ g6))
                (.cons (tup1 (fun x hm => hx x (List.mem_reverse.mp hm)) (.tup (s711 _ _ upd_same) ((ha6.rev.same s7).same s711)) (s711 _ _ upd_same)) (.cons ?_ (.cons (tup1 (fun x hm => (List.mem_append.mp hm).elim (hx x) (fun hm => hx x (mem5 x hm))) (.tup (s1011 _ _ g10) (DqAll.append ((hes5.same s10).same s1011) (ha8.same s811))) (s1011 _ _ g10)) .nil))))))
              · exact DqAll.append ((plain_anyAll (P1 memx3) hex3).same ((s17.trans (s18.trans (s19.trans s20))).trans (s21.trans s22))) (DqAll.append (.cons ((z2 Z nZ12).same s1322) .nil) ((plain_anyAll (P1 memx1) hex1).same s1322))
              · exact DqAll.append ((plain_anyAll (P1 memy2) hey2).same (s20.trans (s21.trans s22))) ((plain_anyAll (P1 memy1) hey1).same ((s19.trans s20).trans (s21.trans s22)))
              · exact dk11.two f1122 (.lst (dk7.neD n4) (dk7.neB n4) (s811 _ _ upd_same) (ha8.same s811)) (.lst cZ cZ (s811 _ _ upd_same) (aZ (ha8.same s811)))
            obtain ⟨d9, hd9, q9⟩ := allZ.at_ i8 v8 hv
            rw [hd8] at hd9
            cases hd9
            exact dk22.two f23 q8 q9
          have inl : ∀ {es : List PyData}, (∀ e ∈ es, e ∈ ds) → ∀ x ∈ es, x ∈ ds ∨ x ∈ oddD := fun h x hm => .inl (h x hm)
          have app : ∀ {es fs : List PyData}, (∀ x ∈ es, x ∈ ds ∨ x ∈ oddD) → (∀ x ∈ fs, x ∈ ds ∨ x ∈ oddD) → ∀ x ∈ es ++ fs, x ∈ ds ∨ x ∈ oddD := fun h1 h2 x hm => (List.mem_append.mp hm).elim (h1 x) (h2 x)
          have self : ∀ x ∈ ds, x ∈ ds ∨ x ∈ oddD := fun x hm => .inl hm
          match i8, hd8 with
          | 0, h => exact Option.some.inj h ▸ oddOk _ m1
          | 1, h => exact Option.some.inj h ▸ tupOk _ (inl mem1) (by omega)
          | 2, h => exact Option.some.inj h ▸ tupOk _ (inl mem2) (by omega)
          | 3, h => exact Option.some.inj h ▸ tupOk _ (fun x hm => .inl (List.mem_reverse.mp hm)) (by rw [List.length_reverse]; omega)
          | 4, h => exact Option.some.inj h ▸ lstOk _ self (by omega)
          | 5, h => exact Option.some.inj h ▸ tupOk _ (app self (inl mem5)) (by rw [List.length_append]; omega)
          | 6, h => exact Option.some.inj h ▸ tupOk _ (app (app (inl memx1) (fun x hm => .inr (List.mem_singleton.mp hm ▸ m2))) (inl memx3)) (by rw [List.length_append, List.length_append]; show ex1.length + 1 + ex3.length ≤ 2 * wd (m + 1) + 1; omega)
          | 7, h => exact Option.some.inj h ▸ tupOk _ (app (inl memy1) (inl memy2)) (by rw [List.length_append]; omega)
          | i8 + 8, h => cases h
end
end Jg
namespace Jg
open PySem PySem.Spec PyProof.Rows L2
/-! ### steps judged -/
/-- whether data is a step that may have a number -/
def stepOk (inp num : Int) : PyData → Bool
  | .tuple [.str x, a] => if x = (Str.ofString "in") then within 0 (inp - 1) a else if x = (Str.ofString "set") then within (-M20) M20 a else if x = (Str.ofString "neg") then within 0 (num - 1) a else false
  | .tuple [.str x, a, b] => (decide (x = (Str.ofString "+")) || decide (x = (Str.ofString "-")) || decide (x = (Str.ofString "*"))) && (within 0 (num - 1) a && within 0 (num - 1) b)
  | _ => false
abbrev sStep : Stmt := topS 31
abbrev nStep : List Str := ["_law_value", "_law_inputs", "_law_number", "_law_bounds", "_law_one_here"]
theorem scStep : FnScope nStep ["_law_value", "_law_inputs", "_law_number"] (defScope sStep) := ⟨rfl, rfl, rfl, by decide +kernel, rfl, by decide +kernel, by decide +kernel⟩
def isSt : PyData → Bool
  | .str _ => true | _ => false
theorem kStr {K : PySem.W.Frag} : ∀ d : PyData, PySem.W.kitOne K (.type (tyN d)) (.type "str") = some (isSt d)
  | .none => kit_ty (a := "NoneType") (by show kitB "NoneType" "str" = some false; decide +kernel)
  | .bool _ => kit_ty (a := "bool") (by show kitB "bool" "str" = some false; decide +kernel)
  | .int _ => kit_ty (a := "int") (by show kitB "int" "str" = some false; decide +kernel)
  | .str _ => kit_ty (a := "str") (by show kitB "str" "str" = some true; decide +kernel)
  | .list _ => kit_ty (a := "list") (by show kitB "list" "str" = some false; decide +kernel)
  | .tuple _ => kit_ty (a := "tuple") (by show kitB "tuple" "str" = some false; decide +kernel)
  | .dict _ => kit_ty (a := "dict") (by show kitB "dict" "str" = some false; decide +kernel)
theorem inV23 (n : Nat) : inV (.int (n : Int)) [.int 2, .int 3] = (decide (n = 2) || decide (n = 3)) := by
  show (eqV (.int 2) (.int (n : Int)) || (eqV (.int 3) (.int (n : Int)) || false)) = _
  have h : ∀ k : Nat, eqV (.int (k : Int)) (.int (n : Int)) = decide (n = k) := fun k => by
    show decide ((k : Int) = (n : Int)) = decide (n = k)
    by_cases e : n = k
    · rw [decide_eq_true e, decide_eq_true (by omega)]
    · rw [decide_eq_false e, decide_eq_false (by omega)]
  rw [show eqV (.int 2) (.int (n : Int)) = _ from h 2, show eqV (.int 3) (.int (n : Int)) = _ from h 3, Bool.or_false]
theorem stepOk_no {inp num : Int} {d : PyData} (h : isTu d = false) : stepOk inp num d = false := by
  cases d <;> first | rfl | cases h
theorem stepOk_len {inp num : Int} : ∀ {ds : List PyData}, (decide (ds.length = 2) || decide (ds.length = 3)) = false → stepOk inp num (.tuple ds) = false
  | [], _ => rfl
  | [a], _ => by cases a <;> rfl
  | [_, _], h => by cases h
  | [_, _, _], h => by cases h
  | a :: _ :: _ :: _ :: _, _ => by cases a <;> rfl
theorem stepOk_str {inp num : Int} {a : PyData} {ds : List PyData} (h : isSt a = false) : stepOk inp num (.tuple (a :: ds)) = false := by
  match ds with
  | [] => cases a <;> rfl
  | [b] => cases a <;> first | rfl | cases h
  | [b, c] => cases a <;> first | rfl | cases h
  | _ :: _ :: _ :: _ => cases a <;> rfl
theorem two_or {D B : Addr} {H : Hp} {xs : List V} {ds : List PyData} (h : DqAll D B H xs ds) (hl : (decide (ds.length = 2) || decide (ds.length = 3)) = true) :
    (∃ x1 x2 d1 d2, xs = [x1, x2] ∧ ds = [d1, d2] ∧ Dq D B H x1 d1 ∧ Dq D B H x2 d2) ∨ (∃ x1 x2 x3 d1 d2 d3, xs = [x1, x2, x3] ∧ ds = [d1, d2, d3] ∧ Dq D B H x1 d1 ∧ Dq D B H x2 d2 ∧ Dq D B H x3 d3) := by
  cases h with
  | nil => cases hl
  | cons a h =>
    cases h with
    | nil => cases hl
    | cons b h =>
      cases h with
      | nil => exact .inl ⟨_, _, _, _, rfl, rfl, a, b⟩
      | cons c h =>
        cases h with
        | nil => exact .inr ⟨_, _, _, _, _, _, rfl, rfl, a, b, c⟩
        | cons e h =>
          rename_i r _
          exfalso
          rw [decide_eq_false (by simp only [List.length_cons]; omega), decide_eq_false (by simp only [List.length_cons]; omega)] at hl
          cases hl
theorem ones_eqv (m : Nat) : PyData.eqv (.list ((List.replicate m (1 : Int)).map PyData.int)) (.list []) = decide (m = 0) := by
  cases m with
  | zero => simp [PyData.eqv, PyData.eqvAll]
  | succ m => simp [PyData.eqv, PyData.eqvAll, List.replicate_succ]
def bk (a b c : V) : List (Key × V) := [(.inr (Str.ofString "in"), a), (.inr (Str.ofString "set"), b), (.inr (Str.ofString "neg"), c)]
theorem bk_merge (a b c : V) : mergeK [] (bk a b c) = bk a b c := by
  have h1 : ¬ ((Sum.inr (Str.ofString "in") : Key) = .inr (Str.ofString "set")) := by decide +kernel
  have h2 : ¬ ((Sum.inr (Str.ofString "in") : Key) = .inr (Str.ofString "neg")) := by decide +kernel
  have h3 : ¬ ((Sum.inr (Str.ofString "set") : Key) = .inr (Str.ofString "neg")) := by decide +kernel
  show putK (putK (putK ([] : List (Key × V)) (.inr (Str.ofString "in")) a) (.inr (Str.ofString "set")) b) (.inr (Str.ofString "neg")) c = _
  rw [putK_new (kvs := ([] : List (Key × V))) a valV_nil, putK_new b (by show valV [(_, a)] _ = none; rw [valV_neg h1]; exact valV_nil), putK_new c (by show valV [(_, a), (_, b)] _ = none; rw [valV_neg h2, valV_neg h3]; exact valV_nil)]
  rfl
theorem bk_get (a b c : V) (x : Str) : valV (bk a b c) (.inr x) = if x = Str.ofString "in" then some a else if x = Str.ofString "set" then some b else if x = Str.ofString "neg" then some c else none := by
  unfold bk
  by_cases h1 : x = Str.ofString "in"
  · rw [if_pos h1, valV_pos (by rw [h1])]
  · rw [if_neg h1, valV_neg (fun z => h1 (Sum.inr.inj z).symm)]
    by_cases h2 : x = Str.ofString "set"
    · rw [if_pos h2, valV_pos (by rw [h2])]
    · rw [if_neg h2, valV_neg (fun z => h2 (Sum.inr.inj z).symm)]
      by_cases h3 : x = Str.ofString "neg"
      · rw [if_pos h3, valV_pos (by rw [h3])]
      · rw [if_neg h3, valV_neg (fun z => h3 (Sum.inr.inj z).symm)]
        exact valV_nil
theorem isSt_of {D B : Addr} {H : Hp} {v : V} {d : PyData} (hd : Dq D B H v d) (h : isSt d = true) : ∃ x, d = .str x ∧ v = .str x := by
  cases hd <;> first | exact ⟨_, rfl, rfl⟩ | cases h
theorem inV3 (x a b c : Str) : inV (.str x) [.str a, .str b, .str c] = (decide (x = a) || decide (x = b) || decide (x = c)) := by
  have h : ∀ k : Str, eqV (.str k) (.str x) = decide (x = k) := fun k => by
    show decide (k = x) = decide (x = k)
    by_cases e : x = k
    · rw [decide_eq_true e, decide_eq_true e.symm]
    · rw [decide_eq_false e, decide_eq_false fun z => e z.symm]
  show (eqV (.str a) (.str x) || (eqV (.str b) (.str x) || (eqV (.str c) (.str x) || false))) = _
  rw [h, h, h, Bool.or_false, Bool.or_assoc]
section
variable {P : Program} {w : World} {K : PySem.W.Frag} {mg : Str → Option Value} {base : Heap}
def spStep : Sp := fun vs H Q _ => ∃ (D B : Addr) (v : V) (d : PyData) (inp num : Int), vs = [v, .int inp, .int num] ∧ Dq D B H v d ∧ ∀ H', Same H H' → Q (.bl (stepOk inp num d)) H'
theorem ok_lstep {f f2 : Addr} {fd fd2 : FuncData} (F : Fun K "_law_is_step" "_law_is_step" sStep f fd) (F2 : Fun K "_law_whole" "_law_whole" sWhole f2 fd2) (b2 : Binds K fd2 ["_law_value", "_law_least", "_law_most"] []) (g2 : mg "_law_whole" = some (.ref f2)) (T : Bn mg) :
    FnOk P w K mg base CX0 2 f fd ["_law_value", "_law_inputs", "_law_number"] spStep := by
  have G2 : FnOk P w K mg base CX0 1 f2 fd2 ["_law_value", "_law_least", "_law_most"] spWith := ok_whole F2 T
  refine F.ok scStep (fun vs H Q E h => ?_) (fun cdv A outer s H vs Q E hr h => ?_)
  · obtain ⟨D, B, v, d, inp, num, rfl, _⟩ := h
    rfl
  · obtain ⟨D, B, v, d, inp, num, rfl, hd, q⟩ := h
    have hu := hr.units
    have hu1 : (A.deeper (envOfC "_law_is_step" (defScope sStep) s.heap.objs.size f cdv)).units + 1 < cLine := by omega
    refine ⟨_, pss_cons (ps_if (PW.pt (pw_or (pt_not (pt_val (pe_callB call_isi (by rfl) T.isi PyProof.Rows.boot_isinstance (pa_cons (pv 0) (pa_cons (pe_bltn (by rfl) T.tup boot_tuple' (v := .ty "tuple") rfl) pa_nil)))))
        (pw_or (pt_cmpR op_notIn_seq (pe_callB call_len_seq (by rfl) T.len PySem.boot_len (pa_cons (pv 0) pa_nil)) (pe_tup (pa_cons pe_int (pa_cons pe_int pa_nil))) (by rfl))
          (pw_or1 (pt_not (pt_val (pe_callB call_isi (by rfl) T.isi PyProof.Rows.boot_isinstance (pa_cons (pe_ix ix_tup (pv 0) pe_int (fun _ _ => rfl)) (pa_cons (pe_bltn (by rfl) T.str boot_str' (v := .ty "str") rfl) pa_nil))))))))) (pss_one (ps_ret pe_bl)) pss_nil)
      (pss_cons (ps_if (pt_cmpR op_eq (pe_callB call_len_seq (by rfl) T.len PySem.boot_len (pa_cons (pv 0) pa_nil)) pe_int (nomark _))
        (pss_one (ps_ret (pe_and (pe_cmpR op_in_seq (pe_ix ix_tup (pv 0) pe_int (fun _ _ => rfl)) (pe_tup (pa_cons pe_str (pa_cons pe_str (pa_cons pe_str pa_nil)))) (by rfl))
          (pe_one (pe_cmpR (op_eqD hu) (pe_lc (own := [("_law_one_here", 4)]) (g := gName 4) rfl scStep.nd (pi_tup (pe_slice sl_tupA (pv 0) (po_some pe_int) po_none)) (blkOk_by (N := nStep) (sc := defScope sStep) (by decide +kernel))
            (fun _ _ _ _ _ => pg_name (i := 4) scStep.nd rfl (.inl rfl)) (fun _ _ _ _ _ => pts_one (pt_not (pt_val (pe_call G2 hr (by rfl) g2 F2.kp b2 .nil pass0 (pa_cons (pv 4) (pa_cons pe_int (pa_cons (pe_op op_sub (pv 2) pe_int) pa_nil))))))) (fun _ _ _ _ _ => pe_int)) (pe_lst pa_nil) (nomark _)))))) pss_nil)
      (pss_cons (ps_set (i := 3) scStep.nd rfl (.inl rfl) (pe_disp (pps_cons pe_str (pe_tup (pa_cons pe_int (pa_cons (pe_op op_sub (pv 1) pe_int) pa_nil))) (pps_cons pe_str (pe_tup (pa_cons (pe_op op_sub pe_int (pe_op op_pow pe_int pe_int)) (pa_cons (pe_op op_pow pe_int pe_int) pa_nil)))
          (pps_cons pe_str (pe_tup (pa_cons pe_int (pa_cons (pe_op op_sub (pv 2) pe_int) pa_nil))) pps_nil))) (by rfl) (by rfl) (fun z => by cases z) (by decide)))
      (pss_one (ps_ret (pe_and (pe_cmp (pc_din hu1 (pe_ix ix_tup (pv 0) pe_int (fun _ _ => rfl)) (pv 3)))
        (pe_one (pe_call G2 hr (by rfl) g2 F2.kp b2 .nil pass0 (pa_cons (pe_ix ix_tup (pv 0) pe_int (fun _ _ => rfl)) (pa_cons (pe_ix ix_tup (pe_dget hu1 (pv 3) (pe_ix ix_tup (pv 0) pe_int (fun _ _ => rfl)) (fun _ _ => rfl)) pe_int (fun _ _ => rfl))
          (pa_cons (pe_ix ix_tup (pe_dget hu1 (pv 3) (pe_ix ix_tup (pv 0) pe_int (fun _ _ => rfl)) (fun _ _ => rfl)) pe_int (fun _ _ => rfl)) pa_nil)))))))))), ?_⟩
    refine ⟨v, rfl, v, .ty "tuple", _, _, _, rfl, .ty "tuple", hd.ty, kTup d, _, rfl, ?_⟩
    cases hb : isTu d with
    | false =>
      have q2 := q H (Same.refl H)
      rw [stepOk_no hb] at q2
      exact iteT (iteT q2)
    | true =>
      obtain ⟨a, xs, ds, rfl, rfl, e, ha⟩ := isTu_of hd hb
      refine iteF ⟨_, rfl, a, xs, rfl, .inr (SqT.of e), sz1 rfl, fun p np => ?_⟩
      have s1 := same_upd (o := .tup [.int 2, .int 3]) np
      refine ⟨p, _, rfl, .inr (SqT.of upd_same), rfl, rfl, _, rfl, ?_⟩
      rw [if_pos rfl, inV23, ha.len]
      cases hl : (decide (ds.length = 2) || decide (ds.length = 3)) with
      | false =>
        have q2 := q _ s1
        rw [stepOk_len hl] at q2
        exact iteT (iteT q2)
      | true =>
        refine iteF ?_
        have e1 := s1 _ _ e
        rcases two_or ha hl with ⟨x1, x2, d1, d2, rfl, rfl, h1, h2⟩ | ⟨x1, x2, x3, d1, d2, d3, rfl, rfl, h1, h2, h3⟩
        · refine ⟨_, rfl, a, _, 0, x1, rfl, rfl, SqT.of e1, atI_nat (j := 0) rfl, x1, .ty "str", _, _, _, rfl, .ty "str", (h1.same s1).ty, kStr d1, _, rfl, ?_⟩
          cases hs : isSt d1 with
          | false =>
            have q2 := q _ s1
            rw [stepOk_str hs] at q2
            exact iteT q2
          | true =>
            refine iteF ?_
            refine ⟨_, rfl, a, _, rfl, .inr (SqT.of e1), rfl, _, rfl, ?_⟩
            rw [dec_int2]
            refine iteF ?_
            obtain ⟨x, rfl, rfl⟩ := isSt_of h1 hs
            refine fun pd nd => ?_
            have sd := same_upd (o := .dK []) nd
            refine ⟨_, rfl, _, _, rfl, rfl, sz1 rfl, fun t1 n1 => ?_⟩
            have st1 := same_upd (o := .tup [.int 0, .int (inp - 1)]) n1
            refine ⟨_, _, rfl, rfl, ⟨by decide, by decide, by decide⟩, _, _, rfl, rfl, _, _, rfl, rfl, ⟨by decide, by decide, by decide⟩, sz1 rfl, fun t2 n2 => ?_⟩
            have st2 := same_upd (o := .tup [.int (0 - M20), .int M20]) n2
            refine ⟨_, rfl, _, _, rfl, rfl, sz1 rfl, fun t3 n3 => ?_⟩
            have st3 := same_upd (o := .tup [.int 0, .int (num - 1)]) n3
            refine ⟨((st1.trans st2).trans st3) _ _ upd_same, bk (.ref t1) (.ref t2) (.ref t3), rfl, by show 3 ≤ 15; decide, ?_⟩
            rw [bk_merge]
            have sF : Same (upd H p (.tup [.int 2, .int 3])) (upd (upd (upd (upd (upd (upd H p (.tup [.int 2, .int 3])) pd (.dK [])) t1 (.tup [.int 0, .int (inp - 1)])) t2 (.tup [.int (0 - M20), .int M20])) t3 (.tup [.int 0, .int (num - 1)])) pd (.dK (bk (.ref t1) (.ref t2) (.ref t3)))) := fun b o hb => by
              rw [upd_ne (ne_of_none hb nd)]
              exact (sd.trans ((st1.trans st2).trans st3)) b o hb
            have pd1 : t1 ≠ pd := fun z => by
              rw [z, upd_same] at n1
              cases n1
            have pd2 : t2 ≠ pd := fun z => by
              rw [z] at n2
              rw [st1 _ _ upd_same] at n2
              cases n2
            have pd3 : t3 ≠ pd := fun z => by
              rw [z] at n3
              exact nomatch ((st1.trans st2) _ _ upd_same).symm.trans n3
            have f1 : (upd (upd (upd (upd (upd (upd H p (.tup [.int 2, .int 3])) pd (.dK [])) t1 (.tup [.int 0, .int (inp - 1)])) t2 (.tup [.int (0 - M20), .int M20])) t3 (.tup [.int 0, .int (num - 1)])) pd (.dK (bk (.ref t1) (.ref t2) (.ref t3)))) t1 = some (.tup [.int 0, .int (inp - 1)]) := (upd_ne (o := .dK (bk (.ref t1) (.ref t2) (.ref t3))) pd1).trans ((st2.trans st3) _ _ upd_same)
            have f2 : (upd (upd (upd (upd (upd (upd H p (.tup [.int 2, .int 3])) pd (.dK [])) t1 (.tup [.int 0, .int (inp - 1)])) t2 (.tup [.int (0 - M20), .int M20])) t3 (.tup [.int 0, .int (num - 1)])) pd (.dK (bk (.ref t1) (.ref t2) (.ref t3)))) t2 = some (.tup [.int (0 - M20), .int M20]) := (upd_ne (o := .dK (bk (.ref t1) (.ref t2) (.ref t3))) pd2).trans (st3 _ _ upd_same)
            have f3 : (upd (upd (upd (upd (upd (upd H p (.tup [.int 2, .int 3])) pd (.dK [])) t1 (.tup [.int 0, .int (inp - 1)])) t2 (.tup [.int (0 - M20), .int M20])) t3 (.tup [.int 0, .int (num - 1)])) pd (.dK (bk (.ref t1) (.ref t2) (.ref t3)))) t3 = some (.tup [.int 0, .int (num - 1)]) := (upd_ne (o := .dK (bk (.ref t1) (.ref t2) (.ref t3))) pd3).trans (upd_same (H := (upd (upd (upd (upd H p (.tup [.int 2, .int 3])) pd (.dK [])) t1 (.tup [.int 0, .int (inp - 1)])) t2 (.tup [.int (0 - M20), .int M20]))) (a := t3) (o := .tup [.int 0, .int (num - 1)]))
            have pF : (upd (upd (upd (upd (upd (upd H p (.tup [.int 2, .int 3])) pd (.dK [])) t1 (.tup [.int 0, .int (inp - 1)])) t2 (.tup [.int (0 - M20), .int M20])) t3 (.tup [.int 0, .int (num - 1)])) pd (.dK (bk (.ref t1) (.ref t2) (.ref t3)))) pd = some (.dK (bk (.ref t1) (.ref t2) (.ref t3))) := upd_same
            change gName 3 _ _ (upd (upd (upd (upd (upd (upd H p (.tup [.int 2, .int 3])) pd (.dK [])) t1 (.tup [.int 0, .int (inp - 1)])) t2 (.tup [.int (0 - M20), .int M20])) t3 (.tup [.int 0, .int (num - 1)])) pd (.dK (bk (.ref t1) (.ref t2) (.ref t3)))) _
            generalize (upd (upd (upd (upd (upd (upd H p (.tup [.int 2, .int 3])) pd (.dK [])) t1 (.tup [.int 0, .int (inp - 1)])) t2 (.tup [.int (0 - M20), .int M20])) t3 (.tup [.int 0, .int (num - 1)])) pd (.dK (bk (.ref t1) (.ref t2) (.ref t3)))) = HF at sF f1 f2 f3 pF ⊢
            have eF := sF _ _ e1
            have sHF := s1.trans sF
            refine ⟨_, rfl, a, _, 0, .str x, rfl, rfl, SqT.of eF, atI_nat (j := 0) rfl, _, rfl, pd, valV (bk (.ref t1) (.ref t2) (.ref t3)) (.inr x), rfl, .inl ⟨_, .inr x, .inl pF, rfl, rfl⟩, _, rfl, ?_⟩
            rw [bk_get]
            have key : (stepOk inp num (.tuple [.str x, d2]) = false ∧ valV (bk (.ref t1) (.ref t2) (.ref t3)) (.inr x) = none) ∨ (∃ t lo hi, valV (bk (.ref t1) (.ref t2) (.ref t3)) (.inr x) = some (.ref t) ∧ HF t = some (.tup [.int lo, .int hi]) ∧ stepOk inp num (.tuple [.str x, d2]) = within lo hi d2) := by
              rw [bk_get]
              show ((if x = Str.ofString "in" then within 0 (inp - 1) d2 else if x = Str.ofString "set" then within (-M20) M20 d2 else if x = Str.ofString "neg" then within 0 (num - 1) d2 else false) = false ∧ _) ∨ (∃ t lo hi, _ ∧ _ ∧ (if x = Str.ofString "in" then within 0 (inp - 1) d2 else if x = Str.ofString "set" then within (-M20) M20 d2 else if x = Str.ofString "neg" then within 0 (num - 1) d2 else false) = within lo hi d2)
              by_cases g1 : x = Str.ofString "in"
              · rw [if_pos g1, if_pos g1]
                exact .inr ⟨t1, 0, inp - 1, rfl, f1, rfl⟩
              · rw [if_neg g1, if_neg g1]
                by_cases g2 : x = Str.ofString "set"
                · rw [if_pos g2, if_pos g2]
                  exact .inr ⟨t2, -M20, M20, rfl, by rw [f2, Int.zero_sub], rfl⟩
                · rw [if_neg g2, if_neg g2]
                  by_cases g3 : x = Str.ofString "neg"
                  · rw [if_pos g3, if_pos g3]
                    exact .inr ⟨t3, 0, num - 1, rfl, f3, rfl⟩
                  · rw [if_neg g3, if_neg g3]
                    exact .inl ⟨rfl, rfl⟩
            rw [← bk_get (.ref t1) (.ref t2) (.ref t3) x]
            rcases key with ⟨kf, kn⟩ | ⟨t, lo, hi, kv, kt, ke⟩
            · rw [kn]
              have q2 := q _ sHF
              rw [kf] at q2
              exact iteF q2
            · rw [kv]
              refine iteT ⟨_, rfl, a, _, 1, x2, rfl, rfl, SqT.of eF, atI_nat (j := 1) rfl, ?_⟩
              have dg : DGet HF pd (.str x) (some (.ref t)) := .inl ⟨_, .inr x, .inl pF, rfl, kv.symm⟩
              refine ⟨_, rfl, _, rfl, a, _, 0, .str x, rfl, rfl, SqT.of eF, atI_nat (j := 0) rfl, pd, .ref t, rfl, dg, t, _, 0, .int lo, rfl, rfl, SqT.of kt, atI_nat (j := 0) rfl, ?_⟩
              refine ⟨_, rfl, _, rfl, a, _, 0, .str x, rfl, rfl, SqT.of eF, atI_nat (j := 0) rfl, pd, .ref t, rfl, dg, t, _, 1, .int hi, rfl, rfl, SqT.of kt, atI_nat (j := 1) rfl, ?_⟩
              have q2 := q _ sHF
              rw [ke] at q2
              exact ⟨D, B, x2, d2, lo, hi, rfl, h2.same sHF, q2⟩
        · refine ⟨_, rfl, a, _, 0, x1, rfl, rfl, SqT.of e1, atI_nat (j := 0) rfl, x1, .ty "str", _, _, _, rfl, .ty "str", (h1.same s1).ty, kStr d1, _, rfl, ?_⟩
          cases hs : isSt d1 with
          | false =>
            have q2 := q _ s1
            rw [stepOk_str hs] at q2
            exact iteT q2
          | true =>
            refine iteF ?_
            refine ⟨_, rfl, a, _, rfl, .inr (SqT.of e1), rfl, _, rfl, ?_⟩
            rw [dec_int2]
            obtain ⟨x, rfl, rfl⟩ := isSt_of h1 hs
            refine iteT ⟨_, rfl, a, _, 0, .str x, rfl, rfl, SqT.of e1, atI_nat (j := 0) rfl, sz1 rfl, fun p2 np2 => ?_⟩
            have s2 := same_upd (o := .tup [.str ((Str.ofString "+")), .str ((Str.ofString "-")), .str ((Str.ofString "*"))]) np2
            have s12 := s1.trans s2
            refine ⟨p2, _, rfl, .inr (SqT.of upd_same), rfl, rfl, ?_⟩
            rw [if_neg Bool.false_ne_true]
            have hin := inV3 x ((Str.ofString "+")) ((Str.ofString "-")) ((Str.ofString "*"))
            rw [hin]
            cases hw : (decide (x = (Str.ofString "+")) || decide (x = (Str.ofString "-")) || decide (x = (Str.ofString "*"))) with
            | false =>
              have q2 := q _ s12
              rw [show stepOk inp num (.tuple [.str x, d2, d3]) = ((decide (x = (Str.ofString "+")) || decide (x = (Str.ofString "-")) || decide (x = (Str.ofString "*"))) && (within 0 (num - 1) d2 && within 0 (num - 1) d3)) from rfl, hw] at q2
              exact ⟨_, rfl, iteF q2⟩
            | true =>
              have e2 := s2 _ _ e1
              refine ⟨_, rfl, iteT ?_⟩
              refine ⟨_, rfl, _, rfl, ?_⟩
              dsimp only [tNoPart]
              refine sl_read e2 fun c H4 s4 g4 => ?_
              have s14 := s12.trans s4
              have g5 : H4 c = some (.tup [x2, x3]) := g4.trans (congrArg (fun z => some (HO.tup z)) (cutV_from _ 1))
              have ha4 : DqAll D B H4 [x2, x3] [d2, d3] := .cons (h2.same s14) (.cons (h3.same s14) .nil)
              refine ⟨c, rfl, ⟨_, SqT.of g5⟩, fun D1 nD1 => ?_⟩
              refine lc_tup (K := K) (a := c) (xs := [x2, x3]) (fun i H3 => ∃ m : Nat, m ≤ i ∧ H3 D1 = some (.lst ((List.replicate m (1 : Int)).map V.int)) ∧ decide (m = 0) = ([d2, d3].take i).all (within 0 (num - 1)) ∧ Same H4 H3) ⟨0, Nat.le_refl _, upd_same, rfl, same_upd nD1⟩ (fun i H3 _ ⟨_, _, _, _, h⟩ => SqT.of (h _ _ g5)) ?_ ?_
              · rintro i y H3 hi ⟨m, hm, k1, k2, s3⟩
                obtain ⟨dx, hdx, hx⟩ := ha4.at_ i y hi
                have hx3 := hx.same s3
                have hil : i < 2 := (List.getElem?_eq_some_iff.mp hi).1
                have hal : ([d2, d3].take (i + 1)).all (within 0 (num - 1)) = (([d2, d3].take i).all (within 0 (num - 1)) && within 0 (num - 1) dx) := by
                  rw [List.take_add_one, hdx, List.all_append]
                  simp
                refine ⟨rfl, y, rfl, _, rfl, _, _, rfl, rfl, D, B, y, dx, 0, num - 1, rfl, hx3, _, rfl, ?_⟩
                cases hk : within 0 (num - 1) dx with
                | true =>
                  refine iteF ⟨m, by omega, k1, ?_, s3⟩
                  rw [hal, hk, Bool.and_true]
                  exact k2
                | false =>
                  refine iteT ⟨_, k1, ?_, m + 1, by omega, ?_, ?_, ?_⟩
                  · rw [List.length_map, List.length_replicate]
                    exact smallM (by omega)
                  · rw [upd_same, List.replicate_succ', List.map_append]
                    rfl
                  · rw [hal, hk, Bool.and_false]
                    rfl
                  · intro b o hb
                    rw [upd_ne (ne_of_none hb nD1)]
                    exact s3 b o hb
              · rintro H3 ⟨m, hm, k1, k2, s3⟩
                refine ⟨Nat.zero_le _, fun p3 np3 => ?_⟩
                have s5 : Same H3 (upd H3 p3 (.lst [])) := same_upd np3
                refine ⟨.list ((List.replicate m (1 : Int)).map PyData.int), .list [], .lst (SqL.of (s5 _ _ k1)) (dp_ints _), .lst (SqL.of upd_same) .nil, shaped_ints _, shaped_ints [], ?_⟩
                have q2 := q _ ((s14.trans s3).trans s5)
                have eb : stepOk inp num (.tuple [.str x, d2, d3]) = ([d2, d3].take [x2, x3].length).all (within 0 (num - 1)) := by
                  show ((decide (x = (Str.ofString "+")) || decide (x = (Str.ofString "-")) || decide (x = (Str.ofString "*"))) && (within 0 (num - 1) d2 && within 0 (num - 1) d3)) = (within 0 (num - 1) d2 && (within 0 (num - 1) d3 && true))
                  rw [hw, Bool.true_and, Bool.and_true]
                rw [eb, ← k2, ← ones_eqv m] at q2
                exact q2
end
end Jg
namespace Jg
open PySem PySem.Spec PyProof.Rows L2
/-! ### the program's judging of steps -/
abbrev sPStep : Stmt := topS 17
abbrev nPStep : List Str := ["value", "number", "inputs", "word", "part"]
theorem scPStep : FnScope nPStep ["value", "number", "inputs"] (defScope sPStep) := ⟨rfl, rfl, rfl, by decide +kernel, rfl, by decide +kernel, by decide +kernel⟩
/-- how many numbers stand behind a word -/
def numOf (x : Str) : Option Int := if x = Str.ofString "in" ∨ x = Str.ofString "set" ∨ x = Str.ofString "neg" then some 1 else if x = Str.ofString "+" ∨ x = Str.ofString "-" ∨ x = Str.ofString "*" then some 2 else none
/-- the program's table of words -/
structure Nums (K : PySem.W.Frag) (w : World) (mg : Str → Option Value) (d : Addr) : Prop where
  g : mg "NUMBERS" = some (.ref d)
  D : ∃ es n, KDict K w d es n
  none : ∀ x, numOf x = .none → PySem.W.nsIn K d x = some .none
  some : ∀ x i, numOf x = some i → ∃ tk, PySem.W.nsIn K d x = some (some (.int i tk))
theorem stepOk_num0 {inp num : Int} {x : Str} {ds : List PyData} (h : numOf x = none) : stepOk inp num (.tuple (.str x :: ds)) = false := by
  unfold numOf at h
  split at h
  · cases h
  · rename_i h1
    split at h
    · cases h
    · rename_i h2
      have a1 : ¬ x = Str.ofString "in" := fun z => h1 (.inl z)
      have a2 : ¬ x = Str.ofString "set" := fun z => h1 (.inr (.inl z))
      have a3 : ¬ x = Str.ofString "neg" := fun z => h1 (.inr (.inr z))
      have b1 : ¬ x = Str.ofString "+" := fun z => h2 (.inl z)
      have b2 : ¬ x = Str.ofString "-" := fun z => h2 (.inr (.inl z))
      have b3 : ¬ x = Str.ofString "*" := fun z => h2 (.inr (.inr z))
      match ds with
      | [] => rfl
      | [a] => simp only [stepOk, if_neg a1, if_neg a2, if_neg a3]
      | [a, b] => simp only [stepOk, decide_eq_false b1, decide_eq_false b2, decide_eq_false b3, Bool.or_self, Bool.false_and]
      | _ :: _ :: _ :: _ => rfl
theorem numOf_is {x : Str} {i : Int} (h : numOf x = some i) : (i = 1 ∧ (x = Str.ofString "in" ∨ x = Str.ofString "set" ∨ x = Str.ofString "neg")) ∨ (i = 2 ∧ (x = Str.ofString "+" ∨ x = Str.ofString "-" ∨ x = Str.ofString "*")) := by
  unfold numOf at h
  split at h
  · rename_i h1
    exact .inl ⟨(Option.some.inj h).symm, h1⟩
  · split at h
    · rename_i h2
      exact .inr ⟨(Option.some.inj h).symm, h2⟩
    · cases h
theorem two_not {x : Str} (h : x = Str.ofString "+" ∨ x = Str.ofString "-" ∨ x = Str.ofString "*") : ¬ x = Str.ofString "in" ∧ ¬ x = Str.ofString "set" ∧ ¬ x = Str.ofString "neg" := by
  rcases h with rfl | rfl | rfl <;> decide +kernel
theorem one_not {x : Str} (h : x = Str.ofString "in" ∨ x = Str.ofString "set" ∨ x = Str.ofString "neg") : ¬ x = Str.ofString "+" ∧ ¬ x = Str.ofString "-" ∧ ¬ x = Str.ofString "*" := by
  rcases h with rfl | rfl | rfl <;> decide +kernel
theorem num_shape {x : Str} {i : Int} {dr : List PyData} (h : numOf x = some i) (hl : (((.str x :: dr : List PyData).length : Nat) : Int) = 1 + i) :
    (∃ d2, dr = [d2] ∧ (x = Str.ofString "in" ∨ x = Str.ofString "set" ∨ x = Str.ofString "neg")) ∨ (∃ d2 d3, dr = [d2, d3] ∧ (x = Str.ofString "+" ∨ x = Str.ofString "-" ∨ x = Str.ofString "*")) := by
  rw [List.length_cons] at hl
  rcases numOf_is h with ⟨rfl, hx⟩ | ⟨rfl, hx⟩
  · match dr, hl with
    | [], hl => simp at hl
    | [d], _ => exact .inl ⟨d, rfl, hx⟩
    | _ :: _ :: _, hl => simp only [List.length_cons] at hl; omega
  · match dr, hl with
    | [], hl => simp at hl
    | [d], hl => simp at hl
    | [a, b], _ => exact .inr ⟨a, b, rfl, hx⟩
    | _ :: _ :: _ :: _, hl => simp only [List.length_cons] at hl; omega
theorem stepOk_numL {inp num : Int} {x : Str} {i : Int} {dr : List PyData} (h : numOf x = some i) (hl : ¬ (((.str x :: dr : List PyData).length : Nat) : Int) = 1 + i) : stepOk inp num (.tuple (.str x :: dr)) = false := by
  rw [List.length_cons] at hl
  rcases numOf_is h with ⟨rfl, hx⟩ | ⟨rfl, hx⟩
  · obtain ⟨b1, b2, b3⟩ := one_not hx
    match dr, hl with
    | [], _ => rfl
    | [d], hl => exact absurd rfl hl
    | [a, b], _ => simp only [stepOk, decide_eq_false b1, decide_eq_false b2, decide_eq_false b3, Bool.or_self, Bool.false_and]
    | _ :: _ :: _ :: _, _ => rfl
  · obtain ⟨a1, a2, a3⟩ := two_not hx
    match dr, hl with
    | [], _ => rfl
    | [d], _ => simp only [stepOk, if_neg a1, if_neg a2, if_neg a3]
    | [a, b], hl => exact absurd rfl hl
    | _ :: _ :: _ :: _, _ => rfl
theorem dq_one {D B : Addr} {H : Hp} {xs : List V} {d : PyData} (h : DqAll D B H xs [d]) : ∃ x, xs = [x] ∧ Dq D B H x d := by
  cases h with
  | cons a h =>
    cases h
    exact ⟨_, rfl, a⟩
theorem dq_two {D B : Addr} {H : Hp} {xs : List V} {d e : PyData} (h : DqAll D B H xs [d, e]) : ∃ x y, xs = [x, y] ∧ Dq D B H x d ∧ Dq D B H y e := by
  cases h with
  | cons a h =>
    cases h with
    | cons b h =>
      cases h
      exact ⟨_, _, rfl, a, b⟩
section
variable {P : Program} {w : World} {K : PySem.W.Frag} {mg : Str → Option Value} {base : Heap}
def spPStep : Sp := fun vs H Q _ => ∃ (D B : Addr) (v : V) (d : PyData) (inp num : Int), vs = [v, .int num, .int inp] ∧ Dq D B H v d ∧ ∀ H', Same H H' → Q (.bl (stepOk inp num d)) H'
theorem ok_pstep {f f1 f2 dN : Addr} {fd fd1 fd2 : FuncData} {tk : Tok} (F : Fun K "_is_step" "_is_step" sPStep f fd) (F1 : Fun K "is_integer" "is_integer" sInt f1 fd1) (b1 : Binds K fd1 ["value"] []) (g1 : mg "is_integer" = some (.ref f1))
    (F2 : Fun K "is_within" "is_within" sWith f2 fd2) (b2 : Binds K fd2 ["value", "low", "high"] []) (g2 : mg "is_within" = some (.ref f2)) (gM : mg "MAX_NUMBER" = some (.int M20 tk)) (N : Nums K w mg dN) (T : Bn mg) :
    FnOk P w K mg base CX0 3 f fd ["value", "number", "inputs"] spPStep := by
  have G2 : FnOk P w K mg base CX0 2 f2 fd2 ["value", "low", "high"] spWith := ok_with F2 F1 b1 g1 T
  obtain ⟨es, n, ND⟩ := N.D
  refine F.ok scPStep (fun vs H Q E h => ?_) (fun cdv A outer s H vs Q E hr h => ?_)
  · obtain ⟨D, B, v, d, inp, num, rfl, _⟩ := h
    rfl
  · obtain ⟨D, B, v, d, inp, num, rfl, hd, q⟩ := h
    have hu := hr.units
    refine ⟨_, pss_cons (ps_if (PW.pt (pw_or (pt_not (pt_val (pe_callB call_isi (by rfl) T.isi PyProof.Rows.boot_isinstance (pa_cons (pv 0) (pa_cons (pe_bltn (by rfl) T.tup boot_tuple' (v := .ty "tuple") rfl) pa_nil)))))
        (pw_or (pt_not (pt_truth (pv 0) (by intro _; rfl)))
          (pw_or1 (pt_not (pt_val (pe_callB call_isi (by rfl) T.isi PyProof.Rows.boot_isinstance (pa_cons (pe_ix ix_tup (pv 0) pe_int (fun _ _ => rfl)) (pa_cons (pe_bltn (by rfl) T.str boot_str' (v := .ty "str") rfl) pa_nil))))))))) (pss_one (ps_ret pe_bl)) pss_nil)
      (pss_cons (ps_set (i := 3) scPStep.nd rfl (.inl rfl) (pe_ix ix_tup (pv 0) pe_int (fun _ _ => rfl)))
      (pss_cons (ps_if (PW.pt (pw_or (pt_cmpR (op_notIn_kd ND) (pv 3) (pe_glob (v := .ref dN) rfl N.g rfl) (by rfl))
          (pw_or1 (pt_cmpR op_ne (pe_callB call_len_seq (by rfl) T.len PySem.boot_len (pa_cons (pv 0) pa_nil)) (pe_op op_add pe_int (pe_ix ix_kdict (pe_glob (v := .ref dN) rfl N.g rfl) (pv 3) (fun _ _ => rfl))) (nomark _))))) (pss_one (ps_ret pe_bl)) pss_nil)
      (pss_cons (ps_if (pt_cmpR op_eq (pv 3) pe_str (nomark _)) (pss_one (ps_ret (pe_call G2 hr (by rfl) g2 F2.kp b2 .nil pass0 (pa_cons (pe_ix ix_tup (pv 0) pe_int (fun _ _ => rfl)) (pa_cons pe_int (pa_cons (pe_op op_sub (pv 2) pe_int) pa_nil)))))) pss_nil)
      (pss_cons (ps_if (pt_cmpR op_eq (pv 3) pe_str (nomark _)) (pss_one (ps_ret (pe_call G2 hr (by rfl) g2 F2.kp b2 .nil pass0 (pa_cons (pe_ix ix_tup (pv 0) pe_int (fun _ _ => rfl)) (pa_cons (pe_un un_neg (pe_glob (v := .int M20) rfl gM ⟨_, rfl⟩)) (pa_cons (pe_glob (v := .int M20) rfl gM ⟨_, rfl⟩) pa_nil)))))) pss_nil)
      (pss_one (ps_ret (pe_callB (cr_all rfl) (by rfl) T.all boot_all' (pa_cons (pe_lc (own := [("part", 4)]) (g := gName 4) (tt := tYes) rfl scPStep.nd (pi_tup (pe_slice sl_tupA (pv 0) (po_some pe_int) po_none)) (blkOk_by (N := nPStep) (sc := defScope sPStep) (by decide +kernel))
        (fun _ _ _ _ _ => pg_name (i := 4) scPStep.nd rfl (.inl rfl)) (fun _ _ _ _ _ => pts_nil) (fun _ _ _ _ _ => pe_call G2 hr (by rfl) g2 F2.kp b2 .nil pass0 (pa_cons (pv 4) (pa_cons pe_int (pa_cons (pe_op op_sub (pv 1) pe_int) pa_nil))))) pa_nil)))))))), ?_⟩
    refine ⟨v, rfl, v, .ty "tuple", _, _, _, rfl, .ty "tuple", hd.ty, kTup d, _, rfl, ?_⟩
    cases hb : isTu d with
    | false =>
      have q2 := q H (Same.refl H)
      rw [stepOk_no hb] at q2
      exact iteT (iteT q2)
    | true =>
      obtain ⟨a, xs, ds, rfl, rfl, e, ha⟩ := isTu_of hd hb
      refine iteF ⟨_, rfl, _, .inr (.inl ⟨xs, SqT.of e, rfl⟩), ?_⟩
      cases ha with
      | nil => exact iteT (iteT (q H (Same.refl H)))
      | @cons x1 xr d1 dr h1 hr1 =>
        refine iteF ⟨_, rfl, a, _, 0, x1, rfl, rfl, SqT.of e, atI_nat (j := 0) rfl, x1, .ty "str", _, _, _, rfl, .ty "str", h1.ty, kStr d1, _, rfl, ?_⟩
        cases hs : isSt d1 with
        | false =>
          have q2 := q H (Same.refl H)
          rw [stepOk_str hs] at q2
          exact iteT q2
        | true =>
          obtain ⟨x, rfl, rfl⟩ := isSt_of h1 hs
          refine iteF ⟨_, rfl, a, _, 0, .str x, rfl, rfl, SqT.of e, atI_nat (j := 0) rfl, ?_⟩
          cases hn : numOf x with
          | none =>
            refine ⟨_, rfl, x, _, rfl, rfl, N.none x hn, _, rfl, ?_⟩
            have q2 := q H (Same.refl H)
            rw [stepOk_num0 hn] at q2
            exact iteT (iteT q2)
          | some i =>
            obtain ⟨tk2, hk⟩ := N.some x i hn
            refine ⟨_, rfl, x, _, rfl, rfl, hk, _, rfl, iteF ⟨_, rfl, a, _, rfl, .inr (SqT.of e), _, rfl, dN, x, .int i, rfl, rfl, ⟨es, n, _, ND.at_, ND.lit, hk, ⟨_, rfl⟩⟩, _, _, rfl, rfl, rfl, _, rfl, ?_⟩⟩
            have eL : (V.int ((V.str x :: xr).length : Nat) = V.int (1 + i)) ↔ ((((.str x :: dr : List PyData).length : Nat) : Int) = 1 + i) := by
              rw [show (V.str x :: xr).length = (PyData.str x :: dr).length by rw [List.length_cons, List.length_cons, hr1.len]]
              exact ⟨fun z => V.int.inj z, fun z => by rw [z]⟩
            by_cases hl : (((.str x :: dr : List PyData).length : Nat) : Int) = 1 + i
            · have hb2 : (!decide (V.int ((V.str x :: xr).length : Nat) = V.int (1 + i))) = false := by rw [decide_eq_true (eL.mpr hl)]; rfl
              show (fun b H1 => _) (!decide (V.int ((V.str x :: xr).length : Nat) = V.int (1 + i))) H
              rw [hb2]
              refine iteF ?_
              rcases num_shape hn hl with ⟨d2, rfl, hx⟩ | ⟨d2, d3, rfl, hx⟩
              · obtain ⟨x2, rfl, h2⟩ := dq_one hr1
                have se : stepOk inp num (.tuple [.str x, d2]) = if x = Str.ofString "in" then within 0 (inp - 1) d2 else if x = Str.ofString "set" then within (-M20) M20 d2 else if x = Str.ofString "neg" then within 0 (num - 1) d2 else false := rfl
                refine ⟨_, rfl, rfl, _, rfl, ite2 (fun c1 => ?_) (fun c1 => ?_)⟩
                · have x1 : x = Str.ofString "in" := V.str.inj (of_decide_eq_true c1)
                  have q2 := q H (Same.refl H)
                  rw [se, if_pos x1] at q2
                  exact ⟨_, rfl, a, _, 1, x2, rfl, rfl, SqT.of e, atI_nat (j := 1) rfl, _, rfl, _, _, rfl, rfl, D, B, x2, d2, 0, inp - 1, rfl, h2, q2⟩
                · have x1 : ¬ x = Str.ofString "in" := fun z => c1 (decide_eq_true (by rw [z]))
                  refine ⟨_, rfl, rfl, _, rfl, ite2 (fun c2 => ?_) (fun c2 => ?_)⟩
                  · have x2' : x = Str.ofString "set" := V.str.inj (of_decide_eq_true c2)
                    have q2 := q H (Same.refl H)
                    rw [se, if_neg x1, if_pos x2'] at q2
                    exact ⟨_, rfl, a, _, 1, x2, rfl, rfl, SqT.of e, atI_nat (j := 1) rfl, _, rfl, D, B, x2, d2, -M20, M20, rfl, h2, q2⟩
                  · have x2' : ¬ x = Str.ofString "set" := fun z => c2 (decide_eq_true (by rw [z]))
                    have x3' : x = Str.ofString "neg" := (hx.resolve_left x1).resolve_left x2'
                    refine ⟨_, rfl, _, rfl, ?_⟩
                    dsimp only [tNoPart]
                    refine sl_read e fun c H4 s4 g4 => ?_
                    have g5 : H4 c = some (.tup [x2]) := g4.trans (congrArg (fun z => some (HO.tup z)) (cutV_from _ 1))
                    have ha4 : DqAll D B H4 [x2] [d2] := .cons (h2.same s4) .nil
                    refine ⟨c, rfl, ⟨_, SqT.of g5⟩, fun D1 nD1 => ?_⟩
                    refine lc_tup (K := K) (a := c) (xs := [x2]) (fun i H3 => H3 D1 = some (.lst ((([d2].take i).map (within 0 (num - 1))).map V.bl)) ∧ Same H4 H3) ⟨upd_same, same_upd nD1⟩ (fun i H3 _ h => SqT.of (h.2 _ _ g5)) ?_ ?_
                    · rintro i y H3 hi ⟨k1, s3⟩
                      obtain ⟨dx, hdx, hx5⟩ := ha4.at_ i y hi
                      refine ⟨rfl, tYes_if ⟨y, rfl, _, rfl, _, _, rfl, rfl, D, B, y, dx, 0, num - 1, rfl, hx5.same s3, _, k1, ?_, ?_, ?_⟩⟩
                      · simp only [List.length_map, List.length_take]
                        exact Nat.lt_of_le_of_lt (Nat.min_le_right _ _) (smallM (by show 1 ≤ 1000000; decide))
                      · rw [upd_same, take_map_next hdx, List.map_append]
                        rfl
                      · intro b o hb
                        rw [upd_ne (ne_of_none hb nD1)]
                        exact s3 b o hb
                    · rintro H3 ⟨k1, s3⟩
                      refine ⟨D1, _, rfl, SqL.of k1, ?_⟩
                      have q2 := q _ (s4.trans s3)
                      rw [show stepOk inp num (.tuple (.str x :: [d2])) = (([d2].take [x2].length).map (within 0 (num - 1))).all id from by rw [se, if_neg x1, if_neg x2', if_pos x3']; show _ = (within 0 (num - 1) d2 && true); rw [Bool.and_true]] at q2
                      exact q2
              · obtain ⟨x2, x3, rfl, h2, h3⟩ := dq_two hr1
                obtain ⟨y1, y2, y3⟩ := two_not hx
                refine ⟨_, rfl, rfl, _, rfl, ite2 (fun c1 => absurd (V.str.inj (of_decide_eq_true c1)) y1) (fun c1 => ?_)⟩
                refine ⟨_, rfl, rfl, _, rfl, ite2 (fun c2 => absurd (V.str.inj (of_decide_eq_true c2)) y2) (fun c2 => ?_)⟩
                have hw : (decide (x = Str.ofString "+") || decide (x = Str.ofString "-") || decide (x = Str.ofString "*")) = true := by
                  rcases hx with rfl | rfl | rfl <;> decide +kernel
                refine ⟨_, rfl, _, rfl, ?_⟩
                dsimp only [tNoPart]
                refine sl_read e fun c H4 s4 g4 => ?_
                have g5 : H4 c = some (.tup [x2, x3]) := g4.trans (congrArg (fun z => some (HO.tup z)) (cutV_from _ 1))
                have ha4 : DqAll D B H4 [x2, x3] [d2, d3] := .cons (h2.same s4) (.cons (h3.same s4) .nil)
                refine ⟨c, rfl, ⟨_, SqT.of g5⟩, fun D1 nD1 => ?_⟩
                refine lc_tup (K := K) (a := c) (xs := [x2, x3]) (fun i H3 => H3 D1 = some (.lst ((([d2, d3].take i).map (within 0 (num - 1))).map V.bl)) ∧ Same H4 H3) ⟨upd_same, same_upd nD1⟩ (fun i H3 _ h => SqT.of (h.2 _ _ g5)) ?_ ?_
                · rintro i y H3 hi ⟨k1, s3⟩
                  obtain ⟨dx, hdx, hx5⟩ := ha4.at_ i y hi
                  refine ⟨rfl, tYes_if ⟨y, rfl, _, rfl, _, _, rfl, rfl, D, B, y, dx, 0, num - 1, rfl, hx5.same s3, _, k1, ?_, ?_, ?_⟩⟩
                  · simp only [List.length_map, List.length_take]
                    exact Nat.lt_of_le_of_lt (Nat.min_le_right _ _) (smallM (by show 2 ≤ 1000000; decide))
                  · rw [upd_same, take_map_next hdx, List.map_append]
                    rfl
                  · intro b o hb
                    rw [upd_ne (ne_of_none hb nD1)]
                    exact s3 b o hb
                · rintro H3 ⟨k1, s3⟩
                  refine ⟨D1, _, rfl, SqL.of k1, ?_⟩
                  have q2 := q _ (s4.trans s3)
                  rw [show stepOk inp num (.tuple (.str x :: [d2, d3])) = (([d2, d3].take [x2, x3].length).map (within 0 (num - 1))).all id from by show ((decide (x = Str.ofString "+") || decide (x = Str.ofString "-") || decide (x = Str.ofString "*")) && (within 0 (num - 1) d2 && within 0 (num - 1) d3)) = (within 0 (num - 1) d2 && (within 0 (num - 1) d3 && true)); rw [hw, Bool.true_and, Bool.and_true]] at q2
                  exact q2
            · have hb2 : (!decide (V.int ((V.str x :: xr).length : Nat) = V.int (1 + i))) = true := by rw [decide_eq_false fun z => hl (eL.mp z)]; rfl
              show (fun b H1 => _) (!decide (V.int ((V.str x :: xr).length : Nat) = V.int (1 + i))) H
              rw [hb2]
              have q2 := q H (Same.refl H)
              rw [stepOk_numL hn hl] at q2
              exact iteT q2
end
end Jg
namespace Jg
open PySem PySem.Spec PyProof.Rows L2
/-! ### sizes of steps -/
/-- the number found for a step -/
def fnd (ns : List Int) (i : Int) : Int := ns.getD i.toNat 0
/-- the size of a step, those ahead being told -/
def szD (ns : List Int) : PyData → Int
  | .tuple [.str x, .int i] => if x = Str.ofString "in" ∨ x = Str.ofString "set" then 1 else fnd ns i
  | .tuple [.str x, .int i, .int j] => if x = Str.ofString "*" then fnd ns i + fnd ns j else if fnd ns j > fnd ns i then fnd ns j else fnd ns i
  | _ => 0
theorem within_is {lo hi : Int} {d : PyData} (h : within lo hi d = true) : ∃ i, d = .int i ∧ lo ≤ i ∧ i ≤ hi := by
  cases d <;> first | cases h | skip
  rename_i i
  have h2 : (decide (lo ≤ i) && decide (i ≤ hi)) = true := h
  rw [Bool.and_eq_true] at h2
  exact ⟨i, rfl, of_decide_eq_true h2.1, of_decide_eq_true h2.2⟩
/-- what a step that is none of a fault looks like -/
theorem stepOk_is {inp num : Int} {d : PyData} (h : stepOk inp num d = true) :
    (∃ x i, d = .tuple [.str x, .int i] ∧ (x = Str.ofString "in" ∨ x = Str.ofString "set")) ∨ (∃ i, d = .tuple [.str (Str.ofString "neg"), .int i] ∧ 0 ≤ i ∧ i ≤ num - 1) ∨
      (∃ x i j, d = .tuple [.str x, .int i, .int j] ∧ (x = Str.ofString "+" ∨ x = Str.ofString "-" ∨ x = Str.ofString "*") ∧ 0 ≤ i ∧ i ≤ num - 1 ∧ 0 ≤ j ∧ j ≤ num - 1) := by
  unfold stepOk at h
  split at h
  · rename_i x a
    split at h
    · rename_i g
      obtain ⟨i, rfl, _⟩ := within_is h
      exact .inl ⟨x, i, rfl, .inl g⟩
    · split at h
      · rename_i g
        obtain ⟨i, rfl, _⟩ := within_is h
        exact .inl ⟨x, i, rfl, .inr g⟩
      · split at h
        · rename_i g
          obtain ⟨i, rfl, h1, h2⟩ := within_is h
          exact .inr (.inl ⟨i, by rw [g], h1, h2⟩)
        · cases h
  · rename_i x a b
    rw [Bool.and_eq_true, Bool.and_eq_true, Bool.or_eq_true, Bool.or_eq_true] at h
    obtain ⟨h0, h1, h2⟩ := h
    obtain ⟨i, rfl, i1, i2⟩ := within_is h1
    obtain ⟨j, rfl, j1, j2⟩ := within_is h2
    refine .inr (.inr ⟨x, i, j, rfl, ?_, i1, i2, j1, j2⟩)
    rcases h0 with (h0 | h0) | h0
    · exact .inl (of_decide_eq_true h0)
    · exact .inr (.inl (of_decide_eq_true h0))
    · exact .inr (.inr (of_decide_eq_true h0))
  · cases h
theorem szD_neg {ns : List Int} {x : Str} {i : Int} (h1 : ¬ x = Str.ofString "in") (h2 : ¬ x = Str.ofString "set") : szD ns (.tuple [.str x, .int i]) = fnd ns i := if_neg (fun z : (x = Str.ofString "in" ∨ x = Str.ofString "set") => Or.elim z h1 h2)
theorem fnd_at {ns : List Int} {i : Int} (h0 : 0 ≤ i) (h1 : i < (ns.length : Int)) : atI (ns.map V.int) i = some (.int (fnd ns i)) := by
  obtain ⟨j, rfl⟩ : ∃ j : Nat, i = (j : Int) := ⟨i.toNat, by omega⟩
  have hj : j < ns.length := by omega
  refine atI_nat ?_
  rw [List.getElem?_map, List.getElem?_eq_getElem hj]
  show some (V.int ns[j]) = some (V.int (ns.getD j 0))
  rw [List.getD_eq_getElem?_getD, List.getElem?_eq_getElem hj]
  rfl
abbrev sSize : Stmt := topS 29
abbrev nSize : List Str := ["_law_step", "_law_found"]
theorem scSize : FnScope nSize ["_law_step", "_law_found"] (defScope sSize) := ⟨rfl, rfl, rfl, by decide +kernel, rfl, by decide +kernel, by decide +kernel⟩
theorem boot_max' : bootBuiltins "max" = some (.builtin "max") := by decide +kernel
theorem inV2 (x a b : Str) : inV (.str x) [.str a, .str b] = (decide (x = a) || decide (x = b)) := by
  have h : ∀ k : Str, eqV (.str k) (.str x) = decide (x = k) := fun k => by
    show decide (k = x) = decide (x = k)
    by_cases e : x = k
    · rw [decide_eq_true e, decide_eq_true e.symm]
    · rw [decide_eq_false e, decide_eq_false fun z => e z.symm]
  show (eqV (.str a) (.str x) || (eqV (.str b) (.str x) || false)) = _
  rw [h, h, Bool.or_false]
section
variable {P : Program} {w : World} {K : PySem.W.Frag} {mg : Str → Option Value} {base : Heap}
def spSize : Sp := fun vs H Q _ => ∃ (D B L : Addr) (v : V) (d : PyData) (inp : Int) (ns : List Int), vs = [v, .ref L] ∧ Dq D B H v d ∧ stepOk inp ns.length d = true ∧ H L = some (.lst (ns.map V.int)) ∧ ∀ H', Same H H' → Q (.int (szD ns d)) H'
theorem ok_lsize {f : Addr} {fd : FuncData} (F : Fun K "_law_size" "_law_size" sSize f fd) (T : Bn mg) : FnOk P w K mg base CX0 1 f fd ["_law_step", "_law_found"] spSize := by
  refine F.ok scSize (fun vs H Q E h => ?_) (fun cdv A outer s H vs Q E hr h => ?_)
  · obtain ⟨D, B, L, v, d, inp, ns, rfl, _⟩ := h
    rfl
  · obtain ⟨D, B, L, v, d, inp, ns, rfl, hd, ok, eL, q⟩ := h
    refine ⟨_, pss_cons (ps_if (pt_cmpR op_in_seq (pe_ix ix_tup (pv 0) pe_int (fun _ _ => rfl)) (pe_tup (pa_cons pe_str (pa_cons pe_str pa_nil))) (by rfl)) (pss_one (ps_ret pe_int)) pss_nil)
      (pss_cons (ps_if (pt_cmpR op_eq (pe_ix ix_tup (pv 0) pe_int (fun _ _ => rfl)) pe_str (nomark _)) (pss_one (ps_ret (pe_ix ix_list (pv 1) (pe_ix ix_tup (pv 0) pe_int (fun _ _ => rfl)) (fun _ _ => rfl)))) pss_nil)
      (pss_one (ps_ret (pe_ifExp (pt_cmpR op_eq (pe_ix ix_tup (pv 0) pe_int (fun _ _ => rfl)) pe_str (nomark _))
        (pe_op op_add (pe_ix ix_list (pv 1) (pe_ix ix_tup (pv 0) pe_int (fun _ _ => rfl)) (fun _ _ => rfl)) (pe_ix ix_list (pv 1) (pe_ix ix_tup (pv 0) pe_int (fun _ _ => rfl)) (fun _ _ => rfl)))
        (pe_callB (call_max2 rfl) (by rfl) T.max boot_max' (pa_cons (pe_callTy call_int1 (by rfl) T.int PyProof.Rows.boot_int (pa_cons (pe_ix ix_list (pv 1) (pe_ix ix_tup (pv 0) pe_int (fun _ _ => rfl)) (fun _ _ => rfl)) pa_nil))
          (pa_cons (pe_callTy call_int1 (by rfl) T.int PyProof.Rows.boot_int (pa_cons (pe_ix ix_list (pv 1) (pe_ix ix_tup (pv 0) pe_int (fun _ _ => rfl)) (fun _ _ => rfl)) pa_nil)) pa_nil))))))), ?_⟩
    rcases stepOk_is ok with ⟨x, i, rfl, hx⟩ | ⟨i, rfl, i0, i1⟩ | ⟨x, i, j, rfl, hx, i0, i1, j0, j1⟩
    · obtain ⟨a, xs, rfl, e, ha⟩ := hd.tupE
      obtain ⟨y1, y2, rfl, h1, h2⟩ := dq_two ha
      obtain ⟨_, z1, rfl⟩ := isSt_of h1 rfl
      cases z1
      refine ⟨_, rfl, a, _, 0, .str x, rfl, rfl, SqT.of e, atI_nat (j := 0) rfl, sz1 rfl, fun p np => ?_⟩
      have s1 := same_upd (o := .tup [.str (Str.ofString "in"), .str (Str.ofString "set")]) np
      refine ⟨p, _, rfl, .inr (SqT.of upd_same), rfl, rfl, _, rfl, ?_⟩
      rw [if_neg Bool.false_ne_true, inV2]
      have hw : (decide (x = Str.ofString "in") || decide (x = Str.ofString "set")) = true := by
        rcases hx with rfl | rfl <;> decide +kernel
      rw [hw]
      have q2 := q _ s1
      rw [show szD ns (.tuple [.str x, .int i]) = 1 from if_pos hx] at q2
      exact iteT q2
    · obtain ⟨a, xs, rfl, e, ha⟩ := hd.tupE
      obtain ⟨y1, y2, rfl, h1, h2⟩ := dq_two ha
      obtain ⟨_, z1, rfl⟩ := isSt_of h1 rfl
      cases z1
      cases h2.intE
      refine ⟨_, rfl, a, _, 0, .str (Str.ofString "neg"), rfl, rfl, SqT.of e, atI_nat (j := 0) rfl, sz1 rfl, fun p np => ?_⟩
      have s1 := same_upd (o := .tup [.str (Str.ofString "in"), .str (Str.ofString "set")]) np
      have e1 := s1 _ _ e
      have eL1 := s1 _ _ eL
      have q2 := q _ s1
      refine ⟨p, _, rfl, .inr (SqT.of upd_same), rfl, rfl, _, rfl, ?_⟩
      rw [if_neg Bool.false_ne_true, inV2]
      have hn1 : ¬ Str.ofString "neg" = Str.ofString "in" := by decide +kernel
      have hn2 : ¬ Str.ofString "neg" = Str.ofString "set" := by decide +kernel
      rw [decide_eq_false hn1, decide_eq_false hn2]
      refine iteF ⟨_, rfl, a, _, 0, .str (Str.ofString "neg"), rfl, rfl, SqT.of e1, atI_nat (j := 0) rfl, rfl, _, rfl, ite2 (fun _ => ?_) (fun c => absurd (decide_eq_true rfl) c)⟩
      rw [szD_neg hn1 hn2] at q2
      exact ⟨_, rfl, _, rfl, a, _, 1, .int i, rfl, rfl, SqT.of e1, atI_nat (j := 1) rfl, L, _, i, .int (fnd ns i), rfl, rfl, SqL.of eL1, fnd_at i0 (by omega), q2⟩
    · obtain ⟨a, xs, rfl, e, ha⟩ := hd.tupE
      cases ha with
      | @cons y1 _ _ _ h1 hr1 =>
      obtain ⟨y2, y3, rfl, h2, h3⟩ := dq_two hr1
      obtain ⟨_, z1, rfl⟩ := isSt_of h1 rfl
      cases z1
      cases h2.intE
      cases h3.intE
      refine ⟨_, rfl, a, _, 0, .str x, rfl, rfl, SqT.of e, atI_nat (j := 0) rfl, sz1 rfl, fun p np => ?_⟩
      have s1 := same_upd (o := .tup [.str (Str.ofString "in"), .str (Str.ofString "set")]) np
      have e1 := s1 _ _ e
      have eL1 := s1 _ _ eL
      have q2 := q _ s1
      refine ⟨p, _, rfl, .inr (SqT.of upd_same), rfl, rfl, _, rfl, ?_⟩
      rw [if_neg Bool.false_ne_true, inV2]
      obtain ⟨n1, n2, n3⟩ := two_not hx
      rw [decide_eq_false n1, decide_eq_false n2]
      refine iteF ⟨_, rfl, a, _, 0, .str x, rfl, rfl, SqT.of e1, atI_nat (j := 0) rfl, rfl, _, rfl, ite2 (fun c => absurd (V.str.inj (of_decide_eq_true c)) n3) (fun _ => ?_)⟩
      refine ⟨_, rfl, a, _, 0, .str x, rfl, rfl, SqT.of e1, atI_nat (j := 0) rfl, rfl, _, rfl, ite2 (fun c => ?_) (fun c => ?_)⟩
      · rw [show szD ns (.tuple [.str x, .int i, .int j]) = fnd ns i + fnd ns j from if_pos (V.str.inj (of_decide_eq_true c))] at q2
        exact ⟨_, rfl, _, rfl, a, _, 1, .int i, rfl, rfl, SqT.of e1, atI_nat (j := 1) rfl, L, _, i, .int (fnd ns i), rfl, rfl, SqL.of eL1, fnd_at i0 (by omega), _, rfl, _, rfl, a, _, 2, .int j, rfl, rfl, SqT.of e1, atI_nat (j := 2) rfl, L, _, j, .int (fnd ns j), rfl, rfl, SqL.of eL1, fnd_at j0 (by omega), _, _, rfl, rfl, q2⟩
      · rw [show szD ns (.tuple [.str x, .int i, .int j]) = (if fnd ns j > fnd ns i then fnd ns j else fnd ns i) from if_neg (fun z => c (decide_eq_true (by rw [z])))] at q2
        exact ⟨_, rfl, _, rfl, a, _, 1, .int i, rfl, rfl, SqT.of e1, atI_nat (j := 1) rfl, L, _, i, .int (fnd ns i), rfl, rfl, SqL.of eL1, fnd_at i0 (by omega), .inl ⟨_, rfl, _, rfl, _, rfl, a, _, 2, .int j, rfl, rfl, SqT.of e1, atI_nat (j := 2) rfl, L, _, j, .int (fnd ns j), rfl, rfl, SqL.of eL1, fnd_at j0 (by omega), .inl ⟨_, rfl, _, _, rfl, q2⟩⟩⟩
end
end Jg
namespace Jg
open PySem PySem.Spec PyProof.Rows L2
/-! ### the program's sizes of steps -/
def partsD : PyData → List Int
  | .tuple [.str x, .int i] => if x = Str.ofString "in" ∨ x = Str.ofString "set" then [] else [i]
  | .tuple [.str _, .int i, .int j] => [i, j]
  | _ => []
theorem partsD_neg {x : Str} {i : Int} (h1 : ¬ x = Str.ofString "in") (h2 : ¬ x = Str.ofString "set") : partsD (.tuple [.str x, .int i]) = [i] := if_neg (fun z : (x = Str.ofString "in" ∨ x = Str.ofString "set") => Or.elim z h1 h2)
theorem partsD_one {x : Str} {i : Int} (h : x = Str.ofString "in" ∨ x = Str.ofString "set") : partsD (.tuple [.str x, .int i]) = [] := if_pos h
abbrev sParts : Stmt := topS 18
abbrev sCome : Stmt := topS 19
abbrev sLeafS : Stmt := topS 20
abbrev sJoinS : Stmt := topS 21
abbrev nCome : List Str := ["step", "reached", "leaf", "joined", "parts", "part"]
theorem scParts : FnScope ["step"] ["step"] (defScope sParts) := ⟨rfl, rfl, rfl, by decide +kernel, rfl, by decide +kernel, by decide +kernel⟩
theorem scCome : FnScope nCome ["step", "reached", "leaf", "joined"] (defScope sCome) := ⟨rfl, rfl, rfl, by decide +kernel, rfl, by decide +kernel, by decide +kernel⟩
theorem scLeafS : FnScope ["word", "number"] ["word", "number"] (defScope sLeafS) := ⟨rfl, rfl, rfl, by decide +kernel, rfl, by decide +kernel, by decide +kernel⟩
theorem scJoinS : FnScope ["word", "parts"] ["word", "parts"] (defScope sJoinS) := ⟨rfl, rfl, rfl, by decide +kernel, rfl, by decide +kernel, by decide +kernel⟩
theorem boot_sum' : bootBuiltins "sum" = some (.builtin "sum") := by decide +kernel
section
variable {P : Program} {w : World} {K : PySem.W.Frag} {mg : Str → Option Value} {base : Heap}
def spLeafS : Sp := fun vs H Q _ => (∃ v1 v2, vs = [v1, v2]) ∧ Q (.int 1) H
theorem ok_leafS {f : Addr} {fd : FuncData} (F : Fun K "_leaf_size" "_leaf_size" sLeafS f fd) : FnOk P w K mg base CX0 1 f fd ["word", "number"] spLeafS := by
  refine F.ok scLeafS (fun vs H Q E h => ?_) (fun cdv A outer s H vs Q E hr h => ?_)
  · obtain ⟨⟨v1, v2, rfl⟩, _⟩ := h
    rfl
  · obtain ⟨⟨v1, v2, rfl⟩, q⟩ := h
    exact ⟨_, pss_one (ps_ret pe_int), q⟩
def spJoinS : Sp := fun vs H Q _ => ∃ (x : Str) (p : Addr) (ms : List Int), vs = [.str x, .ref p] ∧ H p = some (.lst (ms.map V.int)) ∧ 0 < ms.length ∧ (x = Str.ofString "*" → Q (.int ms.sum) H) ∧ (¬ x = Str.ofString "*" → ∀ m, m ∈ ms → (∀ y, y ∈ ms → y ≤ m) → Q (.int m) H)
theorem ok_joinS {f : Addr} {fd : FuncData} (F : Fun K "_joined_size" "_joined_size" sJoinS f fd) (T : Bn mg) : FnOk P w K mg base CX0 1 f fd ["word", "parts"] spJoinS := by
  refine F.ok scJoinS (fun vs H Q E h => ?_) (fun cdv A outer s H vs Q E hr h => ?_)
  · obtain ⟨x, p, ms, rfl, _⟩ := h
    rfl
  · obtain ⟨x, p, ms, rfl, e, hl, q1, q2⟩ := h
    refine ⟨_, pss_one (ps_ret (pe_ifExp (pt_cmpR op_eq (pv 0) pe_str (nomark _)) (pe_callB (cr_sum rfl) (by rfl) T.sum boot_sum' (pa_cons (pv 1) pa_nil)) (pe_callB (cr_max rfl) (by rfl) T.max boot_max' (pa_cons (pv 1) pa_nil)))), ?_⟩
    refine ⟨_, rfl, rfl, _, rfl, ite2 (fun c => ?_) (fun c => ?_)⟩
    · exact ⟨_, rfl, p, ms, rfl, SqL.of e, q1 (V.str.inj (of_decide_eq_true c))⟩
    · exact ⟨_, rfl, p, ms, rfl, SqL.of e, hl, q2 fun z => c (decide_eq_true (by rw [z]))⟩
def spParts : Sp := fun vs H Q _ => ∃ (D B : Addr) (v : V) (d : PyData) (inp num : Int), vs = [v] ∧ Dq D B H v d ∧ stepOk inp num d = true ∧ ∀ p H', Same H H' → H' p = some (.tup ((partsD d).map V.int)) → Q (.ref p) H'
theorem ok_parts {f : Addr} {fd : FuncData} (F : Fun K "parts_of" "parts_of" sParts f fd) : FnOk P w K mg base CX0 1 f fd ["step"] spParts := by
  refine F.ok scParts (fun vs H Q E h => ?_) (fun cdv A outer s H vs Q E hr h => ?_)
  · obtain ⟨D, B, v, d, inp, num, rfl, _⟩ := h
    rfl
  · obtain ⟨D, B, v, d, inp, num, rfl, hd, ok, q⟩ := h
    refine ⟨_, pss_one (ps_ret (pe_ifExp (pt_cmpR op_in_seq (pe_ix ix_tup (pv 0) pe_int (fun _ _ => rfl)) (pe_tup (pa_cons pe_str (pa_cons pe_str pa_nil))) (by rfl)) (pe_tup pa_nil) (pe_slice sl_tupA (pv 0) (po_some pe_int) po_none))), ?_⟩
    have go : ∀ (x : Str) (a : Addr) (ys : List V) (ms : List Int), H a = some (.tup (.str x :: ys)) → v = .ref a → ys = ms.map V.int → ((x = Str.ofString "in" ∨ x = Str.ofString "set") → partsD d = []) → ((¬ x = Str.ofString "in" ∧ ¬ x = Str.ofString "set") → partsD d = ms) →
        tIf (tTest (tOp (rIn K false) (tOp (rIxT K) (tVar 0) (tC (.int 0))) (tTup (tCons (tC (.str (Str.ofString "in"))) (tCons (tC (.str (Str.ofString "set"))) tNil))))) (tTup tNil) (tSl (rSlA K) (tVar 0) (tPart (tC (.int 1))) tNoPart) (L2.start ["step"] [v]) H Q := by
      intro x a ys ms e hv hy q0 q1
      subst hv
      refine ⟨_, rfl, a, _, 0, .str x, rfl, rfl, SqT.of e, atI_nat (j := 0) rfl, sz1 rfl, fun p np => ?_⟩
      have s1 := same_upd (o := .tup [.str (Str.ofString "in"), .str (Str.ofString "set")]) np
      refine ⟨p, _, rfl, .inr (SqT.of upd_same), rfl, rfl, _, rfl, ?_⟩
      rw [if_neg Bool.false_ne_true, inV2]
      by_cases c1 : x = Str.ofString "in"
      · rw [decide_eq_true c1]
        refine iteT ⟨Nat.zero_le _, fun p2 np2 => q p2 _ (s1.trans (same_upd np2)) ?_⟩
        rw [q0 (.inl c1)]
        exact upd_same
      · by_cases c2 : x = Str.ofString "set"
        · rw [decide_eq_false c1, decide_eq_true c2]
          refine iteT ⟨Nat.zero_le _, fun p2 np2 => q p2 _ (s1.trans (same_upd np2)) ?_⟩
          rw [q0 (.inr c2)]
          exact upd_same
        · rw [decide_eq_false c1, decide_eq_false c2]
          refine iteF ⟨_, rfl, _, rfl, ?_⟩
          dsimp only [tNoPart]
          refine sl_read (s1 _ _ e) fun c H4 s4 g4 => q c H4 (s1.trans s4) ?_
          rw [q1 ⟨c1, c2⟩, ← hy]
          exact g4.trans (congrArg (fun z => some (HO.tup z)) (cutV_from _ 1))
    rcases stepOk_is ok with ⟨x, i, rfl, hx⟩ | ⟨i, rfl, i0, i1⟩ | ⟨x, i, j, rfl, hx, i0, i1, j0, j1⟩
    · obtain ⟨a, xs, rfl, e, ha⟩ := hd.tupE
      obtain ⟨y1, y2, rfl, h1, h2⟩ := dq_two ha
      obtain ⟨_, z1, rfl⟩ := isSt_of h1 rfl
      cases z1
      cases h2.intE
      exact go x a [.int i] [i] e rfl rfl (fun h => partsD_one h) (fun h => partsD_neg h.1 h.2)
    · obtain ⟨a, xs, rfl, e, ha⟩ := hd.tupE
      obtain ⟨y1, y2, rfl, h1, h2⟩ := dq_two ha
      obtain ⟨_, z1, rfl⟩ := isSt_of h1 rfl
      cases z1
      cases h2.intE
      exact go _ a [.int i] [i] e rfl rfl (fun h => partsD_one h) (fun h => partsD_neg h.1 h.2)
    · obtain ⟨a, xs, rfl, e, ha⟩ := hd.tupE
      cases ha with
      | @cons y1 _ _ _ h1 hr1 =>
      obtain ⟨y2, y3, rfl, h2, h3⟩ := dq_two hr1
      obtain ⟨_, z1, rfl⟩ := isSt_of h1 rfl
      cases z1
      cases h2.intE
      cases h3.intE
      obtain ⟨n1, n2, n3⟩ := two_not hx
      exact go x a [.int i, .int j] [i, j] e rfl rfl (fun h => (h.elim n1 n2).elim) (fun _ => rfl)
end
end Jg
namespace Jg
open PySem PySem.Spec PyProof.Rows L2
section
variable {P : Program} {w : World} {K : PySem.W.Frag} {mg : Str → Option Value} {base : Heap}
def spCome (fL fJ : Addr) : Sp := fun vs H Q _ => ∃ (D B L : Addr) (v : V) (d : PyData) (inp : Int) (ns : List Int), vs = [v, .ref L, .ref fL, .ref fJ] ∧ Dq D B H v d ∧ stepOk inp ns.length d = true ∧ H L = some (.lst (ns.map V.int)) ∧ ns.length ≤ 1000 ∧ ∀ H', Same H H' → Q (.int (szD ns d)) H'
theorem ok_come {f fP fL fJ : Addr} {fd fdP fdL fdJ : FuncData} (F : Fun K "_come_to" "_come_to" sCome f fd) (FP : Fun K "parts_of" "parts_of" sParts fP fdP) (bP : Binds K fdP ["step"] []) (gP : mg "parts_of" = some (.ref fP))
    (FL : Fun K "_leaf_size" "_leaf_size" sLeafS fL fdL) (bL : Binds K fdL ["word", "number"] []) (FJ : Fun K "_joined_size" "_joined_size" sJoinS fJ fdJ) (bJ : Binds K fdJ ["word", "parts"] []) (T : Bn mg) :
    FnOk P w K mg base CX0 2 f fd ["step", "reached", "leaf", "joined"] (spCome fL fJ) := by
  have GP : FnOk P w K mg base CX0 1 fP fdP ["step"] spParts := ok_parts FP
  have GL : FnOk P w K mg base CX0 1 fL fdL ["word", "number"] spLeafS := ok_leafS FL
  have GJ : FnOk P w K mg base CX0 1 fJ fdJ ["word", "parts"] spJoinS := ok_joinS FJ T
  refine F.ok scCome (fun vs H Q E h => ?_) (fun cdv A outer s H vs Q E hr h => ?_)
  · obtain ⟨D, B, L, v, d, inp, ns, rfl, _⟩ := h
    rfl
  · obtain ⟨D, B, L, v, d, inp, ns, rfl, hd, ok, eL, hl, q⟩ := h
    refine ⟨_, pss_cons (ps_set (i := 4) scCome.nd rfl (.inl rfl) (pe_call GP hr (by rfl) gP FP.kp bP .nil pass0 (pa_cons (pv 0) pa_nil)))
      (pss_cons (ps_if (pt_not (pt_truth (pv 4) (by intro _; rfl))) (pss_one (ps_ret (pe_callL (i := 2) GL hr rfl (.inl rfl) FL.kp bL .nil pass0 (pa_cons (pe_ix ix_tup (pv 0) pe_int (fun _ _ => rfl)) (pa_cons (pe_ix ix_tup (pv 0) pe_int (fun _ _ => rfl)) pa_nil))))) pss_nil)
      (pss_one (ps_ret (pe_callL (i := 3) GJ hr rfl (.inl rfl) FJ.kp bJ .nil pass0 (pa_cons (pe_ix ix_tup (pv 0) pe_int (fun _ _ => rfl)) (pa_cons (pe_lc (own := [("part", 5)]) (g := gName 5) (tt := tYes) (te := tOp (rIxL K) (tVar 1) (tVar 5)) rfl scCome.nd (pi_tup (pv 4)) (blkOk_by (N := nCome) (sc := defScope sCome) (by decide +kernel))
        (fun _ _ _ _ _ => pg_name (i := 5) scCome.nd rfl (.inl rfl)) (fun _ _ _ _ _ => pts_nil) (fun _ _ _ _ _ => pe_ix ix_list (pv 1) (pv 5) (fun _ _ => rfl))) pa_nil)))))), ?_⟩
    refine ⟨v, rfl, D, B, v, d, inp, ns.length, rfl, hd, ok, fun p H1 s1 e1 => ?_⟩
    have eL1 := s1 _ _ eL
    rcases stepOk_is ok with ⟨x, i, rfl, hx⟩ | ⟨i, rfl, i0, i1⟩ | ⟨x, i, j, rfl, hx, i0, i1, j0, j1⟩
    · obtain ⟨a, xs, rfl, e, ha⟩ := hd.tupE
      obtain ⟨y1, y2, rfl, h1, h2⟩ := dq_two ha
      obtain ⟨_, z1, rfl⟩ := isSt_of h1 rfl
      cases z1
      cases h2.intE
      rw [partsD_one hx] at e1
      have ea := s1 _ _ e
      refine ⟨_, rfl, _, .inr (.inl ⟨[], SqT.of e1, rfl⟩), iteT ⟨rfl, _, rfl, a, _, 0, .str x, rfl, rfl, SqT.of ea, atI_nat (j := 0) rfl, _, rfl, a, _, 1, .int i, rfl, rfl, SqT.of ea, atI_nat (j := 1) rfl, ⟨_, _, rfl⟩, ?_⟩⟩
      have q2 := q _ s1
      rw [show szD ns (.tuple [.str x, .int i]) = 1 from if_pos hx] at q2
      exact q2
    · obtain ⟨a, xs, rfl, e, ha⟩ := hd.tupE
      obtain ⟨y1, y2, rfl, h1, h2⟩ := dq_two ha
      obtain ⟨_, z1, rfl⟩ := isSt_of h1 rfl
      cases z1
      cases h2.intE
      have hn1 : ¬ Str.ofString "neg" = Str.ofString "in" := by decide +kernel
      have hn2 : ¬ Str.ofString "neg" = Str.ofString "set" := by decide +kernel
      have hn3 : ¬ Str.ofString "neg" = Str.ofString "*" := by decide +kernel
      rw [partsD_neg hn1 hn2] at e1
      rw [szD_neg hn1 hn2] at q
      have ea := s1 _ _ e
      refine ⟨_, rfl, _, .inr (.inl ⟨[i].map V.int, SqT.of e1, rfl⟩), iteF ⟨rfl, _, rfl, a, _, 0, .str (Str.ofString "neg"), rfl, rfl, SqT.of ea, atI_nat (j := 0) rfl, _, rfl, p, rfl, ⟨_, SqT.of e1⟩, fun D1 nD1 => ?_⟩⟩
      refine lc_tup (K := K) (a := p) (xs := [i].map V.int) (fun m H3 => H3 D1 = some (.lst ((([i].take m).map (fnd ns)).map V.int)) ∧ Same H1 H3) ⟨upd_same, same_upd nD1⟩ (fun m H3 _ h => SqT.of (h.2 _ _ e1)) ?_ ?_
      · rintro m y H3 hm ⟨k1, s3⟩
        rw [List.getElem?_map] at hm
        cases hq : [i][m]? with
        | none =>
          rw [hq] at hm
          cases hm
        | some z =>
          rw [hq] at hm
          cases hm
          have hz : 0 ≤ z ∧ z < (ns.length : Int) := by
            have hz1 := List.mem_of_getElem? hq
            simp only [List.mem_cons, List.not_mem_nil, or_false] at hz1
            omega
          refine ⟨rfl, tYes_if ⟨_, rfl, _, rfl, L, _, z, .int (fnd ns z), rfl, rfl, SqL.of (s3 _ _ eL1), fnd_at hz.1 hz.2, _, k1, ?_, ?_, ?_⟩⟩
          · simp only [List.length_map, List.length_take]
            exact Nat.lt_of_le_of_lt (Nat.min_le_right _ _) (smallM (by simp))
          · rw [upd_same, take_map_next hq, List.map_append]
            rfl
          · intro b o hb
            rw [upd_ne (ne_of_none hb nD1)]
            exact s3 b o hb
      · rintro H3 ⟨k1, s3⟩
        have q2 := q _ (s1.trans s3)
        refine ⟨(Str.ofString "neg"), D1, [i].map (fnd ns), rfl, k1, by simp, ?_, ?_⟩
        · exact fun z => absurd z hn3
        · intro _ m hm _
          have hm2 : m = fnd ns i := List.mem_singleton.mp hm
          rw [hm2]
          exact q2
    · obtain ⟨a, xs, rfl, e, ha⟩ := hd.tupE
      cases ha with
      | @cons y1 _ _ _ h1 hr1 =>
      obtain ⟨y2, y3, rfl, h2, h3⟩ := dq_two hr1
      obtain ⟨_, z1, rfl⟩ := isSt_of h1 rfl
      cases z1
      cases h2.intE
      cases h3.intE
      have ea := s1 _ _ e
      refine ⟨_, rfl, _, .inr (.inl ⟨[i, j].map V.int, SqT.of e1, rfl⟩), iteF ⟨rfl, _, rfl, a, _, 0, .str x, rfl, rfl, SqT.of ea, atI_nat (j := 0) rfl, _, rfl, p, rfl, ⟨_, SqT.of e1⟩, fun D1 nD1 => ?_⟩⟩
      refine lc_tup (K := K) (a := p) (xs := [i, j].map V.int) (fun m H3 => H3 D1 = some (.lst ((([i, j].take m).map (fnd ns)).map V.int)) ∧ Same H1 H3) ⟨upd_same, same_upd nD1⟩ (fun m H3 _ h => SqT.of (h.2 _ _ e1)) ?_ ?_
      · rintro m y H3 hm ⟨k1, s3⟩
        rw [List.getElem?_map] at hm
        cases hq : [i, j][m]? with
        | none =>
          rw [hq] at hm
          cases hm
        | some z =>
          rw [hq] at hm
          cases hm
          have hz : 0 ≤ z ∧ z < (ns.length : Int) := by
            have hz1 := List.mem_of_getElem? hq
            simp only [List.mem_cons, List.not_mem_nil, or_false] at hz1
            omega
          refine ⟨rfl, tYes_if ⟨_, rfl, _, rfl, L, _, z, .int (fnd ns z), rfl, rfl, SqL.of (s3 _ _ eL1), fnd_at hz.1 hz.2, _, k1, ?_, ?_, ?_⟩⟩
          · simp only [List.length_map, List.length_take]
            exact Nat.lt_of_le_of_lt (Nat.min_le_right _ _) (smallM (by simp))
          · rw [upd_same, take_map_next hq, List.map_append]
            rfl
          · intro b o hb
            rw [upd_ne (ne_of_none hb nD1)]
            exact s3 b o hb
      · rintro H3 ⟨k1, s3⟩
        have q2 := q _ (s1.trans s3)
        refine ⟨x, D1, [i, j].map (fnd ns), rfl, k1, by simp, ?_, ?_⟩
        · intro z
          rw [show szD ns (.tuple [.str x, .int i, .int j]) = fnd ns i + fnd ns j from if_pos z] at q2
          rw [show ([i, j].map (fnd ns)).sum = fnd ns i + fnd ns j by simp]
          exact q2
        · intro z m hm hy
          rw [show szD ns (.tuple [.str x, .int i, .int j]) = (if fnd ns j > fnd ns i then fnd ns j else fnd ns i) from if_neg z] at q2
          have y1 := hy (fnd ns i) (by simp)
          have y2 := hy (fnd ns j) (by simp)
          have hm2 : m = fnd ns i ∨ m = fnd ns j := by simpa using hm
          have hm3 : (if fnd ns j > fnd ns i then fnd ns j else fnd ns i) = m := by
            split <;> omega
          rw [hm3] at q2
          exact q2
end
end Jg
namespace Jg
open PySem PySem.Spec PyProof.Rows L2
open Sem (wp)
/-! ### enumerate of a tuple -/
def enumObj (i : Addr) : Obj := { cls := .type "enumerate", data := .fields #[.none, .bool false, .ref i, rawInt 0, .none, .none] }
set_option maxHeartbeats 1000000 in
theorem enumBorn {v : Value} {ob : Obj} {Z : Heap → Prop} (bg : Begins v ob Z) :
    Meets (Builtin.«enumerate.__new__» ⟨[.type "enumerate", v], []⟩) (fun _ R z => Z z.heap ∧
      R (.ok (.ret (.ref (z.heap.push ob).objs.size))) { z with heap := (z.heap.push ob).push (enumObj z.heap.objs.size) }) :=
  .of_wp fun prog w A R z hz => by
    obtain ⟨hp, g, d, tk, os⟩ := z
    obtain ⟨hz1, hz2⟩ := hz
    have hsub := sub_enumerate
    have goB : ∀ {A' : Around} {E : Value → Shared → Prop} {Q : Value → Shared → Prop}, Q (.ref hp.objs.size) ⟨hp.push ob, g, d, tk, os⟩ → wpAny (model prog w) A' (pyIter v) Q E ⟨hp, g, d, tk, os⟩ := fun q => bg.iter prog w _ _ ⟨hp, g, d, tk, os⟩ _ hz1 q
    wp_walk using goB
    refine wpAny_stack_any fun st => wpAny_pure ?_
    split
    · rename_i c _ _ _ _ _
      cases (c == Value.type "enumerate") <;> (wp_walk using goB) <;> exact ⟨_, rfl, hz2⟩
    · wp_walk using goB
      exact ⟨_, rfl, hz2⟩
theorem enumMade {prog : Program} {w : World} {A : Around} {E : Value → Shared → Prop} {z : Shared} {v : Value} {ob : Obj} {Z : Heap → Prop} {Q : Value → Shared → Prop} (bg : Begins v ob Z) (hz : Z z.heap)
    (h : ∀ h', IsEnum h' (z.heap.objs.size + 1) z.heap.objs.size 0 .none → h'.get? z.heap.objs.size = some ob → (∀ b o, z.heap.get? b = some o → h'.get? b = some o) → Q (.ref (z.heap.objs.size + 1)) { z with heap := h' }) :
    wpAny (model prog w) A (call (.type "enumerate") [v]) Q E z := by
  refine callType_new F.called_enumerate (by decide) (F.typeCall_enumerate_1 _) (F.newCall_enumerate_1 _) (fun obj => F.args_object_init_2 obj _) F.entry_enumerate_new (enumBorn bg) ⟨hz, ?_⟩
  have sz1 : (z.heap.push ob).objs.size = z.heap.objs.size + 1 := Heap.size_push ..
  have born : IsEnum ((z.heap.push ob).push (enumObj z.heap.objs.size)) (z.heap.objs.size + 1) z.heap.objs.size 0 .none := sz1 ▸ Heap.get?_push_size (z.heap.push ob) (o := enumObj z.heap.objs.size) rfl
  show _ ∧ _
  rw [sz1]
  exact ⟨⟨_, born, rfl⟩, h _ born (Heap.get?_push_of_some _ (Heap.get?_push_size _ bg.free)) fun b o x => Heap.get?_push_of_some _ (Heap.get?_push_of_some _ x)⟩
/-- the tuple at a, each item in a new pair with its number -/
def IteT (K : PySem.W.Frag) (a : Addr) : It where
  go := fun i H => ∃ (xs : List V) (x : V), SqT K H a xs ∧ xs[i]? = some x
  yld := fun i H v H' => ∃ T x, v = .ref T ∧ H T = none ∧ H' = upd H T (.tup [.int (i : Nat), x]) ∧ ∀ xs, SqT K H a xs → xs[i]? = some x
  stop := fun i H => ∃ xs : List V, SqT K H a xs ∧ xs.length ≤ i
theorem turn_enumT {P : Program} {w : World} {K : PySem.W.Frag} {elts : List Expr} {kk : Nat} {tpos : Pos} (a e it : Addr) :
    Turn P w K (.Tuple elts kk tpos) (IteT K a) [e, it] e (fun i h => (∃ old, IsEnum h e it ((i : Nat) : Int) old) ∧ h.IsTupleIter it a i ∧ e ≠ it) where
  mem := List.mem_cons_self ..
  obj := fun i h ⟨⟨old, he⟩, ⟨o, ho, _, hd⟩, _⟩ b hb => by
    rcases List.mem_cons.mp hb with z | z
    · subst z
      exact ⟨_, he, fun v q => nomatch q⟩
    · exact ⟨o, List.mem_singleton.mp z ▸ ho, fun v q => by rw [hd] at q; cases q⟩
  keep := fun i h h' ⟨⟨old, he⟩, hi, hne⟩ k => ⟨⟨old, k e (by simp) _ he⟩, hi.at fun o q => k it (by simp) o q, hne⟩
  item := by
    intro X hP hw hK hc i pins s σ H E I hf st hg
    subst hP hw hK
    obtain ⟨⟨old, he⟩, hit, hne⟩ := st
    obtain ⟨xs, x, hq, hx⟩ := hg
    obtain ⟨its, rv, p, hz⟩ := I.tuple hq
    have pT : s.heap.IsTuple a its.toArray := p
    have e_a : e ≠ a := fun z => by
      obtain ⟨o, ho, hcl, _⟩ := pT
      rw [← z, he] at ho
      cases ho
      exact absurd (Value.type.inj hcl) (by decide)
    have it_a : a ≠ it := fun z => by
      obtain ⟨o, ho, hcl, _⟩ := pT
      obtain ⟨o2, ho2, hcl2, _⟩ := hit
      rw [z, ho2] at ho
      cases ho
      rw [hcl] at hcl2
      exact absurd (Value.type.inj hcl2) (by decide)
    obtain ⟨u, hu, ru⟩ := rv.get hx
    have hel : e < s.heap.objs.size := Heap.lt_size he
    have hil : it < s.heap.objs.size := by
      obtain ⟨_, q, _⟩ := hit
      exact Heap.lt_size q
    have hlt : i < its.toArray.size := by
      obtain ⟨hh, _⟩ := List.getElem?_eq_some_iff.mp hu
      simpa using hh
    refine wpAny_pyNext_enum_itemD (Draws.tuple (A := X.A.in1) (I.ok.hd hc) it a it_a its.toArray) he ⟨hit, pT⟩ hlt hne (by simp [hne, e_a]) fun x' h1 tk hx' ho hs' hT hsz hk => ?_
    have hxu : x' = u := by
      have q1 : its.toArray[i]? = some x' := hx'
      have q2 : its.toArray[i]? = some u := by simpa using hu
      exact Option.some.inj (q1.symm.trans q2)
    subst hxu
    refine ⟨_, rfl, wpAny_letOwnedTupleGo_enum (s := { s with heap := h1, toks := tk + 1 }) ho fun h2 he2 sb => ?_⟩
    have hT2 : h2.get? s.heap.objs.size = some { cls := .type "tuple", data := .seq #[.int i tk, x'] } := (sb.2 _ (Nat.ne_of_gt hel)).trans hT
    have fresh : ObjOk X.prog X.w (upd H s.heap.objs.size (.tup [.int (i : Nat), x])) h2 s.heap.objs.size (.tup [.int (i : Nat), x]) := ⟨by show 2 ≤ sizeLine; decide, [.int i tk, x'], .cons ⟨_, rfl⟩ (.cons ru .nil), ⟨_, hT2, rfl, _, rfl⟩⟩
    have I1 : Inv X pins σ (upd H s.heap.objs.size (.tup [.int (i : Nat), x])) { s with heap := h2, toks := tk + 1 } := I.turnedNew (ch := [e, it]) (fun b ob hb q => (sb.2 b (fun z => hb (by simp [z]))).trans (hk b ob (fun z => hb (by simp [z])) (fun z => hb (by simp [z])) q)) hf (Nat.le_refl _) fresh
    have e1 : ((i + 1 : Nat) : Int) = (i : Int) + 1 := by omega
    refine ⟨.ref s.heap.objs.size, _, I1, rfl, ⟨_, x, rfl, I.hok.fresh (Nat.le_refl _), rfl, fun ys hy => I.tuple_inj hy hq ▸ hx⟩, ⟨⟨x', e1 ▸ he2⟩, hs'.1.at fun o q => (sb.2 it (Ne.symm hne)).trans q, hne⟩, fun b hb => ?_⟩
    have hb2 : b < s.heap.objs.size := by
      rcases List.mem_cons.mp hb with z | z
      · exact z ▸ hel
      · exact List.mem_singleton.mp z ▸ hil
    rw [upd_ne (Nat.ne_of_lt hb2)]
    exact (hf b hb).1
  done := by
    intro X hP hw hK hc i pins s σ H E I hf st hg
    subst hP hw hK
    obtain ⟨⟨old, he⟩, hit, hne⟩ := st
    obtain ⟨xs, hq, hx⟩ := hg
    obtain ⟨its, rv, p, hz⟩ := I.tuple hq
    have pT : s.heap.IsTuple a its.toArray := p
    obtain ⟨f0, f1, f2, f3, f4, f5⟩ := hf it (by simp)
    have hl := rv.length
    have hT : s.TypeIs (.ref e) "enumerate" := ⟨_, he, rfl⟩
    unfold pyNext
    refine wpAny_bind (wpAny_attempt (wpAny_callSpecial?_slot (name := Str.ofString "__next__") hT F.slot_enumerate_next (wpAny_call_entry F.slot_enumerate_next hT F.entry_enumerate_next ?_ (F.args_enumerate_next_1 _))))
    show wpAny _ _ (field (.ref e) 2 >>= _) _ _ _
    refine wpAny_bind (wpAny_field he rfl (x := .ref it) rfl (wpAny_bind (wpAny_nextOf_tuple_end (I.ok.hd hc) hit pT (by simp; omega) fun h2 y he2 ⟨o, ho, hcl⟩ => ?_)))
    refine wpAny_bind (wpAny_isInstance (T := "StopIteration") (b := true) ⟨o, ho, hcl⟩ isSubtype_stop (wpAny_pure ⟨rfl, ?_⟩))
    exact I.turned (t' := s.toks) (fun b ob hb q => he2 b ob hb q) f0 f1 f3 f4 f5
  self := fun A i s Q E ⟨⟨_, he⟩, _⟩ h => wpAny_pyIter_enum he h
def iEnumT (K : PySem.W.Frag) (ta : TA) : TI := fun σ H R => ta σ H fun vs H1 => ∃ a xs, vs = [.ref a] ∧ SqT K H1 a xs ∧ R (IteT K a) H1
theorem pi_enumT {X : Cx} {e : Expr} {ta : TA} {p pos tpos : Pos} {elts : List Expr} {kk : Nat} (gl : Gl X "enumerate") (no : X.mg "enumerate" = none) (pa : PA X [e] ta) (hs : starEach [e] X.env = [(false, eval e X.env)] := by rfl) :
    PI X (.Tuple elts kk tpos) (.Call (.Name "enumerate" p) [e] [] pos) (iEnumT X.K ta) := by
  refine ⟨fun pins s σ H R I h => Call_ (ld_blt I gl no boot_enumerate (PyProof.Rows.callWith_type1 (thn (pa.run pos pins s σ H _ I h) fun us s1 ⟨vs, H1, I1, r1, a, xs, ex, hq, q⟩ => ?_) hs rfl))⟩
  subst ex
  cases r1 with
  | cons r rr =>
    cases rr
    cases r
    obtain ⟨its, rv, pp, hz⟩ := I1.tuple hq
    have pT : s1.heap.IsTuple a its.toArray := pp
    refine enumMade (begins_tuple a its.toArray) pT fun h1 he hi hk => wpAny_pyIter_enum he ?_
    have I2 : Inv X pins σ H1 { s1 with heap := h1 } := I1.kept (t' := s1.toks) hk
    refine ⟨s1.heap.objs.size + 1, [s1.heap.objs.size + 1, s1.heap.objs.size], _, _, H1, rfl, I2, turn_enumT a (s1.heap.objs.size + 1) s1.heap.objs.size, ⟨⟨.none, he⟩, ⟨_, hi, rfl, rfl⟩, Nat.succ_ne_self _⟩, fun b hb => ?_, q⟩
    have hle : s1.heap.objs.size ≤ b := by
      rcases List.mem_cons.mp hb with z | z
      · exact z ▸ Nat.le_add_right _ _
      · exact List.mem_singleton.mp z ▸ Nat.le_refl _
    exact I1.fpOk hle (I1.hok.fresh hle)
end Jg
namespace Jg
open PySem PySem.Spec PyProof.Rows L2
/-! ### what is wrong first with a row -/
def wr (x : Str) : PyData := .tuple [.none, .str x]
def errGo (inp : Int) : List PyData → List Int → PyData
  | [], _ => .none
  | d :: ds, ns => if stepOk inp ns.length d = true then (if szD ns d > 64 then .tuple [.int ns.length, .str (Str.ofString "size")] else errGo inp ds (ns ++ [szD ns d])) else .tuple [.int ns.length, .str (Str.ofString "step")]
def endsErr (n me : Int) : PyData → PyData
  | .tuple es => if 1 ≤ (es.length : Int) ∧ (es.length : Int) ≤ me then (if es.all (within 0 (n - 1)) = true then .none else wr (Str.ofString "ends")) else wr (Str.ofString "ends")
  | _ => wr (Str.ofString "ends")
def orD : PyData → PyData → PyData
  | .none, e => e
  | d, _ => d
def stepsErr (inp ms me : Int) (c : PyData) : PyData → PyData
  | .tuple ds => if 1 ≤ (ds.length : Int) ∧ (ds.length : Int) ≤ ms then orD (errGo inp ds []) (endsErr ds.length me c) else wr (Str.ofString "steps")
  | _ => wr (Str.ofString "steps")
def intOf : PyData → Int
  | .int i => i | _ => 0
def rowErr (mi ms me : Int) : PyData → PyData
  | .tuple [a, b, c] => if within 0 mi a = true then stepsErr (intOf a) ms me c b else wr (Str.ofString "inputs")
  | _ => wr (Str.ofString "row")
section
variable {mi ms me inp : Int} {a b c d : PyData} {ds : List PyData}
theorem rowErr_tu (h : isTu d = false) : rowErr mi ms me d = wr (Str.ofString "row") := by
  cases d <;> first | rfl | cases h
theorem rowErr_len (h : ¬ ds.length = 3) : rowErr mi ms me (.tuple ds) = wr (Str.ofString "row") := by
  match ds, h with
  | [], _ => rfl
  | [_], _ => rfl
  | [_, _], _ => rfl
  | [_, _, _], h => exact absurd rfl h
  | _ :: _ :: _ :: _ :: _, _ => rfl
theorem rowErr_in (h : within 0 mi a = false) : rowErr mi ms me (.tuple [a, b, c]) = wr (Str.ofString "inputs") := if_neg (by rw [h]; exact Bool.false_ne_true)
theorem rowErr_go {i : Int} (h : within 0 mi (.int i) = true) : rowErr mi ms me (.tuple [.int i, b, c]) = stepsErr i ms me c b := if_pos h
theorem stepsErr_tu (h : isTu b = false) : stepsErr inp ms me c b = wr (Str.ofString "steps") := by
  cases b <;> first | rfl | cases h
theorem stepsErr_len (h : ¬ (1 ≤ (ds.length : Int) ∧ (ds.length : Int) ≤ ms)) : stepsErr inp ms me c (.tuple ds) = wr (Str.ofString "steps") := if_neg h
theorem stepsErr_go (h : 1 ≤ (ds.length : Int) ∧ (ds.length : Int) ≤ ms) : stepsErr inp ms me c (.tuple ds) = orD (errGo inp ds []) (endsErr ds.length me c) := if_pos h
theorem endsErr_tu {n : Int} (h : isTu c = false) : endsErr n me c = wr (Str.ofString "ends") := by
  cases c <;> first | rfl | cases h
theorem endsErr_len {n : Int} (h : ¬ (1 ≤ (ds.length : Int) ∧ (ds.length : Int) ≤ me)) : endsErr n me (.tuple ds) = wr (Str.ofString "ends") := if_neg h
theorem endsErr_go {n : Int} (h : 1 ≤ (ds.length : Int) ∧ (ds.length : Int) ≤ me) : endsErr n me (.tuple ds) = if ds.all (within 0 (n - 1)) = true then .none else wr (Str.ofString "ends") := if_pos h
theorem errGo_at {i : Nat} {dx : PyData} {ns : List Int} (h : ds[i]? = some dx) : errGo inp (ds.drop i) ns = if stepOk inp ns.length dx = true then (if szD ns dx > 64 then .tuple [.int ns.length, .str (Str.ofString "size")] else errGo inp (ds.drop (i + 1)) (ns ++ [szD ns dx])) else .tuple [.int ns.length, .str (Str.ofString "step")] := by
  obtain ⟨hl, e⟩ := List.getElem?_eq_some_iff.mp h
  rw [List.drop_eq_getElem_cons hl, e]
  rfl
end
theorem dq_three {D B : Addr} {H : Hp} {xs : List V} {d e f : PyData} (h : DqAll D B H xs [d, e, f]) : ∃ x y z, xs = [x, y, z] ∧ Dq D B H x d ∧ Dq D B H y e ∧ Dq D B H z f := by
  cases h with
  | cons a h =>
    obtain ⟨y, z, rfl, h1, h2⟩ := dq_two h
    exact ⟨_, _, _, rfl, a, h1, h2⟩
theorem three_of {ds : List PyData} (h : ds.length = 3) : ∃ a b c, ds = [a, b, c] := by
  match ds, h with
  | [a, b, c], _ => exact ⟨a, b, c, rfl⟩
theorem dq_wr {D B p : Addr} {H : Hp} {x : Str} (e : H p = some (.tup [.non, .str x])) : Dq D B H (.ref p) (wr x) := .tup e (.cons .non (.cons (.str _) .nil))
theorem dq_nr {D B p : Addr} {H : Hp} {i : Int} {x : Str} (e : H p = some (.tup [.int i, .str x])) : Dq D B H (.ref p) (.tuple [.int i, .str x]) := .tup e (.cons (.int _) (.cons (.str _) .nil))
theorem ix_tupK {X : Cx} {K : PySem.W.Frag} (h : X.K = K) : IxR X (rIxT K) := h ▸ ix_tup
def rLenQ (K : PySem.W.Frag) : List V → Hp → VK → Prop := fun zs H Q => ∃ p ys, zs = [.ref p] ∧ (SqL K H p ys ∨ SqT K H p ys) ∧ Q (.int ys.length) H
theorem call_lenK {X : Cx} {K : PySem.W.Frag} (h : X.K = K) : CallR X (.builtin "len") (rLenQ K) := h ▸ call_len_seq
abbrev sRowE : Stmt := topS 32
abbrev nRowE : List Str := ["_law_value", "_law_inputs", "_law_steps", "_law_ends", "_law_found", "_law_number", "_law_end"]
theorem scRowE : FnScope nRowE ["_law_value", "_law_inputs", "_law_steps", "_law_ends"] (defScope sRowE) := ⟨rfl, rfl, rfl, by decide +kernel, rfl, by decide +kernel, by decide +kernel⟩
section
variable {P : Program} {w : World} {K : PySem.W.Frag} {mg : Str → Option Value} {base : Heap}
def spRowE : Sp := fun vs H Q _ => ∃ (D B : Addr) (v : V) (d : PyData) (mi ms me : Int), vs = [v, .int mi, .int ms, .int me] ∧ Dq D B H v d ∧ ms ≤ 1000 ∧ me ≤ 1000 ∧ ∀ u H', Same H H' → Dq D B H' u (rowErr mi ms me d) → Q u H'
set_option maxHeartbeats 4000000 in
theorem ok_lrowE {f fS fW fZ : Addr} {fd fdS fdW fdZ : FuncData} (F : Fun K "_law_row_error" "_law_row_error" sRowE f fd) (FS : Fun K "_law_is_step" "_law_is_step" sStep fS fdS) (bS : Binds K fdS ["_law_value", "_law_inputs", "_law_number"] []) (gS : mg "_law_is_step" = some (.ref fS))
    (FW : Fun K "_law_whole" "_law_whole" sWhole fW fdW) (bW : Binds K fdW ["_law_value", "_law_least", "_law_most"] []) (gW : mg "_law_whole" = some (.ref fW)) (FZ : Fun K "_law_size" "_law_size" sSize fZ fdZ) (bZ : Binds K fdZ ["_law_step", "_law_found"] []) (gZ : mg "_law_size" = some (.ref fZ)) (T : Bn mg) :
    FnOk P w K mg base CX0 3 f fd ["_law_value", "_law_inputs", "_law_steps", "_law_ends"] spRowE := by
  have GS : FnOk P w K mg base CX0 2 fS fdS ["_law_value", "_law_inputs", "_law_number"] spStep := ok_lstep FS FW bW gW T
  have GW : FnOk P w K mg base CX0 1 fW fdW ["_law_value", "_law_least", "_law_most"] spWith := ok_whole FW T
  have GZ : FnOk P w K mg base CX0 1 fZ fdZ ["_law_step", "_law_found"] spSize := ok_lsize FZ T
  refine F.ok scRowE (fun vs H Q E h => ?_) (fun cdv A outer s H vs Q E hr h => ?_)
  · obtain ⟨D, B, v, d, mi, ms, me, rfl, _⟩ := h
    rfl
  · obtain ⟨D, B, v, d, mi, ms, me, rfl, hd, hms, hme, q⟩ := h
    have hu := hr.units
    have hr1 : Room 1 _ := hr.mono (by decide)
    refine ⟨_, pss_cons (ps_if (PW.pt (pw_or (pt_not (pt_val (pe_callB call_isi (by rfl) T.isi PyProof.Rows.boot_isinstance (pa_cons (pv 0) (pa_cons (pe_bltn (by rfl) T.tup boot_tuple' (v := .ty "tuple") rfl) pa_nil)))))
        (pw_or1 (pt_cmpR op_ne (pe_callB call_len_seq (by rfl) T.len PySem.boot_len (pa_cons (pv 0) pa_nil)) pe_int (nomark _))))) (pss_one (ps_ret (pe_tup (pa_cons pe_non (pa_cons pe_str pa_nil))))) pss_nil)
      (pss_cons (ps_if (pt_not (pt_val (pe_call GW hr1 (by rfl) gW FW.kp bW .nil pass0 (pa_cons (pe_ix ix_tup (pv 0) pe_int (fun _ _ => rfl)) (pa_cons pe_int (pa_cons (pv 1) pa_nil)))))) (pss_one (ps_ret (pe_tup (pa_cons pe_non (pa_cons pe_str pa_nil))))) pss_nil)
      (pss_cons (ps_if (PW.pt (pw_or (pt_not (pt_val (pe_callB call_isi (by rfl) T.isi PyProof.Rows.boot_isinstance (pa_cons (pe_ix ix_tup (pv 0) pe_int (fun _ _ => rfl)) (pa_cons (pe_bltn (by rfl) T.tup boot_tuple' (v := .ty "tuple") rfl) pa_nil)))))
        (pw_or1 (pt_not (pt_chain op_le op_le pe_int (pe_callB call_len_seq (by rfl) T.len PySem.boot_len (pa_cons (pe_ix ix_tup (pv 0) pe_int (fun _ _ => rfl)) pa_nil)) (pv 2)))))) (pss_one (ps_ret (pe_tup (pa_cons pe_non (pa_cons pe_str pa_nil))))) pss_nil)
      (pss_cons (ps_set (i := 4) scRowE.nd rfl (.inl rfl) (pe_lst pa_nil))
      (pss_cons (ps_for PassesOwn.never rfl (pi_range1 rfl T.rng (pa_cons (pe_callB call_len_seq (by rfl) T.len PySem.boot_len (pa_cons (pe_ix ix_tup (pv 0) pe_int (fun _ _ => rfl)) pa_nil)) pa_nil)) (pg_name (i := 5) scRowE.nd rfl (.inl rfl))
        (pss_cons (ps_if (pt_not (pt_val (pe_call GS (hr.mono (by decide)) (by rfl) gS FS.kp bS .nil pass0 (pa_cons (pe_ix ix_tup (pe_ix ix_tup (pv 0) pe_int (fun _ _ => rfl)) (pv 5) (fun _ _ => rfl)) (pa_cons (pe_ix ix_tup (pv 0) pe_int (fun _ _ => rfl)) (pa_cons (pv 5) pa_nil)))))) (pss_one (ps_ret (pe_tup (pa_cons (pv 5) (pa_cons pe_str pa_nil))))) pss_nil)
        (pss_cons (ps_expr (pe_bm PySem.F.plainAttrs_list PySem.F.slot_list_append PySem.F.type_list_append mt_append (pv 4) (pa_cons (pe_call GZ hr1 (by rfl) gZ FZ.kp bZ .nil pass0 (pa_cons (pe_ix ix_tup (pe_ix ix_tup (pv 0) pe_int (fun _ _ => rfl)) (pv 5) (fun _ _ => rfl)) (pa_cons (pv 4) pa_nil))) pa_nil)))
        (pss_one (ps_if (pt_cmpR op_gt (pe_ix ix_list (pv 4) (pe_un un_neg pe_int) (fun _ _ => rfl)) pe_int (nomark _)) (pss_one (ps_ret (pe_tup (pa_cons (pv 5) (pa_cons pe_str pa_nil))))) pss_nil)))))
      (pss_cons (ps_if (PW.pt (pw_or (pt_not (pt_val (pe_callB call_isi (by rfl) T.isi PyProof.Rows.boot_isinstance (pa_cons (pe_ix ix_tup (pv 0) pe_int (fun _ _ => rfl)) (pa_cons (pe_bltn (by rfl) T.tup boot_tuple' (v := .ty "tuple") rfl) pa_nil)))))
        (pw_or1 (pt_not (pt_chain op_le op_le pe_int (pe_callB call_len_seq (by rfl) T.len PySem.boot_len (pa_cons (pe_ix ix_tup (pv 0) pe_int (fun _ _ => rfl)) pa_nil)) (pv 3)))))) (pss_one (ps_ret (pe_tup (pa_cons pe_non (pa_cons pe_str pa_nil))))) pss_nil)
      (pss_one (ps_ret (pe_ifExp (pt_cmpR (op_neD hu) (pe_lc (own := [("_law_end", 6)]) (g := gName 6) rfl scRowE.nd (pi_tup (pe_ix ix_tup (pv 0) pe_int (fun _ _ => rfl))) (blkOk_by (N := nRowE) (sc := defScope sRowE) (by decide +kernel))
          (fun _ _ _ _ _ => pg_name (i := 6) scRowE.nd rfl (.inl rfl)) (fun _ _ _ _ _ => pts_one (pt_not (pt_val (pe_call GW hr1 (by rfl) gW FW.kp bW .nil pass0 (pa_cons (pv 6) (pa_cons pe_int (pa_cons (pe_op op_sub (pe_callB (call_lenK (K := K) rfl) (by rfl) T.len PySem.boot_len (pa_cons (pe_ix (ix_tupK (K := K) rfl) (pv 0) pe_int (fun _ _ => rfl)) pa_nil)) pe_int) pa_nil))))))) (fun _ _ _ _ _ => pe_int)) (pe_lst pa_nil) (nomark _))
        (pe_tup (pa_cons pe_non (pa_cons pe_str pa_nil))) pe_non)))))))), ?_⟩
    refine ⟨v, rfl, v, .ty "tuple", _, _, _, rfl, .ty "tuple", hd.ty, kTup d, _, rfl, ?_⟩
    cases hb : isTu d with
    | false =>
      rw [rowErr_tu hb] at q
      exact iteT (iteT ⟨sz1 rfl, fun p np => q _ _ (same_upd np) (dq_wr upd_same)⟩)
    | true =>
      obtain ⟨a, xs, ds, rfl, rfl, e, ha⟩ := isTu_of hd hb
      refine iteF ⟨_, rfl, a, xs, rfl, .inr (SqT.of e), rfl, _, rfl, ?_⟩
      by_cases hl : ds.length = 3
      · have hb2 : (!decide (V.int ((xs.length : Nat) : Int) = V.int 3)) = false := by
          rw [dec_int2, ha.len, hl]
          rfl
        show (fun b H1 => _) (!decide (V.int ((xs.length : Nat) : Int) = V.int 3)) H
        rw [hb2]
        refine iteF ?_
        obtain ⟨da, db, dc, rfl⟩ := three_of hl
        obtain ⟨x1, x2, x3, rfl, h1, h2, h3⟩ := dq_three ha
        refine ⟨_, rfl, a, _, 0, x1, rfl, rfl, SqT.of e, atI_nat (j := 0) rfl, _, rfl, D, B, x1, da, 0, mi, rfl, h1, _, rfl, ?_⟩
        cases hw : within 0 mi da with
        | false =>
          rw [rowErr_in hw] at q
          exact iteT ⟨sz1 rfl, fun p np => q _ _ (same_upd np) (dq_wr upd_same)⟩
        | true =>
          obtain ⟨inp, rfl, i0, i1⟩ := within_is hw
          cases h1.intE
          rw [rowErr_go hw] at q
          refine iteF ⟨_, rfl, a, _, 1, x2, rfl, rfl, SqT.of e, atI_nat (j := 1) rfl, x2, .ty "tuple", _, _, _, rfl, .ty "tuple", h2.ty, kTup db, _, rfl, ?_⟩
          cases hb3 : isTu db with
          | false =>
            rw [stepsErr_tu hb3] at q
            exact iteT (iteT ⟨sz1 rfl, fun p np => q _ _ (same_upd np) (dq_wr upd_same)⟩)
          | true =>
            obtain ⟨a2, ys, dys, rfl, rfl, e2, ha2⟩ := isTu_of h2 hb3
            refine iteF ⟨_, rfl, a, _, 1, .ref a2, rfl, rfl, SqT.of e, atI_nat (j := 1) rfl, a2, ys, rfl, .inr (SqT.of e2), _, _, rfl, rfl, _, rfl, ?_⟩
            have hly := ha2.len
            cases k1 : decide ((1 : Int) ≤ ((ys.length : Nat) : Int)) with
            | false =>
              rw [stepsErr_len (fun z => of_decide_eq_false k1 (by rw [hly]; exact z.1))] at q
              exact iteF ⟨_, rfl, iteT ⟨sz1 rfl, fun p np => q _ _ (same_upd np) (dq_wr upd_same)⟩⟩
            | true =>
              refine iteT ⟨_, rfl, _, _, rfl, rfl, _, rfl, ?_⟩
              cases k2 : decide (((ys.length : Nat) : Int) ≤ ms) with
              | false =>
                rw [stepsErr_len (fun z => of_decide_eq_false k2 (by rw [hly]; exact z.2))] at q
                exact iteT ⟨sz1 rfl, fun p np => q _ _ (same_upd np) (dq_wr upd_same)⟩
              | true =>
                have g1 := of_decide_eq_true k1
                have g2 := of_decide_eq_true k2
                rw [stepsErr_go (by rw [← hly]; exact ⟨g1, g2⟩)] at q
                refine iteF ⟨Nat.zero_le _, fun L nL => ?_⟩
                have sL := same_upd (o := .lst []) nL
                refine ⟨_, rfl, a, _, 1, .ref a2, rfl, rfl, SqT.of (sL _ _ e), atI_nat (j := 1) rfl, a2, ys, rfl, .inr (SqT.of (sL _ _ e2)), ys.length, rfl, by omega, by omega, for_range (n := ys.length) (fun i σ H3 => ∃ (ns : List Int) (y5 y6 : Option V), σ = [some (.ref a), some (.int mi), some (.int ms), some (.int me), some (.ref L), y5, y6] ∧ ns.length = i ∧ errGo inp dys [] = errGo inp (dys.drop i) ns ∧ H3 L = some (.lst (ns.map V.int)) ∧ Same H H3)
                  ⟨[], none, none, rfl, rfl, rfl, upd_same, sL⟩ ?_ ?_⟩
                · rintro i σ H3 hi ⟨ns, y5, y6, rfl, hns, heq, eL, s3⟩
                  have z0 : (0 : Int) + ((i : Nat) : Int) = ((i : Nat) : Int) := Int.zero_add _
                  rw [z0]
                  have e3 := s3 _ _ e
                  have e23 := s3 _ _ e2
                  have hy : ys[i]? = some ys[i] := List.getElem?_eq_getElem hi
                  obtain ⟨dx, hdx, hxx⟩ := ha2.at_ i _ hy
                  have hx3 := hxx.same s3
                  rw [errGo_at hdx, hns] at heq
                  refine ⟨_, rfl, a, _, 1, .ref a2, rfl, rfl, SqT.of e3, atI_nat (j := 1) rfl, _, rfl, a2, _, _, ys[i], rfl, rfl, SqT.of e23, atI_nat hy, _, rfl, a, _, 0, .int inp, rfl, rfl, SqT.of e3, atI_nat (j := 0) rfl, _, rfl, D, B, ys[i], dx, inp, ((i : Nat) : Int), rfl, hx3, fun H4 s4 => ⟨_, rfl, ?_⟩⟩
                  have s34 := s3.trans s4
                  cases kS : stepOk inp ((i : Nat) : Int) dx with
                  | false =>
                    rw [heq, if_neg (by rw [kS]; exact Bool.false_ne_true)] at q
                    exact iteT ⟨_, rfl, sz1 rfl, fun p np => q _ _ (s34.trans (same_upd np)) (dq_nr upd_same)⟩
                  | true =>
                    rw [if_pos kS] at heq
                    have e4 := s34 _ _ e
                    have e24 := s34 _ _ e2
                    have eL4 := s4 _ _ eL
                    refine iteF ⟨_, rfl, .inl ⟨rfl, _, SqL.of eL4⟩, _, rfl, a, _, 1, .ref a2, rfl, rfl, SqT.of e4, atI_nat (j := 1) rfl, _, rfl, a2, _, _, ys[i], rfl, rfl, SqT.of e24, atI_nat hy, _, rfl, D, B, L, ys[i], dx, inp, ns, rfl, hx3.same s4, by rw [hns]; exact kS, eL4, fun H5 s5 => ⟨L, _, _, rfl, rfl, s5 _ _ eL4, ?_, ?_⟩⟩
                    · rw [List.length_map, hns]
                      exact smallM (by omega)
                    · refine ⟨_, rfl, _, rfl, L, _, -1, .int (szD ns dx), rfl, rfl, SqL.of upd_same, atI_last _ _, _, _, rfl, rfl, _, rfl, ite2 (fun c => ?_) (fun c => ?_)⟩
                      all_goals
                        have s7 : Same H (upd H5 L (.lst (ns.map V.int ++ [.int (szD ns dx)]))) := fun b o hb => by
                          rw [upd_ne (ne_of_none hb nL)]
                          exact s5 b o (s34 b o hb)
                      · rw [heq, if_pos (of_decide_eq_true c)] at q
                        exact ⟨_, rfl, sz1 rfl, fun p np => q _ _ (s7.trans (same_upd np)) (dq_nr upd_same)⟩
                      · rw [if_neg (fun z => c (decide_eq_true z))] at heq
                        refine ⟨ns ++ [szD ns dx], _, _, rfl, by rw [List.length_append, hns]; rfl, heq, ?_, s7⟩
                        rw [upd_same, List.map_append]
                        rfl
                · rintro σ H3 ⟨ns, y5, y6, rfl, hns, heq, eL, s3⟩
                  have e3 := s3 _ _ e
                  rw [List.drop_eq_nil_of_le (by omega)] at heq
                  rw [heq] at q
                  have q0 : ∀ u H', Same H H' → Dq D B H' u (endsErr dys.length me dc) → Q u H' := q
                  refine ⟨_, rfl, a, _, 2, x3, rfl, rfl, SqT.of e3, atI_nat (j := 2) rfl, x3, .ty "tuple", _, _, _, rfl, .ty "tuple", (h3.same s3).ty, kTup dc, _, rfl, ?_⟩
                  cases hb4 : isTu dc with
                  | false =>
                    rw [endsErr_tu hb4] at q0
                    exact iteT (iteT ⟨sz1 rfl, fun p np => q0 _ _ (s3.trans (same_upd np)) (dq_wr upd_same)⟩)
                  | true =>
                    obtain ⟨a3, zs, dzs, rfl, rfl, e33, ha3⟩ := isTu_of h3 hb4
                    have hlz := ha3.len
                    refine iteF ⟨_, rfl, a, _, 2, .ref a3, rfl, rfl, SqT.of e3, atI_nat (j := 2) rfl, a3, zs, rfl, .inr (SqT.of (s3 _ _ e33)), _, _, rfl, rfl, _, rfl, ?_⟩
                    cases k3 : decide ((1 : Int) ≤ ((zs.length : Nat) : Int)) with
                    | false =>
                      rw [endsErr_len (fun z => of_decide_eq_false k3 (by rw [hlz]; exact z.1))] at q0
                      exact iteF ⟨_, rfl, iteT ⟨sz1 rfl, fun p np => q0 _ _ (s3.trans (same_upd np)) (dq_wr upd_same)⟩⟩
                    | true =>
                      refine iteT ⟨_, rfl, _, _, rfl, rfl, _, rfl, ?_⟩
                      cases k4 : decide (((zs.length : Nat) : Int) ≤ me) with
                      | false =>
                        rw [endsErr_len (fun z => of_decide_eq_false k4 (by rw [hlz]; exact z.2))] at q0
                        exact iteT ⟨sz1 rfl, fun p np => q0 _ _ (s3.trans (same_upd np)) (dq_wr upd_same)⟩
                      | true =>
                        have g3 := of_decide_eq_true k3
                        have g4 := of_decide_eq_true k4
                        rw [endsErr_go (by rw [← hlz]; exact ⟨g3, g4⟩)] at q0
                        refine iteF ⟨_, rfl, a, _, 2, .ref a3, rfl, rfl, SqT.of e3, atI_nat (j := 2) rfl, a3, rfl, ⟨_, SqT.of (s3 _ _ e33)⟩, fun D1 nD1 => ?_⟩
                        refine lc_tup (K := K) (a := a3) (xs := zs) (fun i H5 => ∃ m : Nat, m ≤ i ∧ H5 D1 = some (.lst ((List.replicate m (1 : Int)).map V.int)) ∧ decide (m = 0) = (dzs.take i).all (within 0 (dys.length - 1)) ∧ Same H3 H5) ⟨0, Nat.le_refl _, upd_same, rfl, same_upd nD1⟩ (fun i H5 _ ⟨_, _, _, _, h⟩ => SqT.of (h _ _ (s3 _ _ e33))) ?_ ?_
                        · rintro i y H5 hi ⟨m, hm, k5, k6, s5⟩
                          obtain ⟨dx, hdx, hx⟩ := ha3.at_ i y hi
                          have hil : i < zs.length := (List.getElem?_eq_some_iff.mp hi).1
                          have s35 := s3.trans s5
                          have hal : (dzs.take (i + 1)).all (within 0 (dys.length - 1)) = ((dzs.take i).all (within 0 (dys.length - 1)) && within 0 (dys.length - 1) dx) := by
                            rw [List.take_add_one, hdx, List.all_append]
                            simp
                          refine ⟨rfl, y, rfl, _, rfl, a, _, 1, .ref a2, rfl, rfl, SqT.of (s35 _ _ e), atI_nat (j := 1) rfl, a2, ys, rfl, .inr (SqT.of (s35 _ _ e2)), _, _, rfl, rfl, D, B, y, dx, 0, ((ys.length : Nat) : Int) - 1, rfl, hx.same s35, _, rfl, ?_⟩
                          rw [hly]
                          cases hk : within 0 (dys.length - 1) dx with
                          | true =>
                            refine iteF ⟨m, by omega, k5, ?_, s5⟩
                            rw [hal, hk, Bool.and_true]
                            exact k6
                          | false =>
                            refine iteT ⟨_, k5, ?_, m + 1, by omega, ?_, ?_, ?_⟩
                            · rw [List.length_map, List.length_replicate]
                              exact smallM (by omega)
                            · rw [upd_same, List.replicate_succ', List.map_append]
                              rfl
                            · rw [hal, hk, Bool.and_false]
                              rfl
                            · intro b o hb
                              rw [upd_ne (ne_of_none hb nD1)]
                              exact s5 b o hb
                        · rintro H5 ⟨m, hm, k5, k6, s5⟩
                          refine ⟨Nat.zero_le _, fun p3 np3 => ?_⟩
                          have s6 : Same H5 (upd H5 p3 (.lst [])) := same_upd np3
                          refine ⟨.list ((List.replicate m (1 : Int)).map PyData.int), .list [], .lst (SqL.of (s6 _ _ k5)) (dp_ints _), .lst (SqL.of upd_same) .nil, shaped_ints _, shaped_ints [], _, rfl, ?_⟩
                          have s36 := (s3.trans s5).trans s6
                          rw [ones_eqv m, k6, hlz, List.take_length]
                          cases hk : dzs.all (within 0 (dys.length - 1)) with
                          | true =>
                            rw [hk] at q0
                            exact iteF (q0 _ _ s36 .non)
                          | false =>
                            rw [hk] at q0
                            exact iteT ⟨sz1 rfl, fun p np => q0 _ _ (s36.trans (same_upd np)) (dq_wr upd_same)⟩
      · have hb2 : (!decide (V.int ((xs.length : Nat) : Int) = V.int 3)) = true := by
          rw [dec_int2, ha.len, decide_eq_false (by omega)]
          rfl
        show (fun b H1 => _) (!decide (V.int ((xs.length : Nat) : Int) = V.int 3)) H
        rw [hb2, rowErr_len hl] at *
        exact iteT ⟨sz1 rfl, fun p np => q _ _ (same_upd np) (dq_wr upd_same)⟩
end
end Jg
namespace Jg
open PySem PySem.Spec PyProof.Rows L2
/-! ### the program's first error -/
theorem for_enumT {K : PySem.W.Frag} {a : Addr} {xs : List V} {g : TG} {tb : TS} {D : Ends} {σ : L2.St} {H : Hp} (Pv : Nat → L2.St → Hp → Prop) (h0 : Pv 0 σ H) (hl : ∀ i σ H, i ≤ xs.length → Pv i σ H → SqT K H a xs)
    (hs : ∀ i x T σ H, xs[i]? = some x → Pv i σ H → H T = none → g (.ref T) σ (upd H T (.tup [.int (i : Nat), x])) fun σ2 H2 => tb { D with nx := Pv (i + 1), ct := Pv (i + 1), bk := D.nx } σ2 H2) (hd : ∀ σ H, Pv xs.length σ H → D.nx σ H) :
    ∃ W : Nat → Nat → L2.St → Hp → Prop, (∃ m, W 0 m σ H) ∧ ∀ i m σ H, W i m σ H →
      ((IteT K a).stop i H ∧ D.nx σ H) ∨ ((IteT K a).go i H ∧ ∃ N : L2.St → Hp → Prop, (∀ σ' H', N σ' H' → ∃ m', m' < m ∧ W (i + 1) m' σ' H') ∧ ∀ x H', (IteT K a).yld i H x H' → g x σ H' fun σ2 H2 => tb { D with nx := N, ct := N, bk := D.nx } σ2 H2) := by
  refine ⟨fun i m σ H => m = xs.length - i ∧ i ≤ xs.length ∧ Pv i σ H, ⟨xs.length, rfl, Nat.zero_le _, h0⟩, ?_⟩
  rintro i m σ H ⟨rfl, hi, p⟩
  have q := hl i σ H hi p
  by_cases lt : i < xs.length
  · refine .inr ⟨⟨xs, xs[i], q, List.getElem?_eq_getElem lt⟩, Pv (i + 1), fun σ' H' p' => ⟨xs.length - (i + 1), by omega, rfl, lt, p'⟩, fun x H' y => ?_⟩
    obtain ⟨T, z, rfl, hT, rfl, hz⟩ := y
    exact hs i z T σ H (hz xs q) p hT
  · obtain rfl : i = xs.length := by omega
    exact .inl ⟨⟨xs, q, Nat.le_refl _⟩, hd σ H p⟩
abbrev sStepE : Stmt := topS 16
abbrev nStepE : List Str := ["inputs", "steps", "reached", "number", "step"]
theorem scStepE : FnScope nStepE ["inputs", "steps"] (defScope sStepE) := ⟨rfl, rfl, rfl, by decide +kernel, rfl, by decide +kernel, by decide +kernel⟩
abbrev sFirst : Stmt := topS 15
abbrev nFirst : List Str := ["value", "most_inputs", "most_steps", "most_ends", "inputs", "steps", "ends", "wrong", "end"]
theorem scFirst : FnScope nFirst ["value", "most_inputs", "most_steps", "most_ends"] (defScope sFirst) := ⟨rfl, rfl, rfl, by decide +kernel, rfl, by decide +kernel, by decide +kernel⟩
abbrev sRowEr : Stmt := topS 13
abbrev sLongEr : Stmt := topS 14
theorem scRowEr : FnScope ["value"] ["value"] (defScope sRowEr) := ⟨rfl, rfl, rfl, by decide +kernel, rfl, by decide +kernel, by decide +kernel⟩
theorem scLongEr : FnScope ["value"] ["value"] (defScope sLongEr) := ⟨rfl, rfl, rfl, by decide +kernel, rfl, by decide +kernel, by decide +kernel⟩
/-- a def, where it lies, under its own name -/
structure Nm (K : PySem.W.Frag) (mg : Str → Option Value) (x : Str) (st : Stmt) (ps : List Str) (f : Addr) (fd : FuncData) : Prop where
  F : Fun K x x st f fd
  b : Binds K fd ps []
  g : mg x = some (.ref f)
/-- the program's defs that look at rows -/
structure Pg (K : PySem.W.Frag) (w : World) (mg : Str → Option Value) : Prop where
  int : ∃ f fd, Nm K mg "is_integer" sInt ["value"] f fd
  wit : ∃ f fd, Nm K mg "is_within" sWith ["value", "low", "high"] f fd
  tup : ∃ f fd, Nm K mg "is_tuple_of" sTupO ["value", "many"] f fd
  stp : ∃ f fd, Nm K mg "_is_step" sPStep ["value", "number", "inputs"] f fd
  par : ∃ f fd, Nm K mg "parts_of" sParts ["step"] f fd
  com : ∃ f fd, Nm K mg "_come_to" sCome ["step", "reached", "leaf", "joined"] f fd
  lef : ∃ f fd, Nm K mg "_leaf_size" sLeafS ["word", "number"] f fd
  joi : ∃ f fd, Nm K mg "_joined_size" sJoinS ["word", "parts"] f fd
  err : ∃ f fd, Nm K mg "_step_error" sStepE ["inputs", "steps"] f fd
  fst : ∃ f fd, Nm K mg "_first_error" sFirst ["value", "most_inputs", "most_steps", "most_ends"] f fd
  num : ∃ d, Nums K w mg d
  mxN : ∃ t, mg "MAX_NUMBER" = some (.int M20 t)
  mxS : ∃ t, mg "MAX_SIZE" = some (.int 64 t)
  mxI : ∃ t, mg "MAX_INPUTS" = some (.int 8 t)
  mxT : ∃ t, mg "MAX_STEPS" = some (.int 60 t)
  mxE : ∃ t, mg "MAX_ENDS" = some (.int 8 t)
  mxW : ∃ t, mg "MAX_WIDE" = some (.int 20 t)
  mxL : ∃ t, mg "MAX_LONG" = some (.int 400 t)
section
variable {P : Program} {w : World} {K : PySem.W.Frag} {mg : Str → Option Value} {base : Heap}
def spStepE : Sp := fun vs H Q _ => ∃ (D B : Addr) (v : V) (ds : List PyData) (inp : Int), vs = [.int inp, v] ∧ Dq D B H v (.tuple ds) ∧ ds.length ≤ 1000 ∧ ∀ u H', Same H H' → Dq D B H' u (errGo inp ds []) → Q u H'
set_option maxHeartbeats 4000000 in
theorem ok_stepE {f : Addr} {fd : FuncData} (F : Nm K mg "_step_error" sStepE ["inputs", "steps"] f fd) (G : Pg K w mg) (T : Bn mg) : FnOk P w K mg base CX0 4 f fd ["inputs", "steps"] spStepE := by
  obtain ⟨f1, fd1, N1⟩ := G.int
  obtain ⟨f2, fd2, N2⟩ := G.wit
  obtain ⟨f3, fd3, N3⟩ := G.stp
  obtain ⟨f4, fd4, N4⟩ := G.par
  obtain ⟨f5, fd5, N5⟩ := G.com
  obtain ⟨f6, fd6, N6⟩ := G.lef
  obtain ⟨f7, fd7, N7⟩ := G.joi
  obtain ⟨dN, NN⟩ := G.num
  obtain ⟨t1, gN⟩ := G.mxN
  obtain ⟨t2, gS⟩ := G.mxS
  have GP : FnOk P w K mg base CX0 3 f3 fd3 ["value", "number", "inputs"] spPStep := ok_pstep N3.F N1.F N1.b N1.g N2.F N2.b N2.g gN NN T
  have GC : FnOk P w K mg base CX0 2 f5 fd5 ["step", "reached", "leaf", "joined"] (spCome f6 f7) := ok_come N5.F N4.F N4.b N4.g N6.F N6.b N7.F N7.b T
  refine F.F.ok scStepE (fun vs H Q E h => ?_) (fun cdv A outer s H vs Q E hr h => ?_)
  · obtain ⟨D, B, v, ds, inp, rfl, _⟩ := h
    rfl
  · obtain ⟨D, B, v, dys, inp, rfl, hd, hds, q⟩ := h
    refine ⟨_, pss_cons (ps_set (i := 2) scStepE.nd rfl (.inl rfl) (pe_lst pa_nil))
      (pss_cons (ps_for PassesOwn.never rfl (pi_enumT (by rfl) T.enu (pa_cons (pv 1) pa_nil)) (pg_tup rfl (pgs_cons (pg_name (i := 3) scStepE.nd rfl (.inl rfl)) (pgs_cons (pg_name (i := 4) scStepE.nd rfl (.inl rfl)) pgs_nil)))
        (pss_cons (ps_if (pt_not (pt_val (pe_call GP hr (by rfl) N3.g N3.F.kp N3.b .nil pass0 (pa_cons (pv 4) (pa_cons (pv 3) (pa_cons (pv 0) pa_nil)))))) (pss_one (ps_ret (pe_tup (pa_cons (pv 3) (pa_cons pe_str pa_nil))))) pss_nil)
        (pss_cons (ps_expr (pe_bm PySem.F.plainAttrs_list PySem.F.slot_list_append PySem.F.type_list_append mt_append (pv 2) (pa_cons (pe_call GC (hr.mono (by decide)) (by rfl) N5.g N5.F.kp N5.b .nil pass0 (pa_cons (pv 4) (pa_cons (pv 2) (pa_cons (pe_glob (v := .ref f6) rfl N6.g rfl) (pa_cons (pe_glob (v := .ref f7) rfl N7.g rfl) pa_nil))))) pa_nil)))
        (pss_one (ps_if (pt_cmpR op_gt (pe_ix ix_list (pv 2) (pv 3) (fun _ _ => rfl)) (pe_glob (v := .int 64) rfl gS ⟨_, rfl⟩) (nomark _)) (pss_one (ps_ret (pe_tup (pa_cons (pv 3) (pa_cons pe_str pa_nil))))) pss_nil)))))
      (pss_one (ps_ret pe_non))), ?_⟩
    obtain ⟨a2, ys, rfl, e2, ha2⟩ := hd.tupE
    have hly := ha2.len
    refine ⟨Nat.zero_le _, fun L nL => ?_⟩
    have sL := same_upd (o := .lst []) nL
    refine ⟨_, rfl, a2, ys, rfl, SqT.of (sL _ _ e2), for_enumT (K := K) (a := a2) (xs := ys) (fun i σ H3 => ∃ (ns : List Int) (y3 y4 : Option V), σ = [some (.int inp), some (.ref a2), some (.ref L), y3, y4] ∧ ns.length = i ∧ errGo inp dys [] = errGo inp (dys.drop i) ns ∧ H3 L = some (.lst (ns.map V.int)) ∧ Same H H3)
      ⟨[], none, none, rfl, rfl, rfl, upd_same, sL⟩ (fun i σ H3 _ ⟨_, _, _, _, _, _, _, s⟩ => SqT.of (s _ _ e2)) ?_ ?_⟩
    · rintro i y Tt σ H3 hy ⟨ns, y3, y4, rfl, hns, heq, eL, s3⟩ hT
      have hi : i < ys.length := (List.getElem?_eq_some_iff.mp hy).1
      have sT := same_upd (o := .tup [.int ((i : Nat) : Int), y]) hT
      have s3T := s3.trans sT
      obtain ⟨dx, hdx, hxx⟩ := ha2.at_ i _ hy
      have hx3 := hxx.same s3T
      rw [errGo_at hdx, hns] at heq
      refine ⟨Tt, _, rfl, SqT.of upd_same, rfl, .int ((i : Nat) : Int), [y], rfl, y, [], rfl, rfl, ?_⟩
      refine ⟨_, rfl, _, rfl, _, rfl, D, B, y, dx, inp, ((i : Nat) : Int), rfl, hx3, fun H4 s4 => ⟨_, rfl, ?_⟩⟩
      have s34 := s3T.trans s4
      cases kS : stepOk inp ((i : Nat) : Int) dx with
      | false =>
        rw [heq, if_neg (by rw [kS]; exact Bool.false_ne_true)] at q
        exact iteT ⟨_, rfl, sz1 rfl, fun p np => q _ _ (s34.trans (same_upd np)) (dq_nr upd_same)⟩
      | true =>
        rw [if_pos kS] at heq
        have eL4 := s4 _ _ (sT _ _ eL)
        refine iteF ⟨_, rfl, .inl ⟨rfl, _, SqL.of eL4⟩, _, rfl, _, rfl, D, B, L, y, dx, inp, ns, rfl, hx3.same s4, by rw [hns]; exact kS, eL4, by omega, fun H5 s5 => ⟨L, _, _, rfl, rfl, s5 _ _ eL4, ?_, ?_⟩⟩
        · rw [List.length_map, hns]
          exact smallM (by omega)
        · have last : atI (ns.map V.int ++ [.int (szD ns dx)]) ((i : Nat) : Int) = some (.int (szD ns dx)) := atI_nat (by rw [List.getElem?_append_right (by rw [List.length_map]; omega), List.length_map, hns, Nat.sub_self]; rfl)
          refine ⟨_, rfl, _, rfl, L, _, ((i : Nat) : Int), .int (szD ns dx), rfl, rfl, SqL.of upd_same, last, _, _, rfl, rfl, _, rfl, ite2 (fun c => ?_) (fun c => ?_)⟩
          all_goals
            have s7 : Same H (upd H5 L (.lst (ns.map V.int ++ [.int (szD ns dx)]))) := fun b o hb => by
              rw [upd_ne (ne_of_none hb nL)]
              exact s5 b o (s34 b o hb)
          · rw [heq, if_pos (of_decide_eq_true c)] at q
            exact ⟨_, rfl, sz1 rfl, fun p np => q _ _ (s7.trans (same_upd np)) (dq_nr upd_same)⟩
          · rw [if_neg (fun z => c (decide_eq_true z))] at heq
            refine ⟨ns ++ [szD ns dx], _, _, rfl, by rw [List.length_append, hns]; rfl, heq, ?_, s7⟩
            rw [upd_same, List.map_append]
            rfl
    · rintro σ H3 ⟨ns, y3, y4, rfl, hns, heq, eL, s3⟩
      rw [List.drop_eq_nil_of_le (by omega)] at heq
      rw [heq] at q
      exact q _ _ s3 .non
def spFirst : Sp := fun vs H Q _ => ∃ (D B : Addr) (v : V) (d : PyData) (mi ms me : Int), vs = [v, .int mi, .int ms, .int me] ∧ Dq D B H v d ∧ ms ≤ 1000 ∧ me ≤ 1000 ∧ ∀ u H', Same H H' → Dq D B H' u (rowErr mi ms me d) → Q u H'
theorem tupOf_no3 {d : PyData} {mi ms me : Int} (h : tupOf 3 d = false) : rowErr mi ms me d = wr (Str.ofString "row") := by
  cases hb : isTu d with
  | false => exact rowErr_tu hb
  | true =>
    cases d with
    | tuple ds => exact rowErr_len (fun z => of_decide_eq_false (show decide ((ds.length : Int) = 3) = false from h) (by rw [z]; rfl))
    | _ => cases hb
def isNo : PyData → Bool
  | .none => true | _ => false
theorem dq_isN {D B : Addr} {H : Hp} {v : V} {d : PyData} (h : Dq D B H v d) : decide (v = .non) = isNo d := by
  cases h <;> rfl
theorem orD_no {e x : PyData} (h : isNo e = false) : orD e x = e := by
  cases e <;> first | rfl | cases h
theorem orD_yes {e x : PyData} (h : isNo e = true) : orD e x = x := by
  cases e <;> first | rfl | cases h
set_option maxHeartbeats 4000000 in
theorem ok_first {f : Addr} {fd : FuncData} (F : Nm K mg "_first_error" sFirst ["value", "most_inputs", "most_steps", "most_ends"] f fd) (G : Pg K w mg) (T : Bn mg) : FnOk P w K mg base CX0 5 f fd ["value", "most_inputs", "most_steps", "most_ends"] spFirst := by
  obtain ⟨f1, fd1, N1⟩ := G.int
  obtain ⟨f2, fd2, N2⟩ := G.wit
  obtain ⟨f3, fd3, N3⟩ := G.tup
  obtain ⟨f4, fd4, N4⟩ := G.err
  have G2 : FnOk P w K mg base CX0 2 f2 fd2 ["value", "low", "high"] spWith := ok_with N2.F N1.F N1.b N1.g T
  have G3 : FnOk P w K mg base CX0 1 f3 fd3 ["value", "many"] spTupO := ok_tupO N3.F T
  have G4 : FnOk P w K mg base CX0 4 f4 fd4 ["inputs", "steps"] spStepE := ok_stepE N4 G T
  refine F.F.ok scFirst (fun vs H Q E h => ?_) (fun cdv A outer s H vs Q E hr h => ?_)
  · obtain ⟨D, B, v, d, mi, ms, me, rfl, _⟩ := h
    rfl
  · obtain ⟨D, B, v, d, mi, ms, me, rfl, hd, hms, hme, q⟩ := h
    have hu := hr.units
    have hr1 : Room 1 _ := hr.mono (by decide)
    have hr2 : Room 2 _ := hr.mono (by decide)
    refine ⟨_, pss_cons (ps_if (pt_not (pt_val (pe_call G3 hr1 (by rfl) N3.g N3.F.kp N3.b .nil pass0 (pa_cons (pv 0) (pa_cons pe_int pa_nil))))) (pss_one (ps_ret (pe_tup (pa_cons pe_non (pa_cons pe_str pa_nil))))) pss_nil)
      (pss_cons (ps_asg (pv 0) (pg_tup rfl (pgs_cons (pg_name (i := 4) scFirst.nd rfl (.inl rfl)) (pgs_cons (pg_name (i := 5) scFirst.nd rfl (.inr rfl)) (pgs_cons (pg_name (i := 6) scFirst.nd rfl (.inl rfl)) pgs_nil)))))
      (pss_cons (ps_if (pt_not (pt_val (pe_call G2 hr2 (by rfl) N2.g N2.F.kp N2.b .nil pass0 (pa_cons (pv 4) (pa_cons pe_int (pa_cons (pv 1) pa_nil)))))) (pss_one (ps_ret (pe_tup (pa_cons pe_non (pa_cons pe_str pa_nil))))) pss_nil)
      (pss_cons (ps_if (PW.pt (pw_or (pt_not (pt_val (pe_callB call_isi (by rfl) T.isi PyProof.Rows.boot_isinstance (pa_cons (pv 5) (pa_cons (pe_bltn (by rfl) T.tup boot_tuple' (v := .ty "tuple") rfl) pa_nil)))))
        (pw_or1 (pt_not (pt_chain op_le op_le pe_int (pe_callB call_len_seq (by rfl) T.len PySem.boot_len (pa_cons (pv 5) pa_nil)) (pv 2)))))) (pss_one (ps_ret (pe_tup (pa_cons pe_non (pa_cons pe_str pa_nil))))) pss_nil)
      (pss_cons (ps_set (i := 7) scFirst.nd rfl (.inl rfl) (pe_call G4 (hr.mono (by decide)) (by rfl) N4.g N4.F.kp N4.b .nil pass0 (pa_cons (pv 4) (pa_cons (pv 5) pa_nil))))
      (pss_cons (ps_if (pt_cmpR op_notN (pv 7) pe_non (nomark _)) (pss_one (ps_ret (pv 7))) pss_nil)
      (pss_cons (ps_if (PW.pt (pw_or (pt_not (pt_val (pe_callB call_isi (by rfl) T.isi PyProof.Rows.boot_isinstance (pa_cons (pv 6) (pa_cons (pe_bltn (by rfl) T.tup boot_tuple' (v := .ty "tuple") rfl) pa_nil)))))
        (pw_or1 (pt_not (pt_chain op_le op_le pe_int (pe_callB call_len_seq (by rfl) T.len PySem.boot_len (pa_cons (pv 6) pa_nil)) (pv 3)))))) (pss_one (ps_ret (pe_tup (pa_cons pe_non (pa_cons pe_str pa_nil))))) pss_nil)
      (pss_cons (ps_if (pt_not (pt_val (pe_callB (cr_all rfl) (by rfl) T.all boot_all' (pa_cons (pe_lc (own := [("end", 8)]) (g := gName 8) (tt := tYes) rfl scFirst.nd (pi_tup (pv 6)) (blkOk_by (N := nFirst) (sc := defScope sFirst) (by decide +kernel))
        (fun _ _ _ _ _ => pg_name (i := 8) scFirst.nd rfl (.inl rfl)) (fun _ _ _ _ _ => pts_nil) (fun _ _ _ _ _ => pe_call G2 hr2 (by rfl) N2.g N2.F.kp N2.b .nil pass0 (pa_cons (pv 8) (pa_cons pe_int (pa_cons (pe_op op_sub (pe_callB (call_lenK (K := K) rfl) (by rfl) T.len PySem.boot_len (pa_cons (pv 5) pa_nil)) pe_int) pa_nil))))) pa_nil)))) (pss_one (ps_ret (pe_tup (pa_cons pe_non (pa_cons pe_str pa_nil))))) pss_nil)
      (pss_one (ps_ret pe_non))))))))), ?_⟩
    refine ⟨_, rfl, D, B, v, d, 3, rfl, hd, _, rfl, ?_⟩
    cases hb : tupOf 3 d with
    | false =>
      rw [tupOf_no3 hb] at q
      exact iteT ⟨sz1 rfl, fun p np => q _ _ (same_upd np) (dq_wr upd_same)⟩
    | true =>
      obtain ⟨a, xs, ds, rfl, rfl, e, ha, hl⟩ := tupOf_yes hd hb
      obtain ⟨da, db, dc, rfl⟩ := three_of (ds := ds) (by omega)
      obtain ⟨x1, x2, x3, rfl, h1, h2, h3⟩ := dq_three ha
      refine iteF ⟨_, rfl, a, _, rfl, SqT.of e, rfl, x1, [x2, x3], rfl, x2, [x3], rfl, x3, [], rfl, rfl, ?_⟩
      refine ⟨_, rfl, _, rfl, D, B, x1, da, 0, mi, rfl, h1, _, rfl, ?_⟩
      cases hw : within 0 mi da with
      | false =>
        rw [rowErr_in hw] at q
        exact iteT ⟨sz1 rfl, fun p np => q _ _ (same_upd np) (dq_wr upd_same)⟩
      | true =>
        obtain ⟨inp, rfl, i0, i1⟩ := within_is hw
        cases h1.intE
        rw [rowErr_go hw] at q
        refine iteF ⟨_, rfl, x2, .ty "tuple", _, _, _, rfl, .ty "tuple", h2.ty, kTup db, _, rfl, ?_⟩
        cases hb3 : isTu db with
        | false =>
          rw [stepsErr_tu hb3] at q
          exact iteT (iteT ⟨sz1 rfl, fun p np => q _ _ (same_upd np) (dq_wr upd_same)⟩)
        | true =>
          obtain ⟨a2, ys, dys, rfl, rfl, e2, ha2⟩ := isTu_of h2 hb3
          have hly := ha2.len
          refine iteF ⟨_, rfl, a2, ys, rfl, .inr (SqT.of e2), _, _, rfl, rfl, _, rfl, ?_⟩
          cases k1 : decide ((1 : Int) ≤ ((ys.length : Nat) : Int)) with
          | false =>
            rw [stepsErr_len (fun z => of_decide_eq_false k1 (by rw [hly]; exact z.1))] at q
            exact iteF ⟨_, rfl, iteT ⟨sz1 rfl, fun p np => q _ _ (same_upd np) (dq_wr upd_same)⟩⟩
          | true =>
            refine iteT ⟨_, rfl, _, _, rfl, rfl, _, rfl, ?_⟩
            cases k2 : decide (((ys.length : Nat) : Int) ≤ ms) with
            | false =>
              rw [stepsErr_len (fun z => of_decide_eq_false k2 (by rw [hly]; exact z.2))] at q
              exact iteT ⟨sz1 rfl, fun p np => q _ _ (same_upd np) (dq_wr upd_same)⟩
            | true =>
              have g1 := of_decide_eq_true k1
              have g2 := of_decide_eq_true k2
              rw [stepsErr_go (by rw [← hly]; exact ⟨g1, g2⟩)] at q
              refine iteF ⟨_, rfl, _, rfl, D, B, .ref a2, dys, inp, rfl, h2, by omega, fun u H3 s3 hu3 => ?_⟩
              refine ⟨_, rfl, rfl, _, rfl, ?_⟩
              show (fun b H1 => _) (!decide (u = V.non)) H3
              rw [dq_isN hu3]
              cases hn : isNo (errGo inp dys []) with
              | false =>
                rw [orD_no hn] at q
                exact iteT ⟨_, rfl, q u _ s3 hu3⟩
              | true =>
                rw [orD_yes hn] at q
                have e3 := s3 _ _ e
                refine iteF ⟨_, rfl, x3, .ty "tuple", _, _, _, rfl, .ty "tuple", (h3.same s3).ty, kTup dc, _, rfl, ?_⟩
                cases hb4 : isTu dc with
                | false =>
                  rw [endsErr_tu hb4] at q
                  exact iteT (iteT ⟨sz1 rfl, fun p np => q _ _ (s3.trans (same_upd np)) (dq_wr upd_same)⟩)
                | true =>
                  obtain ⟨a3, zs, dzs, rfl, rfl, e33, ha3⟩ := isTu_of h3 hb4
                  have hlz := ha3.len
                  refine iteF ⟨_, rfl, a3, zs, rfl, .inr (SqT.of (s3 _ _ e33)), _, _, rfl, rfl, _, rfl, ?_⟩
                  cases k3 : decide ((1 : Int) ≤ ((zs.length : Nat) : Int)) with
                  | false =>
                    rw [endsErr_len (fun z => of_decide_eq_false k3 (by rw [hlz]; exact z.1))] at q
                    exact iteF ⟨_, rfl, iteT ⟨sz1 rfl, fun p np => q _ _ (s3.trans (same_upd np)) (dq_wr upd_same)⟩⟩
                  | true =>
                    refine iteT ⟨_, rfl, _, _, rfl, rfl, _, rfl, ?_⟩
                    cases k4 : decide (((zs.length : Nat) : Int) ≤ me) with
                    | false =>
                      rw [endsErr_len (fun z => of_decide_eq_false k4 (by rw [hlz]; exact z.2))] at q
                      exact iteT ⟨sz1 rfl, fun p np => q _ _ (s3.trans (same_upd np)) (dq_wr upd_same)⟩
                    | true =>
                      have g3 := of_decide_eq_true k3
                      have g4 := of_decide_eq_true k4
                      rw [endsErr_go (by rw [← hlz]; exact ⟨g3, g4⟩)] at q
                      refine iteF ⟨_, rfl, a3, rfl, ⟨_, SqT.of (s3 _ _ e33)⟩, fun D1 nD1 => ?_⟩
                      refine lc_tup (K := K) (a := a3) (xs := zs) (fun i H5 => H5 D1 = some (.lst (((dzs.take i).map (within 0 (dys.length - 1))).map V.bl)) ∧ Same H3 H5) ⟨upd_same, same_upd nD1⟩ (fun i H5 _ h => SqT.of (h.2 _ _ (s3 _ _ e33))) ?_ ?_
                      · rintro i y H5 hi ⟨k5, s5⟩
                        obtain ⟨dx, hdx, hx⟩ := ha3.at_ i y hi
                        have hil : i < zs.length := (List.getElem?_eq_some_iff.mp hi).1
                        have s35 := s3.trans s5
                        refine ⟨rfl, tYes_if ⟨y, rfl, _, rfl, a2, ys, rfl, .inr (SqT.of (s35 _ _ e2)), _, _, rfl, rfl, D, B, y, dx, 0, ((ys.length : Nat) : Int) - 1, rfl, hx.same s35, _, k5, ?_, ?_, ?_⟩⟩
                        · simp only [List.length_map, List.length_take]
                          exact Nat.lt_of_le_of_lt (Nat.min_le_left _ _) (smallM (by omega))
                        · rw [upd_same, take_map_next hdx, List.map_append, hly]
                          rfl
                        · intro b o hb
                          rw [upd_ne (ne_of_none hb nD1)]
                          exact s5 b o hb
                      · rintro H5 ⟨k5, s5⟩
                        refine ⟨D1, _, rfl, SqL.of k5, _, rfl, ?_⟩
                        have s35 := s3.trans s5
                        have eall : ((dzs.take zs.length).map (within 0 (dys.length - 1))).all id = dzs.all (within 0 (dys.length - 1)) := by
                          rw [hlz, List.take_length, List.all_map]
                          rfl
                        rw [eall]
                        cases hk : dzs.all (within 0 (dys.length - 1)) with
                        | true =>
                          rw [hk] at q
                          exact iteF (q _ _ s35 .non)
                        | false =>
                          rw [hk] at q
                          exact iteT ⟨sz1 rfl, fun p np => q _ _ (s35.trans (same_upd np)) (dq_wr upd_same)⟩
def spJudge (mi ms me : Int) : Sp := fun vs H Q _ => ∃ (D B : Addr) (v : V) (d : PyData), vs = [v] ∧ Dq D B H v d ∧ ∀ u H', Same H H' → Dq D B H' u (rowErr mi ms me d) → Q u H'
theorem ok_rowEr {f : Addr} {fd : FuncData} (F : Nm K mg "row_error" sRowEr ["value"] f fd) (G : Pg K w mg) (T : Bn mg) : FnOk P w K mg base CX0 6 f fd ["value"] (spJudge 8 60 8) := by
  obtain ⟨f1, fd1, N1⟩ := G.fst
  obtain ⟨_, gI⟩ := G.mxI
  obtain ⟨_, gT⟩ := G.mxT
  obtain ⟨_, gE⟩ := G.mxE
  have G1 : FnOk P w K mg base CX0 5 f1 fd1 ["value", "most_inputs", "most_steps", "most_ends"] spFirst := ok_first N1 G T
  refine F.F.ok scRowEr (fun vs H Q E h => ?_) (fun cdv A outer s H vs Q E hr h => ?_)
  · obtain ⟨D, B, v, d, rfl, _⟩ := h
    rfl
  · obtain ⟨D, B, v, d, rfl, hd, q⟩ := h
    exact ⟨_, pss_one (ps_ret (pe_call G1 hr (by rfl) N1.g N1.F.kp N1.b .nil pass0 (pa_cons (pv 0) (pa_cons (pe_glob (v := .int 8) rfl gI ⟨_, rfl⟩) (pa_cons (pe_glob (v := .int 60) rfl gT ⟨_, rfl⟩) (pa_cons (pe_glob (v := .int 8) rfl gE ⟨_, rfl⟩) pa_nil)))))), _, rfl, D, B, v, d, 8, 60, 8, rfl, hd, by decide, by decide, q⟩
theorem ok_longEr {f : Addr} {fd : FuncData} (F : Nm K mg "long_error" sLongEr ["value"] f fd) (G : Pg K w mg) (T : Bn mg) : FnOk P w K mg base CX0 6 f fd ["value"] (spJudge 20 400 20) := by
  obtain ⟨f1, fd1, N1⟩ := G.fst
  obtain ⟨_, gW⟩ := G.mxW
  obtain ⟨_, gL⟩ := G.mxL
  have G1 : FnOk P w K mg base CX0 5 f1 fd1 ["value", "most_inputs", "most_steps", "most_ends"] spFirst := ok_first N1 G T
  refine F.F.ok scLongEr (fun vs H Q E h => ?_) (fun cdv A outer s H vs Q E hr h => ?_)
  · obtain ⟨D, B, v, d, rfl, _⟩ := h
    rfl
  · obtain ⟨D, B, v, d, rfl, hd, q⟩ := h
    exact ⟨_, pss_one (ps_ret (pe_call G1 hr (by rfl) N1.g N1.F.kp N1.b .nil pass0 (pa_cons (pv 0) (pa_cons (pe_glob (v := .int 20) rfl gW ⟨_, rfl⟩) (pa_cons (pe_glob (v := .int 400) rfl gL ⟨_, rfl⟩) (pa_cons (pe_glob (v := .int 20) rfl gW ⟨_, rfl⟩) pa_nil)))))), _, rfl, D, B, v, d, 20, 400, 20, rfl, hd, by decide, by decide, q⟩
end
end Jg
namespace Jg
open PySem PySem.Spec PyProof.Rows L2
section
variable {X : Cx} {CX : CXT} {k : Nat} {f : Addr} {fd : FuncData} {ps ks : List Str} {sp : Sp} {E : XK} {x : Str} {p pos : Pos} {kws : List Keyword} {tk : TA} {g : List Value → List Value → List Value} {gV : List V → List V → List V}
/-- f(k = v, ..), keywords alone -/
theorem pe_callKO (F : FnOk X.prog X.w X.K X.mg X.base CX k f fd ps sp) (hr : Room k X.A) (hg : Gl X x) (hm : X.mg x = some (.ref f)) (hk : PySem.W.keepIn X.K (.ref f) = true) (hb : KBinds X.K fd ps ks g gV) (hx : Passes CX X E) (hkw : PK X kws tk)
    (hall : (backToKw pos (keywordEach kws X.env)).all (·.1.isSome) = true := by rfl) (hks : (backToKw pos (keywordEach kws X.env)).filterMap (·.1) = ks := by rfl) (hdb : (x == ("__debug__" : Str)) = false := by decide)
    (hpl : ((backTo pos (starEach [] X.env)).any (·.1) || (backToKw pos (keywordEach kws X.env)).any (·.1.isNone)) = false := by rfl) : PE X (.Call (.Name x p) [] kws pos) (tCallK sp gV E tNil tk) := by
  refine ⟨fun pins s σ H Q I h => wpAny_Call_Name_kw (ld_glob I hg hm (PySem.W.callWith_KW0 (h₀ := X.base) I.ok.mod.kin hk hall ?_ hpl) hdb)⟩
  refine thn (hkw.run pos pins s σ H _ I h) fun ws s2 ⟨zs, H2, I2, rz, q2⟩ => ⟨I2.kIn, ?_⟩
  rw [hks]
  exact run_fnk (us := []) (vs := []) F hr hb hx I2 .nil rz q2
end
theorem ps_imp {X : Cx} {st : Stmt} {t t' : TS} (h : PS X st t) (k : ∀ D σ H, t' D σ H → t D σ H) : PS X st t' := ⟨fun pins s σ H D I q => h.run pins s σ H D I (k D σ H q)⟩
/-- a def that is called -/
structure Cal (P : Program) (w : World) (K : PySem.W.Frag) (mg : Str → Option Value) (base : Heap) (x : Str) (k : Nat) (ps : List Str) (sp : Sp) (f : Addr) (fd : FuncData) : Prop where
  F : FnOk P w K mg base CX0 k f fd ps sp
  g : mg x = some (.ref f)
  kp : PySem.W.keepIn K (.ref f) = true
  b : Binds K fd ps []
def kwOne : List Value → List Value → List Value
  | [], [v] => [v] | _, _ => []
def kwOneV : List V → List V → List V
  | [], [v] => [v] | _, _ => []
def forBody : Stmt → List Stmt
  | .For _ _ b _ _ => b | _ => []
theorem tup_ne {D B C : Addr} {cells : List Int} {H : Hp} {xs : List V} {b : Addr} (k : DeckAt D B C cells H) (e : H b = some (.tup xs)) : b ≠ D ∧ b ≠ B := by
  obtain ⟨x1, g1⟩ := k.isD
  obtain ⟨x2, g2⟩ := k.isB
  exact ⟨(fun z => by rw [z, g1] at e; cases e), (fun z => by rw [z, g2] at e; cases e)⟩
section
variable {σ : L2.St} {v : Option V}
theorem get_set_ne {i j : Nat} (h : i ≠ j) : (σ.set i v)[j]? = σ[j]? := List.getElem?_set_ne h
theorem get_set_eq {i : Nat} (h : i < σ.length) : (σ.set i v)[i]? = some v := by
  rw [List.getElem?_set_self h]
end
section
variable {σ : L2.St} {i j k : Nat} {x y : Option V}
theorem wipe1 : wipe ((wipe σ [i]).set i x) [i] = wipe σ [i] := by
  show ((σ.set i none).set i x).set i none = σ.set i none
  rw [List.set_set, List.set_set]
theorem wipe2 (h : i ≠ j) : wipe (((wipe σ [i, j]).set i x).set j y) [i, j] = wipe σ [i, j] := by
  show (((((σ.set j none).set i none).set i x).set j y).set j none).set i none = (σ.set j none).set i none
  rw [List.set_set, List.set_set, List.set_comm _ _ h, List.set_set, List.set_set]
theorem w1_own (h : i < σ.length) : ((wipe σ [i]).set i x)[i]? = some x := get_set_eq (by rw [wipe_length]; exact h)
theorem w1_out (h : i ≠ k) : ((wipe σ [i]).set i x)[k]? = σ[k]? := by
  rw [get_set_ne h]
  exact get_set_ne h
theorem w2_one (h : i < σ.length) (hij : i ≠ j) : (((wipe σ [i, j]).set i x).set j y)[i]? = some x := by
  rw [get_set_ne hij.symm]
  exact get_set_eq (by rw [wipe_length]; exact h)
theorem w2_two (h : j < σ.length) : (((wipe σ [i, j]).set i x).set j y)[j]? = some y := get_set_eq (by rw [List.length_set, wipe_length]; exact h)
theorem w2_out (h1 : i ≠ k) (h2 : j ≠ k) : (((wipe σ [i, j]).set i x).set j y)[k]? = σ[k]? := by
  rw [get_set_ne h2, get_set_ne h1]
  show ((σ.set j none).set i none)[k]? = σ[k]?
  rw [get_set_ne h1, get_set_ne h2]
end
theorem DeckAt.but {D B C L : Addr} {cells : List Int} {H H' : Hp} (d : DeckAt D B C cells H) (f : ∀ b o, b ≠ L → H b = some o → H' b = some o) (hD : D ≠ L) (hB : B ≠ L) (hC : C ≠ L) : DeckAt D B C cells H' := by
  obtain ⟨n, hn⟩ := d.top
  obtain ⟨bs, hl, hb⟩ := d.big
  exact ⟨d.db, d.dc, d.bc, d.ne, d.len, ⟨n, f _ _ hD hn⟩, ⟨bs, hl, f _ _ hB hb⟩, f _ _ hC d.cel⟩
/-- plain data stays where all but one list stays -/
theorem plain_keep {D B L : Addr} {H H' : Hp} {ys : List V} (eL : H L = some (.lst ys)) (f : ∀ b o, b ≠ L → H b = some o → H' b = some o) : ∀ (n : Nat) (d : PyData) (v : V), Plain n d → Dq D B H v d → Dq D B H' v d
  | 0, d, v, h, hd => by
    rcases h with ⟨i, rfl, _⟩ | ⟨x, rfl, _⟩
    · cases hd
      exact .int i
    · cases hd
      exact .str x
  | n + 1, d, v, h, hd => by
    rcases h with h | ⟨ds, rfl, hl, hx⟩
    · rcases h with ⟨i, rfl, _⟩ | ⟨x, rfl, _⟩
      · cases hd
        exact .int i
      · cases hd
        exact .str x
    · obtain ⟨a, xs, rfl, e, ha⟩ := hd.tupE
      refine .tup (f _ _ (fun z => by rw [z, eL] at e; cases e) e) ?_
      clear e hl hd
      induction ha using DqAll.rec (motive_1 := fun _ _ _ => True) with
      | nil => exact .nil
      | cons h1 h2 _ ih => exact .cons (plain_keep eL f n _ _ (hx _ List.mem_cons_self) h1) (ih fun x hm => hx x (List.mem_cons_of_mem _ hm))
      | _ => trivial
theorem plain_keepAll {D B L : Addr} {H H' : Hp} {ys : List V} (eL : H L = some (.lst ys)) (f : ∀ b o, b ≠ L → H b = some o → H' b = some o) {n : Nat} : ∀ {xs : List V} {ds : List PyData}, (∀ x ∈ ds, Plain n x) → DqAll D B H xs ds → DqAll D B H' xs ds
  | _, _, _, .nil => .nil
  | _, _, hx, .cons a b => .cons (plain_keep eL f n _ _ (hx _ List.mem_cons_self) a) (plain_keepAll eL f (fun x hm => hx x (List.mem_cons_of_mem _ hm)) b)
end Jg
namespace Jg
open PySem PySem.Spec PyProof.Rows L2
/-! ### the law's rows: one step drawn -/
abbrev sLRow : Stmt := topS 30
abbrev nLRow : List Str := ["_law_deck_here", "_law_inputs", "_law_many", "_law_most", "_law_steps", "_law_found", "_law_number", "_law_word", "_law_step", "_law_ends", "_law_k"]
theorem scLRow : FnScope nLRow ["_law_deck_here", "_law_inputs", "_law_many", "_law_most"] (defScope sLRow) := ⟨rfl, rfl, rfl, by decide +kernel, rfl, by decide +kernel, by decide +kernel⟩
abbrev RX (P : Program) (w : World) (K : PySem.W.Frag) (mg : Str → Option Value) (base : Heap) (f : Addr) (cdv : Value) (Ar : Around) (out : List Env) (s0 : Shared) (H0 : Hp) (E : XK) : Cx :=
  (cxOf CX0 P w K mg base nLRow "_law_row" (defScope sLRow) f cdv Ar out s0 H0 E).nox
def stR (i : Nat) : Stmt := (forBody ((defBody sLRow).getD 1 (.Pass ⟨0, 0, 0, 0⟩))).getD i (.Pass ⟨0, 0, 0, 0⟩)
def isW (x : Str) : Prop := (x = Str.ofString "in" ∨ x = Str.ofString "set" ∨ x = Str.ofString "neg") ∨ x = Str.ofString "+" ∨ x = Str.ofString "-" ∨ x = Str.ofString "*"
theorem isW_ok {x : Str} (h : isW x) : (reprText x).length ≤ 40 ∧ PyData.strOk x = true := by
  rcases h with (rfl | rfl | rfl) | rfl | rfl | rfl <;> decide +kernel
theorem leaf_w {x : Str} (h : isW x) : Leaf (.str x) := .inr ⟨x, rfl, (isW_ok h).1, (isW_ok h).2⟩
theorem leaf_i {i : Int} (h : i.natAbs ≤ 1000) : Leaf (.int i) := .inl ⟨i, rfl, Nat.le_trans h (by decide)⟩
theorem plain2 {x : Str} {i : Int} (hx : isW x) (hi : i.natAbs ≤ 1000) : Plain 2 (.tuple [.str x, .int i]) :=
  .inr ⟨_, rfl, by show 2 ≤ 5; decide, fun y hy => by
    rcases List.mem_cons.mp hy with rfl | hy
    · exact (leaf_w hx).plain 1
    · rw [List.mem_singleton.mp hy]
      exact (leaf_i hi).plain 1⟩
theorem plain3 {x : Str} {i j : Int} (hx : isW x) (hi : i.natAbs ≤ 1000) (hj : j.natAbs ≤ 1000) : Plain 2 (.tuple [.str x, .int i, .int j]) :=
  .inr ⟨_, rfl, by show 3 ≤ 5; decide, fun y hy => by
    rcases List.mem_cons.mp hy with rfl | hy
    · exact (leaf_w hx).plain 1
    · rcases List.mem_cons.mp hy with rfl | hy
      · exact (leaf_i hi).plain 1
      · rw [List.mem_singleton.mp hy]
        exact (leaf_i hj).plain 1⟩
/-- the state ahead of a step -/
structure RA (D B C : Addr) (cells : List Int) (inp : Nat) (Sa Sb : Addr) (Hs : Hp) (i : Nat) (xs : List V) (ds : List PyData) (ns : List Int) (σ : L2.St) (H : Hp) : Prop where
  len : σ.length = 11
  s0 : σ[0]? = some (some (.ref D))
  s1 : σ[1]? = some (some (.int (inp : Int)))
  s3 : σ[3]? = some (some (.int 64))
  s4 : σ[4]? = some (some (.ref Sa))
  s5 : σ[5]? = some (some (.ref Sb))
  s6 : σ[6]? = some (some (.int (i : Int)))
  dk : DeckAt D B C cells H
  e1 : H Sa = some (.lst xs)
  e2 : H Sb = some (.lst (ns.map V.int))
  n12 : Sa ≠ Sb
  n1 : Sa ≠ D ∧ Sa ≠ B ∧ Sa ≠ C
  n2 : Sb ≠ D ∧ Sb ≠ B ∧ Sb ≠ C
  dq : DqAll D B H xs ds
  pl : ∀ d ∈ ds, Plain 2 d
  dl : ds.length = i
  nl : ns.length = i
  n64 : ∀ n ∈ ns, n ≤ 64
  fr : Fr D B Hs H
  m1 : Hs Sa = none
  m2 : Hs Sb = none
  c8 : inp ≤ 8
  c60 : i < 60
structure RB (D B C : Addr) (cells : List Int) (inp : Nat) (Sa Sb : Addr) (Hs : Hp) (i : Nat) (xs : List V) (ds : List PyData) (ns : List Int) (σ : L2.St) (H : Hp) : Prop extends RA D B C cells inp Sa Sb Hs i xs ds ns σ H where
  s7 : ∃ x, σ[7]? = some (some (.str x)) ∧ isW x
structure RC (D B C : Addr) (cells : List Int) (inp : Nat) (Sa Sb : Addr) (Hs : Hp) (i : Nat) (xs : List V) (ds : List PyData) (ns : List Int) (σ : L2.St) (H : Hp) : Prop extends RB D B C cells inp Sa Sb Hs i xs ds ns σ H where
  s8 : ∃ v d, σ[8]? = some (some v) ∧ Dq D B H v d ∧ stepOk inp i d = true ∧ Plain 2 d
structure RD (D B C : Addr) (cells : List Int) (inp : Nat) (Sa Sb : Addr) (Hs : Hp) (i : Nat) (xs : List V) (ds : List PyData) (ns : List Int) (v : V) (d : PyData) (σ : L2.St) (H : Hp) : Prop extends RA D B C cells inp Sa Sb Hs i xs ds ns σ H where
  s8 : σ[8]? = some (some v)
  qd : Dq D B H v d
  ok : stepOk inp i d = true
  pd : Plain 2 d
  z64 : szD ns d ≤ 64
section
variable {D B C : Addr} {cells : List Int} {inp : Nat} {Sa Sb : Addr} {Hs : Hp} {i : Nat} {xs : List V} {ds : List PyData} {ns : List Int} {σ : L2.St} {H H' : Hp} {v : Option V}
theorem RA.go (r : RA D B C cells inp Sa Sb Hs i xs ds ns σ H) (dk : DeckAt D B C cells H') (f : Fr D B H H') : RA D B C cells inp Sa Sb Hs i xs ds ns σ H' :=
  ⟨r.len, r.s0, r.s1, r.s3, r.s4, r.s5, r.s6, dk, f _ _ r.n1.1 r.n1.2.1 r.e1, f _ _ r.n2.1 r.n2.2.1 r.e2, r.n12, r.n1, r.n2, r.dk.dataAll f r.dq, r.pl, r.dl, r.nl, r.n64, r.fr.trans f, r.m1, r.m2, r.c8, r.c60⟩
theorem RA.set (r : RA D B C cells inp Sa Sb Hs i xs ds ns σ H) {k : Nat} (h : 6 < k) : RA D B C cells inp Sa Sb Hs i xs ds ns (σ.set k v) H :=
  ⟨by rw [List.length_set]; exact r.len, by rw [get_set_ne (by omega)]; exact r.s0, by rw [get_set_ne (by omega)]; exact r.s1, by rw [get_set_ne (by omega)]; exact r.s3, by rw [get_set_ne (by omega)]; exact r.s4, by rw [get_set_ne (by omega)]; exact r.s5, by rw [get_set_ne (by omega)]; exact r.s6,
   r.dk, r.e1, r.e2, r.n12, r.n1, r.n2, r.dq, r.pl, r.dl, r.nl, r.n64, r.fr, r.m1, r.m2, r.c8, r.c60⟩
theorem RB.go (r : RB D B C cells inp Sa Sb Hs i xs ds ns σ H) (dk : DeckAt D B C cells H') (f : Fr D B H H') : RB D B C cells inp Sa Sb Hs i xs ds ns σ H' := ⟨r.toRA.go dk f, r.s7⟩
theorem RB.step (r : RB D B C cells inp Sa Sb Hs i xs ds ns σ H) {y : V} {d : PyData} (q : Dq D B H y d) (ok : stepOk inp i d = true) (p : Plain 2 d) : RC D B C cells inp Sa Sb Hs i xs ds ns (σ.set 8 (some y)) H := by
  obtain ⟨x, hx, hw⟩ := r.s7
  exact ⟨⟨r.toRA.set (by decide), x, by rw [get_set_ne (by decide)]; exact hx, hw⟩, y, d, get_set_eq (by rw [r.len]; decide), q, ok, p⟩
theorem RA.word (r : RA D B C cells inp Sa Sb Hs i xs ds ns σ H) {x : Str} (h : isW x) : RB D B C cells inp Sa Sb Hs i xs ds ns (σ.set 7 (some (.str x))) H := ⟨r.set (by decide), x, get_set_eq (by rw [r.len]; decide), h⟩
end
theorem boot_min' : bootBuiltins "min" = some (.builtin "min") := by decide +kernel
theorem stepOk_two (inp num : Int) (x : Str) (a : PyData) : stepOk inp num (.tuple [.str x, a]) = if x = Str.ofString "in" then within 0 (inp - 1) a else if x = Str.ofString "set" then within (-M20) M20 a else if x = Str.ofString "neg" then within 0 (num - 1) a else false := rfl
theorem within_yes {lo hi i : Int} (h0 : lo ≤ i) (h1 : i ≤ hi) : within lo hi (.int i) = true := by
  show (decide (lo ≤ i) && decide (i ≤ hi)) = true
  rw [decide_eq_true h0, decide_eq_true h1]
  rfl
theorem ok_in {inp num : Int} {i : Int} (h0 : 0 ≤ i) (h1 : i ≤ inp - 1) : stepOk inp num (.tuple [.str (Str.ofString "in"), .int i]) = true := by
  rw [stepOk_two, if_pos rfl]
  exact within_yes h0 h1
theorem ok_set {inp num : Int} {i : Int} (h0 : -M20 ≤ i) (h1 : i ≤ M20) : stepOk inp num (.tuple [.str (Str.ofString "set"), .int i]) = true := by
  rw [stepOk_two, if_neg (by decide +kernel), if_pos rfl]
  exact within_yes h0 h1
theorem ok_neg {inp num : Int} {i : Int} (h0 : 0 ≤ i) (h1 : i ≤ num - 1) : stepOk inp num (.tuple [.str (Str.ofString "neg"), .int i]) = true := by
  rw [stepOk_two, if_neg (by decide +kernel), if_neg (by decide +kernel), if_pos rfl]
  exact within_yes h0 h1
theorem ok_two {inp num : Int} {x : Str} {i j : Int} (hx : x = Str.ofString "+" ∨ x = Str.ofString "-" ∨ x = Str.ofString "*") (h0 : 0 ≤ i) (h1 : i ≤ num - 1) (j0 : 0 ≤ j) (j1 : j ≤ num - 1) : stepOk inp num (.tuple [.str x, .int i, .int j]) = true := by
  show ((decide (x = (Str.ofString "+")) || decide (x = (Str.ofString "-")) || decide (x = (Str.ofString "*"))) && ((decide (0 ≤ i) && decide (i ≤ num - 1)) && (decide (0 ≤ j) && decide (j ≤ num - 1)))) = true
  rw [decide_eq_true h0, decide_eq_true h1, decide_eq_true j0, decide_eq_true j1]
  rcases hx with rfl | rfl | rfl <;> decide +kernel
section
variable {P : Program} {w : World} {K : PySem.W.Frag} {mg : Str → Option Value} {base : Heap} {f : Addr} {cdv : Value} {Ar : Around} {out : List Env} {s0 : Shared} {H0 : Hp} {E : XK}
/-- word = one(..) -/
def r0T : TS := fun Dn σ H => ∃ D B C cells inp Sa Sb Hs i xs ds ns, RA D B C cells inp Sa Sb Hs i xs ds ns σ H ∧ ∀ σ' H', RB D B C cells inp Sa Sb Hs i xs ds ns σ' H' → Dn.nx σ' H'
theorem r0 {fO fD : Addr} {fdO fdD : FuncData} (FO : On K mg fO fdO) (FD : Dr K mg fD fdD) (T : Bn mg) (hr : Room 2 (RX P w K mg base f cdv Ar out s0 H0 E).A) : PS (RX P w K mg base f cdv Ar out s0 H0 E) (stR 0) r0T := by
  have GO : FnOk P w K mg base CX0 2 fO fdO ["_law_deck_here", "_law_items"] spOne := ok_one FO.F FD.F FD.b FD.g T.int T.len
  refine ps_imp (ps_set (i := 7) scLRow.nd rfl (.inl rfl) (pe_call GO hr (by rfl) FO.g FO.F.kp FO.b .nil pass0 (pa_cons (pv 0) (pa_cons (pe_lst (pa_cons pe_str (pa_cons pe_str (pa_cons pe_str (pa_cons pe_str (pa_cons pe_str (pa_cons pe_str (pa_cons pe_str (pa_cons pe_str (pa_cons pe_str (pa_cons pe_str (pa_cons pe_str pa_nil)))))))))))) pa_nil)))) ?_
  rintro Dn σ H ⟨D, B, C, cells, inp, Sa, Sb, Hs, i, xs, ds, ns, ra, q⟩
  refine ⟨_, ra.s0, sz1 rfl, fun L nL => ?_⟩
  have s1 := same_upd (o := .lst [.str (Str.ofString "in"), .str (Str.ofString "in"), .str (Str.ofString "set"), .str (Str.ofString "neg"), .str (Str.ofString "+"), .str (Str.ofString "+"), .str (Str.ofString "-"), .str (Str.ofString "-"), .str (Str.ofString "*"), .str (Str.ofString "*"), .str (Str.ofString "*")]) nL
  refine ⟨D, B, C, cells, L, _, rfl, ra.dk.same s1, upd_same, ra.dk.neD nL, ra.dk.neB nL, by show 0 < 11; decide, by show 11 < 1073741824; decide, fun k v H2 hv dk2 f2 => ?_⟩
  obtain ⟨x, rfl, hx⟩ : ∃ x, v = .str x ∧ isW x := by
    match k, hv with
    | 0, hv => exact ⟨_, (Option.some.inj hv).symm, .inl (.inl rfl)⟩
    | 1, hv => exact ⟨_, (Option.some.inj hv).symm, .inl (.inl rfl)⟩
    | 2, hv => exact ⟨_, (Option.some.inj hv).symm, .inl (.inr (.inl rfl))⟩
    | 3, hv => exact ⟨_, (Option.some.inj hv).symm, .inl (.inr (.inr rfl))⟩
    | 4, hv => exact ⟨_, (Option.some.inj hv).symm, .inr (.inl rfl)⟩
    | 5, hv => exact ⟨_, (Option.some.inj hv).symm, .inr (.inl rfl)⟩
    | 6, hv => exact ⟨_, (Option.some.inj hv).symm, .inr (.inr (.inl rfl))⟩
    | 7, hv => exact ⟨_, (Option.some.inj hv).symm, .inr (.inr (.inl rfl))⟩
    | 8, hv => exact ⟨_, (Option.some.inj hv).symm, .inr (.inr (.inr rfl))⟩
    | 9, hv => exact ⟨_, (Option.some.inj hv).symm, .inr (.inr (.inr rfl))⟩
    | 10, hv => exact ⟨_, (Option.some.inj hv).symm, .inr (.inr (.inr rfl))⟩
    | k + 11, hv => cases hv
  exact q _ H2 ((ra.go dk2 ((Fr.of_same s1).trans f2)).word hx)
/-- if number < inputs and draw(4) > 0: word = "in" -/
def r1T : TS := fun Dn σ H => ∃ D B C cells inp Sa Sb Hs i xs ds ns, RB D B C cells inp Sa Sb Hs i xs ds ns σ H ∧ ∀ σ' H', RB D B C cells inp Sa Sb Hs i xs ds ns σ' H' → Dn.nx σ' H'
theorem r1 {fD : Addr} {fdD : FuncData} (FD : Dr K mg fD fdD) (T : Bn mg) (hr : Room 2 (RX P w K mg base f cdv Ar out s0 H0 E).A) : PS (RX P w K mg base f cdv Ar out s0 H0 E) (stR 1) r1T := by
  have GD : FnOk P w K mg base CX0 1 fD fdD ["_law_deck_here", "_law_many"] spDraw := ok_draw FD.F T.int T.len
  refine ps_imp (ps_if (PW.pt (pw_and (pt_cmpR op_lt (pv 6) (pv 1) (nomark _)) (pw_and1 (pt_cmpR op_gt (pe_call GD (hr.mono (by decide)) (by rfl) FD.g FD.F.kp FD.b .nil pass0 (pa_cons (pv 0) (pa_cons pe_int pa_nil))) pe_int (nomark _))))) (pss_one (ps_set (i := 7) scLRow.nd rfl (.inl rfl) pe_str)) pss_nil) ?_
  rintro Dn σ H ⟨D, B, C, cells, inp, Sa, Sb, Hs, i, xs, ds, ns, rb, q⟩
  refine ⟨_, rb.s6, _, rb.s1, _, _, rfl, rfl, _, rfl, ite2 (fun _ => ?_) (fun _ => iteF (q _ _ rb))⟩
  refine ⟨_, rb.s0, D, B, C, cells, 4, rfl, rb.dk, by decide, by decide, fun j H1 j0 j1 dk1 f1 => ⟨_, _, rfl, rfl, _, rfl, ite2 (fun _ => ?_) (fun _ => q _ _ (rb.go dk1 f1))⟩⟩
  exact q _ _ ((rb.toRA.go dk1 f1).word (.inl (.inl rfl)))
/-- step = ("set", draw(9) - 4) -/
def r2T : TS := fun Dn σ H => ∃ D B C cells inp Sa Sb Hs i xs ds ns, RB D B C cells inp Sa Sb Hs i xs ds ns σ H ∧ ∀ σ' H', RC D B C cells inp Sa Sb Hs i xs ds ns σ' H' → Dn.nx σ' H'
theorem r2 {fD : Addr} {fdD : FuncData} (FD : Dr K mg fD fdD) (T : Bn mg) (hr : Room 2 (RX P w K mg base f cdv Ar out s0 H0 E).A) : PS (RX P w K mg base f cdv Ar out s0 H0 E) (stR 2) r2T := by
  have GD : FnOk P w K mg base CX0 1 fD fdD ["_law_deck_here", "_law_many"] spDraw := ok_draw FD.F T.int T.len
  refine ps_imp (ps_set (i := 8) scLRow.nd rfl (.inl rfl) (pe_tup (pa_cons pe_str (pa_cons (pe_op op_sub (pe_call GD (hr.mono (by decide)) (by rfl) FD.g FD.F.kp FD.b .nil pass0 (pa_cons (pv 0) (pa_cons pe_int pa_nil))) pe_int) pa_nil)))) ?_
  rintro Dn σ H ⟨D, B, C, cells, inp, Sa, Sb, Hs, i, xs, ds, ns, rb, q⟩
  refine ⟨_, rb.s0, D, B, C, cells, 9, rfl, rb.dk, by decide, by decide, fun j H1 j0 j1 dk1 f1 => ⟨_, _, rfl, rfl, sz1 rfl, fun t nt => ?_⟩⟩
  have s2 := same_upd (o := .tup [.str (Str.ofString "set"), .int (j - 4)]) nt
  have eM : (M20 : Int) = 100000000000000000000 := by decide
  exact q _ _ ((rb.go (dk1.same s2) (f1.trans (Fr.of_same s2))).step (.tup upd_same (.cons (.str _) (.cons (.int _) .nil))) (ok_set (by rw [eM]; omega) (by rw [eM]; omega)) (plain2 (.inl (.inr (.inl rfl))) (by omega)))
/-- if word == "in" and inputs > 0: step = .. -/
def r3T : TS := fun Dn σ H => ∃ D B C cells inp Sa Sb Hs i xs ds ns, RC D B C cells inp Sa Sb Hs i xs ds ns σ H ∧ ∀ σ' H', RC D B C cells inp Sa Sb Hs i xs ds ns σ' H' → Dn.nx σ' H'
theorem r3 {fD : Addr} {fdD : FuncData} (FD : Dr K mg fD fdD) (T : Bn mg) (hr : Room 2 (RX P w K mg base f cdv Ar out s0 H0 E).A) : PS (RX P w K mg base f cdv Ar out s0 H0 E) (stR 3) r3T := by
  have GD : FnOk P w K mg base CX0 1 fD fdD ["_law_deck_here", "_law_many"] spDraw := ok_draw FD.F T.int T.len
  refine ps_imp (ps_if (PW.pt (pw_and (pt_cmpR op_eq (pv 7) pe_str (nomark _)) (pw_and1 (pt_cmpR op_gt (pv 1) pe_int (nomark _))))) (pss_one (ps_set (i := 8) scLRow.nd rfl (.inl rfl) (pe_tup (pa_cons pe_str (pa_cons (pe_ifExp (pt_cmpR op_lt (pv 6) (pv 1) (nomark _)) (pv 6) (pe_call GD (hr.mono (by decide)) (by rfl) FD.g FD.F.kp FD.b .nil pass0 (pa_cons (pv 0) (pa_cons (pv 1) pa_nil)))) pa_nil))))) pss_nil) ?_
  rintro Dn σ H ⟨D, B, C, cells, inp, Sa, Sb, Hs, i, xs, ds, ns, rc, q⟩
  obtain ⟨x, hx, hw⟩ := rc.s7
  have c8 := rc.c8
  refine ⟨_, hx, rfl, _, rfl, ite2 (fun _ => ?_) (fun _ => iteF (q _ _ rc))⟩
  refine ⟨_, rc.s1, _, _, rfl, rfl, _, rfl, ite2 (fun c => ?_) (fun _ => q _ _ rc)⟩
  have c0 : (0 : Int) < (inp : Int) := of_decide_eq_true c
  refine ⟨_, rc.s6, _, rc.s1, _, _, rfl, rfl, _, rfl, ite2 (fun c2 => ⟨_, rc.s6, sz1 rfl, fun t nt => ?_⟩) (fun c2 => ⟨_, rc.s0, _, rc.s1, D, B, C, cells, _, rfl, rc.dk, c0, by omega, fun j H1 j0 j1 dk1 f1 => ⟨sz1 rfl, fun t nt => ?_⟩⟩)⟩
  · have c3 : ((i : Nat) : Int) < (inp : Int) := of_decide_eq_true c2
    have s2 := same_upd (o := .tup [.str (Str.ofString "in"), .int ((i : Nat) : Int)]) nt
    exact q _ _ ((rc.toRB.go (rc.dk.same s2) (Fr.of_same s2)).step (.tup upd_same (.cons (.str _) (.cons (.int _) .nil))) (ok_in (by omega) (by omega)) (plain2 (.inl (.inl rfl)) (by omega)))
  · have s2 := same_upd (o := .tup [.str (Str.ofString "in"), .int j]) nt
    exact q _ _ ((rc.toRB.go (dk1.same s2) (f1.trans (Fr.of_same s2))).step (.tup upd_same (.cons (.str _) (.cons (.int _) .nil))) (ok_in (by omega) (by omega)) (plain2 (.inl (.inl rfl)) (by omega)))
/-- if word == "neg" and number > 0: step = .. -/
theorem r4 {fD : Addr} {fdD : FuncData} (FD : Dr K mg fD fdD) (T : Bn mg) (hr : Room 2 (RX P w K mg base f cdv Ar out s0 H0 E).A) : PS (RX P w K mg base f cdv Ar out s0 H0 E) (stR 4) r3T := by
  have GD : FnOk P w K mg base CX0 1 fD fdD ["_law_deck_here", "_law_many"] spDraw := ok_draw FD.F T.int T.len
  refine ps_imp (ps_if (PW.pt (pw_and (pt_cmpR op_eq (pv 7) pe_str (nomark _)) (pw_and1 (pt_cmpR op_gt (pv 6) pe_int (nomark _))))) (pss_one (ps_set (i := 8) scLRow.nd rfl (.inl rfl) (pe_tup (pa_cons pe_str (pa_cons (pe_call GD (hr.mono (by decide)) (by rfl) FD.g FD.F.kp FD.b .nil pass0 (pa_cons (pv 0) (pa_cons (pv 6) pa_nil))) pa_nil))))) pss_nil) ?_
  rintro Dn σ H ⟨D, B, C, cells, inp, Sa, Sb, Hs, i, xs, ds, ns, rc, q⟩
  obtain ⟨x, hx, hw⟩ := rc.s7
  have c60 := rc.c60
  refine ⟨_, hx, rfl, _, rfl, ite2 (fun _ => ?_) (fun _ => iteF (q _ _ rc))⟩
  refine ⟨_, rc.s6, _, _, rfl, rfl, _, rfl, ite2 (fun c => ?_) (fun _ => q _ _ rc)⟩
  have c0 : (0 : Int) < ((i : Nat) : Int) := of_decide_eq_true c
  refine ⟨_, rc.s0, _, rc.s6, D, B, C, cells, _, rfl, rc.dk, c0, by omega, fun j H1 j0 j1 dk1 f1 => ⟨sz1 rfl, fun t nt => ?_⟩⟩
  have s2 := same_upd (o := .tup [.str (Str.ofString "neg"), .int j]) nt
  exact q _ _ ((rc.toRB.go (dk1.same s2) (f1.trans (Fr.of_same s2))).step (.tup upd_same (.cons (.str _) (.cons (.int _) .nil))) (ok_neg (by omega) (by omega)) (plain2 (.inl (.inr (.inr rfl))) (by omega)))
/-- if word in ("+", "-", "*") and number > 0: step = .. -/
theorem r5 {fD : Addr} {fdD : FuncData} (FD : Dr K mg fD fdD) (T : Bn mg) (hr : Room 2 (RX P w K mg base f cdv Ar out s0 H0 E).A) : PS (RX P w K mg base f cdv Ar out s0 H0 E) (stR 5) r3T := by
  have GD : FnOk P w K mg base CX0 1 fD fdD ["_law_deck_here", "_law_many"] spDraw := ok_draw FD.F T.int T.len
  refine ps_imp (ps_if (PW.pt (pw_and (pt_cmpR op_in_seq (pv 7) (pe_tup (pa_cons pe_str (pa_cons pe_str (pa_cons pe_str pa_nil)))) (by rfl)) (pw_and1 (pt_cmpR op_gt (pv 6) pe_int (nomark _))))) (pss_one (ps_set (i := 8) scLRow.nd rfl (.inl rfl) (pe_tup (pa_cons (pv 7) (pa_cons (pe_call GD (hr.mono (by decide)) (by rfl) FD.g FD.F.kp FD.b .nil pass0 (pa_cons (pv 0) (pa_cons (pv 6) pa_nil)))
      (pa_cons (pe_op op_sub (pe_op op_sub (pv 6) pe_int) (pe_call GD (hr.mono (by decide)) (by rfl) FD.g FD.F.kp FD.b .nil pass0 (pa_cons (pv 0) (pa_cons (pe_callB (call_min2 rfl) (by rfl) T.min boot_min' (pa_cons (pv 6) (pa_cons pe_int pa_nil))) pa_nil)))) pa_nil)))))) pss_nil) ?_
  rintro Dn σ H ⟨D, B, C, cells, inp, Sa, Sb, Hs, i, xs, ds, ns, rc, q⟩
  obtain ⟨x, hx, hw⟩ := rc.s7
  have c60 := rc.c60
  refine ⟨_, hx, sz1 rfl, fun p np => ?_⟩
  have s1 := same_upd (o := .tup [.str (Str.ofString "+"), .str (Str.ofString "-"), .str (Str.ofString "*")]) np
  have rc1 := rc.toRB.go (rc.dk.same s1) (Fr.of_same s1)
  obtain ⟨v8, d8, g8, q8, ok8, p8⟩ := rc.s8
  have rcS : RC D B C cells inp Sa Sb Hs i xs ds ns σ (upd H p (.tup [.str (Str.ofString "+"), .str (Str.ofString "-"), .str (Str.ofString "*")])) := ⟨rc1, v8, d8, g8, q8.same s1, ok8, p8⟩
  refine ⟨p, _, rfl, .inr (SqT.of upd_same), rfl, rfl, _, rfl, ?_⟩
  rw [if_neg Bool.false_ne_true, inV3]
  cases hc : (decide (x = Str.ofString "+") || decide (x = Str.ofString "-") || decide (x = Str.ofString "*")) with
  | false => exact iteF (iteF (q _ _ rcS))
  | true =>
    have hx3 : x = Str.ofString "+" ∨ x = Str.ofString "-" ∨ x = Str.ofString "*" := by
      rw [Bool.or_eq_true, Bool.or_eq_true] at hc
      rcases hc with (h | h) | h
      · exact .inl (of_decide_eq_true h)
      · exact .inr (.inl (of_decide_eq_true h))
      · exact .inr (.inr (of_decide_eq_true h))
    refine iteT ⟨_, rc.s6, _, _, rfl, rfl, _, rfl, ite2 (fun c => ?_) (fun _ => q _ _ rcS)⟩
    have c0 : (0 : Int) < ((i : Nat) : Int) := of_decide_eq_true c
    refine ⟨_, hx, _, rc.s0, _, rc.s6, D, B, C, cells, _, rfl, rc1.dk, c0, by omega, fun j H1 j0 j1 dk1 f1 => ?_⟩
    refine ⟨_, rc.s6, _, _, rfl, rfl, _, rc.s0, _, rc.s6, _, _, rfl, D, B, C, cells, _, rfl, dk1, ?_, ?_, fun k H2 k0 k1 dk2 f2 => ⟨_, _, rfl, rfl, sz1 rfl, fun t nt => ?_⟩⟩
    · split <;> omega
    · split <;> omega
    · have k2 : k < ((i : Nat) : Int) := by
        split at k1 <;> omega
      have s3 := same_upd (o := .tup [.str x, .int j, .int (((i : Nat) : Int) - 1 - k)]) nt
      exact q _ _ ((rc1.go (dk2.same s3) ((f1.trans f2).trans (Fr.of_same s3))).step (.tup upd_same (.cons (.str _) (.cons (.int _) (.cons (.int _) .nil)))) (ok_two hx3 (by omega) (by omega) (by omega) (by omega)) (plain3 hw (by omega) (by omega)))
end
end Jg
namespace Jg
open PySem PySem.Spec PyProof.Rows L2
/-! ### the law's rows: all steps -/
theorem fnd_le {ns : List Int} (h : ∀ n ∈ ns, n ≤ 64) (i : Int) : fnd ns i ≤ 64 := by
  show ns.getD i.toNat 0 ≤ 64
  rw [List.getD_eq_getElem?_getD]
  cases hq : ns[i.toNat]? with
  | none => decide
  | some x => exact h x (List.mem_of_getElem? hq)
/-- only a product is too great -/
theorem big_is {inp num : Int} {ns : List Int} {d : PyData} (ok : stepOk inp num d = true) (h : ∀ n ∈ ns, n ≤ 64) (big : szD ns d > 64) : ∃ i j : Int, d = .tuple [.str (Str.ofString "*"), .int i, .int j] ∧ 0 ≤ i ∧ i ≤ num - 1 ∧ 0 ≤ j ∧ j ≤ num - 1 := by
  rcases stepOk_is ok with ⟨x, i, rfl, hx⟩ | ⟨i, rfl, i0, i1⟩ | ⟨x, i, j, rfl, hx, i0, i1, j0, j1⟩
  · exfalso
    rw [show szD ns (.tuple [.str x, .int i]) = 1 from if_pos hx] at big
    omega
  · exfalso
    rw [szD_neg (by decide +kernel) (by decide +kernel)] at big
    have := fnd_le h i
    omega
  · refine ⟨i, j, ?_, i0, i1, j0, j1⟩
    by_cases c : x = Str.ofString "*"
    · rw [c]
    · exfalso
      rw [show szD ns (.tuple [.str x, .int i, .int j]) = (if fnd ns j > fnd ns i then fnd ns j else fnd ns i) from if_neg c] at big
      have a1 := fnd_le h i
      have a2 := fnd_le h j
      split at big <;> omega
theorem plus_small {ns : List Int} (h : ∀ n ∈ ns, n ≤ 64) (i j : Int) : szD ns (.tuple [.str (Str.ofString "+"), .int i, .int j]) ≤ 64 := by
  have hp : ¬ Str.ofString "+" = Str.ofString "*" := by decide +kernel
  have e : szD ns (.tuple [.str (Str.ofString "+"), .int i, .int j]) = if Str.ofString "+" = Str.ofString "*" then fnd ns i + fnd ns j else if fnd ns j > fnd ns i then fnd ns j else fnd ns i := rfl
  rw [e, if_neg hp]
  have a1 := fnd_le h i
  have a2 := fnd_le h j
  split <;> omega
/-- the state ahead of a turn -/
structure RZ (D B C : Addr) (cells : List Int) (inp : Nat) (Sa Sb : Addr) (Hs : Hp) (i : Nat) (xs : List V) (ds : List PyData) (ns : List Int) (σ : L2.St) (H : Hp) : Prop where
  len : σ.length = 11
  s0 : σ[0]? = some (some (.ref D))
  s1 : σ[1]? = some (some (.int (inp : Int)))
  s3 : σ[3]? = some (some (.int 64))
  s4 : σ[4]? = some (some (.ref Sa))
  s5 : σ[5]? = some (some (.ref Sb))
  dk : DeckAt D B C cells H
  e1 : H Sa = some (.lst xs)
  e2 : H Sb = some (.lst (ns.map V.int))
  n12 : Sa ≠ Sb
  n1 : Sa ≠ D ∧ Sa ≠ B ∧ Sa ≠ C
  n2 : Sb ≠ D ∧ Sb ≠ B ∧ Sb ≠ C
  dq : DqAll D B H xs ds
  pl : ∀ d ∈ ds, Plain 2 d
  dl : ds.length = i
  nl : ns.length = i
  n64 : ∀ n ∈ ns, n ≤ 64
  fr : Fr D B Hs H
  m1 : Hs Sa = none
  m2 : Hs Sb = none
  c8 : inp ≤ 8
theorem RZ.ra {D B C : Addr} {cells : List Int} {inp : Nat} {Sa Sb : Addr} {Hs : Hp} {i : Nat} {xs : List V} {ds : List PyData} {ns : List Int} {σ : L2.St} {H : Hp} (r : RZ D B C cells inp Sa Sb Hs i xs ds ns σ H) (c60 : i < 60) : RA D B C cells inp Sa Sb Hs i xs ds ns (σ.set 6 (some (.int (i : Int)))) H :=
  ⟨by rw [List.length_set]; exact r.len, by rw [get_set_ne (by omega)]; exact r.s0, by rw [get_set_ne (by omega)]; exact r.s1, by rw [get_set_ne (by omega)]; exact r.s3, by rw [get_set_ne (by omega)]; exact r.s4, by rw [get_set_ne (by omega)]; exact r.s5, get_set_eq (by rw [r.len]; decide),
   r.dk, r.e1, r.e2, r.n12, r.n1, r.n2, r.dq, r.pl, r.dl, r.nl, r.n64, r.fr, r.m1, r.m2, r.c8, c60⟩
section
variable {P : Program} {w : World} {K : PySem.W.Frag} {mg : Str → Option Value} {base : Heap} {f : Addr} {cdv : Value} {Ar : Around} {out : List Env} {s0 : Shared} {H0 : Hp} {E : XK}
/-- if size(step, found) > most: step = ("+",) + step[1:] -/
def r6T : TS := fun Dn σ H => ∃ D B C cells inp Sa Sb Hs i xs ds ns, RC D B C cells inp Sa Sb Hs i xs ds ns σ H ∧ ∀ v d σ' H', RD D B C cells inp Sa Sb Hs i xs ds ns v d σ' H' → Dn.nx σ' H'
theorem r6 {fZ : Addr} {fdZ : FuncData} (FZ : Nm K mg "_law_size" sSize ["_law_step", "_law_found"] fZ fdZ) (T : Bn mg) (hr : Room 2 (RX P w K mg base f cdv Ar out s0 H0 E).A) : PS (RX P w K mg base f cdv Ar out s0 H0 E) (stR 6) r6T := by
  have GZ : FnOk P w K mg base CX0 1 fZ fdZ ["_law_step", "_law_found"] spSize := ok_lsize FZ.F T
  refine ps_imp (ps_if (pt_cmpR op_gt (pe_call GZ (hr.mono (by decide)) (by rfl) FZ.g FZ.F.kp FZ.b .nil pass0 (pa_cons (pv 8) (pa_cons (pv 5) pa_nil))) (pv 3) (nomark _)) (pss_one (ps_set (i := 8) scLRow.nd rfl (.inl rfl) (pe_op op_catA (pe_tup (pa_cons pe_str pa_nil)) (pe_slice sl_tupA (pv 8) (po_some pe_int) po_none)))) pss_nil) ?_
  rintro Dn σ H ⟨D, B, C, cells, inp, Sa, Sb, Hs, i, xs, ds, ns, rc, q⟩
  obtain ⟨v, d, g8, qd, ok, pd⟩ := rc.s8
  have c60 := rc.c60
  have okn : stepOk (inp : Int) ((ns.length : Nat) : Int) d = true := by
    rw [rc.nl]
    exact ok
  refine ⟨_, g8, _, rc.s5, D, B, Sb, v, d, (inp : Int), ns, rfl, qd, okn, rc.e2, fun H1 s1 => ?_⟩
  have ra1 := rc.toRA.go (rc.dk.same s1) (Fr.of_same s1)
  refine ⟨_, rc.s3, _, _, rfl, rfl, _, rfl, ite2 (fun c => ?_) (fun c => ?_)⟩
  · obtain ⟨a, b, rfl, a0, a1, b0, b1⟩ := big_is okn rc.n64 (of_decide_eq_true c)
    rw [rc.nl] at a1 b1
    obtain ⟨t, ys, rfl, e, ha⟩ := qd.tupE
    cases ha with
    | @cons y1 _ _ _ h1 hr1 =>
    obtain ⟨y2, y3, rfl, h2, h3⟩ := dq_two hr1
    cases h2.intE
    cases h3.intE
    refine ⟨sz1 rfl, fun p np => ⟨_, g8, _, rfl, ?_⟩⟩
    have s2 := same_upd (o := .tup [.str (Str.ofString "+")]) np
    dsimp only [tNoPart]
    refine sl_read (s2 _ _ (s1 _ _ e)) fun c3 H3 s3 e3 => ?_
    have e3' : H3 c3 = some (.tup [.int a, .int b]) := e3.trans (congrArg (fun z => some (HO.tup z)) (cutV_from _ 1))
    refine cat_read (s3 _ _ upd_same) e3' (by show 1 + 2 ≤ 1000; decide) fun c4 H4 s4 e4 => ?_
    have s14 := (s2.trans s3).trans s4
    refine q (.ref c4) (.tuple [.str (Str.ofString "+"), .int a, .int b]) _ H4 ⟨(ra1.go (ra1.dk.same s14) (Fr.of_same s14)).set (by decide), get_set_eq (by rw [rc.len]; decide), .tup e4 (.cons (.str _) (.cons (.int _) (.cons (.int _) .nil))), ok_two (.inl rfl) a0 a1 b0 b1, plain3 (.inr (.inl rfl)) (by omega) (by omega), plus_small rc.n64 a b⟩
  · exact q v d _ H1 ⟨ra1, g8, qd.same s1, ok, pd, Int.not_lt.mp fun z => c (decide_eq_true z)⟩
/-- steps.append(step); found.append(size(step, found)) -/
def r7T : TS := fun Dn σ H => ∃ D B C cells inp Sa Sb Hs i xs ds ns v d, RD D B C cells inp Sa Sb Hs i xs ds ns v d σ H ∧ ∀ H', RZ D B C cells inp Sa Sb Hs (i + 1) (xs ++ [v]) (ds ++ [d]) (ns ++ [szD ns d]) σ H' → Dn.nx σ H'
theorem r7 {fZ : Addr} {fdZ : FuncData} (FZ : Nm K mg "_law_size" sSize ["_law_step", "_law_found"] fZ fdZ) (T : Bn mg) (hr : Room 2 (RX P w K mg base f cdv Ar out s0 H0 E).A) : ∃ t, PSs (RX P w K mg base f cdv Ar out s0 H0 E) [stR 7, stR 8] t ∧ ∀ Dn σ H, r7T Dn σ H → t Dn σ H := by
  have GZ : FnOk P w K mg base CX0 1 fZ fdZ ["_law_step", "_law_found"] spSize := ok_lsize FZ.F T
  refine ⟨_, pss_cons (ps_expr (pe_bm PySem.F.plainAttrs_list PySem.F.slot_list_append PySem.F.type_list_append mt_append (pv 4) (pa_cons (pv 8) pa_nil)))
    (pss_one (ps_expr (pe_bm PySem.F.plainAttrs_list PySem.F.slot_list_append PySem.F.type_list_append mt_append (pv 5) (pa_cons (pe_call GZ (hr.mono (by decide)) (by rfl) FZ.g FZ.F.kp FZ.b .nil pass0 (pa_cons (pv 8) (pa_cons (pv 5) pa_nil))) pa_nil)))), ?_⟩
  rintro Dn σ H ⟨D, B, C, cells, inp, Sa, Sb, Hs, i, xs, ds, ns, v, d, rd, q⟩
  have c60 := rd.c60
  have hxl := rd.dq.len
  have hdl := rd.dl
  refine ⟨_, rd.s4, .inl ⟨rfl, _, SqL.of rd.e1⟩, _, rd.s8, Sa, _, _, rfl, rfl, rd.e1, small1000 (by omega), ?_⟩
  have fa : ∀ b o, b ≠ Sa → H b = some o → (upd H Sa (.lst (xs ++ [v]))) b = some o := fun b o hb h => by
    rw [upd_ne hb]
    exact h
  have e2a : (upd H Sa (.lst (xs ++ [v]))) Sb = some (.lst (ns.map V.int)) := fa _ _ rd.n12.symm rd.e2
  have qda := plain_keep rd.e1 fa 2 d v rd.pd rd.qd
  have dqa := plain_keepAll rd.e1 fa rd.pl rd.dq
  have dka := rd.dk.but fa rd.n1.1.symm rd.n1.2.1.symm rd.n1.2.2.symm
  have okn : stepOk (inp : Int) ((ns.length : Nat) : Int) d = true := by
    rw [rd.nl]
    exact rd.ok
  refine ⟨_, rd.s5, .inl ⟨rfl, _, SqL.of e2a⟩, _, rd.s8, _, rd.s5, D, B, Sb, v, d, (inp : Int), ns, rfl, qda, okn, e2a, fun H5 s5 => ⟨Sb, _, _, rfl, rfl, s5 _ _ e2a, ?_, ?_⟩⟩
  · rw [List.length_map, rd.nl]
    exact small1000 (by omega)
  · have e25 := s5 _ _ e2a
    have fb : ∀ b o, b ≠ Sb → H5 b = some o → (upd H5 Sb (.lst (ns.map V.int ++ [.int (szD ns d)]))) b = some o := fun b o hb h => by
      rw [upd_ne hb]
      exact h
    have pall : ∀ x ∈ ds ++ [d], Plain 2 x := fun x hx => by
      rcases List.mem_append.mp hx with hx | hx
      · exact rd.pl x hx
      · rw [List.mem_singleton.mp hx]
        exact rd.pd
    refine q _ ⟨rd.len, rd.s0, rd.s1, rd.s3, rd.s4, rd.s5, (dka.same s5).but fb rd.n2.1.symm rd.n2.2.1.symm rd.n2.2.2.symm, fb _ _ rd.n12 (s5 _ _ upd_same), ?_, rd.n12, rd.n1, rd.n2, ?_, pall, by rw [List.length_append, rd.dl]; rfl, by rw [List.length_append, rd.nl]; rfl, fun n hn => ?_, ?_, rd.m1, rd.m2, rd.c8⟩
    · rw [upd_same, List.map_append]
      rfl
    · exact plain_keepAll e25 fb pall (DqAll.append (.cons (qda.same s5) .nil) (dqa.same s5))
    · rcases List.mem_append.mp hn with hn | hn
      · exact rd.n64 n hn
      · rw [List.mem_singleton.mp hn]
        exact rd.z64
    · intro b o h1 h2 h3
      have b1 : b ≠ Sa := fun z => by
        rw [z, rd.m1] at h3
        cases h3
      have b2 : b ≠ Sb := fun z => by
        rw [z, rd.m2] at h3
        cases h3
      exact fb _ _ b2 (s5 _ _ (fa _ _ b1 (rd.fr _ _ h1 h2 h3)))
end
end Jg
namespace Jg
open PySem PySem.Spec PyProof.Rows L2
/-! ### the law's rows -/
def rowD (inp : Nat) (ds es : List PyData) : PyData := .tuple [.int (inp : Int), .tuple ds, .tuple es]
structure Drawn (inp : Nat) (ds es : List PyData) : Prop where
  c8 : inp ≤ 8
  d1 : 1 ≤ ds.length
  d60 : ds.length ≤ 60
  pl : ∀ d ∈ ds, Plain 2 d
  e1 : 1 ≤ es.length
  e3 : es.length ≤ 3
  el : ∀ e ∈ es, ∃ j : Int, e = .int j ∧ 0 ≤ j ∧ j < 60
theorem dqAll_intsC {D B : Addr} {H : Hp} : ∀ ns : List Int, DqAll D B H (ns.map V.int) (ns.map PyData.int)
  | [] => .nil
  | n :: ns => .cons (.int n) (dqAll_intsC ns)
section
variable {P : Program} {w : World} {K : PySem.W.Frag} {mg : Str → Option Value} {base : Heap}
def spLRow : Sp := fun vs H Q _ => ∃ (D B C : Addr) (cells : List Int) (inp : Nat) (m : Int), vs = [.ref D, .int (inp : Int), .int m, .int 64] ∧ DeckAt D B C cells H ∧ inp ≤ 8 ∧ 0 < m ∧ m ≤ 60 ∧
  ∀ v ds es H', Drawn inp ds es → Dq D B H' v (rowD inp ds es) → DeckAt D B C cells H' → Fr D B H H' → Q v H'
set_option maxHeartbeats 4000000 in
theorem ok_lrow {f fO fD fZ : Addr} {fd fdO fdD fdZ : FuncData} (F : Nm K mg "_law_row" sLRow ["_law_deck_here", "_law_inputs", "_law_many", "_law_most"] f fd) (FO : On K mg fO fdO) (FD : Dr K mg fD fdD) (FZ : Nm K mg "_law_size" sSize ["_law_step", "_law_found"] fZ fdZ) (T : Bn mg) :
    FnOk P w K mg base CX0 3 f fd ["_law_deck_here", "_law_inputs", "_law_many", "_law_most"] spLRow := by
  have GD : FnOk P w K mg base CX0 1 fD fdD ["_law_deck_here", "_law_many"] spDraw := ok_draw FD.F T.int T.len
  refine F.F.ok scLRow (fun vs H Q E h => ?_) (fun cdv A outer s H vs Q E hr h => ?_)
  · obtain ⟨D, B, C, cells, inp, m, rfl, _⟩ := h
    rfl
  · obtain ⟨D, B, C, cells, inp, m, rfl, dk, c8, m0, m1, q⟩ := h
    have hr1 : Room 1 _ := hr.mono (by decide)
    obtain ⟨t7, h7, k7⟩ := r7 (P := P) (w := w) (base := base) (f := f) (cdv := cdv) (Ar := A) (out := outer) (s0 := s) (H0 := H) (E := E) FZ T hr
    refine ⟨_, pss_cons (ps_asg (pe_tup (pa_cons (pe_lst pa_nil) (pa_cons (pe_lst pa_nil) pa_nil))) (pg_tup rfl (pgs_cons (pg_name (i := 4) scLRow.nd rfl (.inr rfl)) (pgs_cons (pg_name (i := 5) scLRow.nd rfl (.inl rfl)) pgs_nil))))
      (pss_cons (ps_for PassesOwn.never rfl (pi_range1 rfl T.rng (pa_cons (pe_op op_add pe_int (pe_call GD hr1 (by rfl) FD.g FD.F.kp FD.b .nil pass0 (pa_cons (pv 0) (pa_cons (pv 2) pa_nil)))) pa_nil)) (pg_name (i := 6) scLRow.nd rfl (.inl rfl))
        (pss_cons (r0 FO FD T hr) (pss_cons (r1 FD T hr) (pss_cons (r2 FD T hr) (pss_cons (r3 FD T hr) (pss_cons (r4 FD T hr) (pss_cons (r5 FD T hr) (pss_cons (r6 FZ T hr) h7))))))))
      (pss_cons (ps_set (i := 9) scLRow.nd rfl (.inl rfl) (pe_op op_cat (pe_lst (pa_cons (pe_op op_sub (pe_callB call_len_seq (by rfl) T.len PySem.boot_len (pa_cons (pv 4) pa_nil)) pe_int) pa_nil))
        (pe_lc (own := [("_law_k", 10)]) (g := gName 10) (tt := tYes) rfl scLRow.nd (pi_range1 rfl T.rng (pa_cons (pe_call GD hr1 (by rfl) FD.g FD.F.kp FD.b .nil pass0 (pa_cons (pv 0) (pa_cons pe_int pa_nil))) pa_nil)) (blkOk_by (N := nLRow) (sc := defScope sLRow) (by decide +kernel))
          (fun _ _ _ _ _ => pg_name (i := 10) scLRow.nd rfl (.inl rfl)) (fun _ _ _ _ _ => pts_nil) (fun _ _ _ _ _ => pe_call GD hr1 (by rfl) FD.g FD.F.kp FD.b .nil pass0 (pa_cons (pv 0) (pa_cons (pe_callB (call_lenK (K := K) rfl) (by rfl) T.len PySem.boot_len (pa_cons (pv 4) pa_nil)) pa_nil))))))
      (pss_one (ps_ret (pe_tup (pa_cons (pv 1) (pa_cons (pe_callTy call_tuple_of (by rfl) T.tup boot_tuple' (pa_cons (pv 4) pa_nil)) (pa_cons (pe_callTy call_tuple_of (by rfl) T.tup boot_tuple' (pa_cons (pv 9) pa_nil)) pa_nil)))))))), ?_⟩
    refine ⟨Nat.zero_le _, fun Sa nSa => ⟨Nat.zero_le _, fun Sb nSb => ⟨sz1 rfl, fun t nt => ?_⟩⟩⟩
    have sa := same_upd (o := .lst []) nSa
    have sb := same_upd (o := .lst []) nSb
    have st := same_upd (o := .tup [.ref Sa, .ref Sb]) nt
    have n12 : Sa ≠ Sb := fun z => by
      rw [← z, upd_same] at nSb
      cases nSb
    have hSb : H Sb = none := (upd_ne n12.symm).symm.trans nSb
    have dka := dk.same sa
    have dkt := (dka.same sb).same st
    refine ⟨t, _, rfl, SqT.of upd_same, rfl, .ref Sa, [.ref Sb], rfl, .ref Sb, [], rfl, rfl, ?_⟩
    refine ⟨_, rfl, _, rfl, D, B, C, cells, m, rfl, dkt, m0, by omega, fun j H4 j0 j1 dk4 f4 => ⟨_, _, rfl, rfl, _, rfl, by omega, by omega, for_range (n := (1 + j).toNat) (fun i σ H3 => ∃ xs ds ns, RZ D B C cells inp Sa Sb H i xs ds ns σ H3) ⟨[], [], [], ?_⟩ ?_ ?_⟩⟩
    · have nD := dk.neD nSa
      have nB := dk.neB nSa
      have nC := ne_of_none dk.cel nSa
      have mD := dk.neD hSb
      have mB := dk.neB hSb
      have mC := ne_of_none dk.cel hSb
      exact ⟨rfl, rfl, rfl, rfl, rfl, rfl, dk4, f4 _ _ nD nB (st _ _ (sb _ _ upd_same)), f4 _ _ mD mB (st _ _ upd_same), n12, ⟨nD, nB, mt Eq.symm nC⟩, ⟨mD, mB, mt Eq.symm mC⟩, .nil, (fun _ h => nomatch h), rfl, rfl, (fun _ h => nomatch h), (Fr.of_same (sa.trans (sb.trans st))).trans f4, nSa, hSb, c8⟩
    · rintro i σ H3 hi ⟨xs, ds, ns, rz⟩
      have z0 : (0 : Int) + ((i : Nat) : Int) = ((i : Nat) : Int) := Int.zero_add _
      rw [z0]
      refine ⟨D, B, C, cells, inp, Sa, Sb, H, i, xs, ds, ns, rz.ra (by omega), fun σ1 H1 rb1 => ⟨D, B, C, cells, inp, Sa, Sb, H, i, xs, ds, ns, rb1, fun σ2 H2 rb2 => ⟨D, B, C, cells, inp, Sa, Sb, H, i, xs, ds, ns, rb2, fun σ3 H3 rc3 => ⟨D, B, C, cells, inp, Sa, Sb, H, i, xs, ds, ns, rc3, fun σ4 H4 rc4 => ⟨D, B, C, cells, inp, Sa, Sb, H, i, xs, ds, ns, rc4, fun σ5 H5 rc5 => ⟨D, B, C, cells, inp, Sa, Sb, H, i, xs, ds, ns, rc5, fun σ6 H6 rc6 => ⟨D, B, C, cells, inp, Sa, Sb, H, i, xs, ds, ns, rc6, fun v d σ7 H7 rd7 => ?_⟩⟩⟩⟩⟩⟩⟩
      exact k7 _ _ _ ⟨D, B, C, cells, inp, Sa, Sb, H, i, xs, ds, ns, v, d, rd7, fun H8 rz8 => ⟨_, _, _, rz8⟩⟩
    · rintro σ H3 ⟨xs, ds, ns, rz⟩
      have hxl := rz.dq.len
      have hdl := rz.dl
      refine ⟨_, rz.s4, Sa, xs, rfl, .inl (SqL.of rz.e1), _, _, rfl, rfl, sz1 rfl, fun M nM => ?_⟩
      have sM := same_upd (o := .lst [.int (((xs.length : Nat) : Int) - 1)]) nM
      have dkM := rz.dk.same sM
      have MD := rz.dk.neD nM
      have MB := rz.dk.neB nM
      refine ⟨_, rz.s0, D, B, C, cells, 3, rfl, dkM, by decide, by decide, fun j2 H5 j20 j21 dk5 f5 => ⟨_, rfl, by omega, by omega, fun D1 nD1 => ?_⟩⟩
      have D1D := dk5.neD nD1
      have D1B := dk5.neB nD1
      have D1C := ne_of_none dk5.cel nD1
      have f35 := (Fr.of_same sM).trans f5
      have eS5 := f35 _ _ rz.n1.1 rz.n1.2.1 rz.e1
      have eM5 := f5 _ _ MD MB upd_same
      refine lc_range (lo := 0) (n := j2.toNat) (fun i H6 => ∃ es : List Int, H6 D1 = some (.lst (es.map V.int)) ∧ es.length = i ∧ (∀ e ∈ es, 0 ≤ e ∧ e < 60) ∧ DeckAt D B C cells H6 ∧ Fr D B H5 H6) ⟨[], upd_same, rfl, (fun _ h => nomatch h), dk5.same (same_upd nD1), Fr.of_same (same_upd nD1)⟩ ?_ ?_
      · rintro i H6 hi ⟨es, e6, hl, hes, dk6, f6⟩
        refine ⟨wipe1, tYes_if ⟨_, (w1_out (i := 10) (k := 0) (by decide)).trans rz.s0, _, (w1_out (i := 10) (k := 4) (by decide)).trans rz.s4, Sa, xs, rfl, .inl (SqL.of (f6 _ _ rz.n1.1 rz.n1.2.1 eS5)), D, B, C, cells, _, rfl, dk6, by omega, by omega, fun e H7 e0 e1 dk7 f7 => ⟨es.map V.int, f7 _ _ D1D D1B e6, ?_, es ++ [e], ?_, ?_, ?_, ?_, ?_⟩⟩⟩
        · rw [List.length_map, hl]
          exact small1000 (by omega)
        · rw [upd_same, List.map_append]
          rfl
        · rw [List.length_append, hl]
          rfl
        · intro z hz
          rcases List.mem_append.mp hz with hz | hz
          · exact hes z hz
          · rw [List.mem_singleton.mp hz]
            omega
        · exact dk7.but (fun b o hb h => by rw [upd_ne hb]; exact h) D1D.symm D1B.symm D1C
        · intro b o h1 h2 h3
          rw [upd_ne (ne_of_none h3 nD1)]
          exact f7 _ _ h1 h2 (f6 _ _ h1 h2 h3)
      · rintro H6 ⟨es, e6, hl, hes, dk6, f6⟩
        refine ⟨M, D1, _, _, rfl, rfl, f6 _ _ MD MB eM5, e6, Nat.le_of_lt (small1000 (by rw [List.length_map, hl]; show 1 + _ ≤ 1000; omega)), fun p1 n1 => ?_⟩
        have s7 := same_upd (o := .lst ([.int (((xs.length : Nat) : Int) - 1)] ++ es.map V.int)) n1
        have dk7 := dk6.same s7
        have eS7 := s7 _ _ (f6 _ _ rz.n1.1 rz.n1.2.1 eS5)
        have g1 : (σ.set 9 (some (.ref p1)))[1]? = some (some (.int (inp : Int))) := by
          rw [get_set_ne (by decide)]
          exact rz.s1
        have g4 : (σ.set 9 (some (.ref p1)))[4]? = some (some (.ref Sa)) := by
          rw [get_set_ne (by decide)]
          exact rz.s4
        have g9 : (σ.set 9 (some (.ref p1)))[9]? = some (some (.ref p1)) := get_set_eq (by rw [rz.len]; decide)
        refine ⟨_, g1, _, g4, Sa, xs, rfl, .inl ⟨SqL.of eS7, fun a na => ?_⟩⟩
        have s8 := same_upd (o := .tup xs) na
        refine ⟨_, g9, p1, _, rfl, .inl ⟨SqL.of (s8 _ _ upd_same), fun b nb => ⟨sz1 rfl, fun u nu => ?_⟩⟩⟩
        have s9 := same_upd (o := .tup ([.int (((xs.length : Nat) : Int) - 1)] ++ es.map V.int)) nb
        have s10 := same_upd (o := .tup [.int (inp : Int), .ref a, .ref b]) nu
        have s710 := s7.trans (s8.trans (s9.trans s10))
        have f610 := (f35.trans f6).trans (Fr.of_same s710)
        have ends : DqAll D B _ ([.int (((xs.length : Nat) : Int) - 1)] ++ es.map V.int) (((((xs.length : Nat) : Int) - 1) :: es).map PyData.int) := dqAll_intsC (H := upd (upd (upd (upd H6 p1 (.lst ([.int (((xs.length : Nat) : Int) - 1)] ++ es.map V.int))) a (.tup xs)) b (.tup ([.int (((xs.length : Nat) : Int) - 1)] ++ es.map V.int))) u (.tup [.int (inp : Int), .ref a, .ref b])) ((((xs.length : Nat) : Int) - 1) :: es)
        refine q (.ref u) ds _ _ ⟨c8, by omega, by omega, rz.pl, ?_, ?_, ?_⟩ (.tup upd_same (.cons (.int _) (.cons (.tup ((s9.trans s10) _ _ upd_same) (rz.dk.dataAll f610 rz.dq)) (.cons (.tup (s10 _ _ upd_same) ends) .nil)))) (((dk7.same s8).same s9).same s10) (rz.fr.trans f610)
        · rw [List.length_map, List.length_cons]
          omega
        · rw [List.length_map, List.length_cons, hl]
          omega
        · intro e he
          obtain ⟨z, hz, rfl⟩ := List.mem_map.mp he
          rcases List.mem_cons.mp hz with rfl | hz
          · exact ⟨_, rfl, by omega, by omega⟩
          · exact ⟨z, rfl, (hes z hz).1, (hes z hz).2⟩
end
end Jg
namespace Jg
open PySem PySem.Spec PyProof.Rows L2
/-! ### the law's body: the row and its parts -/
def spOdd1 : Sp := spOdd
structure Env01 (P : Program) (w : World) (K : PySem.W.Frag) (mg : Str → Option Value) (base : Heap) : Prop where
  bn : Bn mg
  deck : ∃ f fd, Cal P w K mg base "_law_deck" 1 ["_law_script"] (spDeck K) f fd
  draw : ∃ f fd, Cal P w K mg base "_law_draw" 1 ["_law_deck_here", "_law_many"] spDraw f fd
  one : ∃ f fd, Cal P w K mg base "_law_one" 2 ["_law_deck_here", "_law_items"] spOne f fd
  odd : ∃ f fd, Cal P w K mg base "_law_odd" 3 ["_law_deck_here"] spOdd f fd
  bent : ∃ f fd, Cal P w K mg base "_law_bent" 8 ["_law_deck_here", "_law_value", "_law_deep"] (spB 5) f fd
  row : ∃ f fd, Cal P w K mg base "_law_row" 3 ["_law_deck_here", "_law_inputs", "_law_many", "_law_most"] spLRow f fd
  lerr : ∃ f fd, Cal P w K mg base "_law_row_error" 3 ["_law_value", "_law_inputs", "_law_steps", "_law_ends"] spRowE f fd
  rerr : ∃ f fd, Cal P w K mg base "row_error" 6 ["value"] (spJudge 8 60 8) f fd ∧ KBinds K fd ["value"] ["value"] kwOne kwOneV
  lonE : ∃ f fd, Cal P w K mg base "long_error" 6 ["value"] (spJudge 20 400 20) f fd ∧ KBinds K fd ["value"] ["value"] kwOne kwOneV
abbrev sLaw : Stmt := topS 33
abbrev nLaw : List Str := ["_law_script", "_law_deck_here", "_law_turn", "_law_row_here", "_law_inputs", "_law_steps", "_law_ends", "_law_many", "_law_word", "_law_big", "_law_some", "_law_long", "_law_value", "_law_shown", "_law_due", "_law_k", "_law_number"]
theorem scLaw : FnScope nLaw ["_law_script"] (defScope sLaw) := ⟨rfl, rfl, rfl, by decide +kernel, rfl, by decide +kernel, by decide +kernel⟩
def stL (i : Nat) : Stmt := (forBody ((defBody sLaw).getD 1 (.Pass ⟨0, 0, 0, 0⟩))).getD i (.Pass ⟨0, 0, 0, 0⟩)
abbrev LX (P : Program) (w : World) (K : PySem.W.Frag) (mg : Str → Option Value) (base : Heap) (f : Addr) (cdv : Value) (Ar : Around) (out : List Env) (s0 : Shared) (H0 : Hp) (E : XK) : Cx :=
  (cxOf CX0 P w K mg base nLaw "law" (defScope sLaw) f cdv Ar out s0 H0 E).nox
/-! data that is short enough to be shown -/
def Fine (d : PyData) : Prop := Ok 8 16100000 d
theorem plain_two {d : PyData} (h : Plain 2 d) : Ok 5 13280 d := plain_ok 2 d h
theorem fine_tup {k c n : Nat} {ds : List PyData} (h : ∀ d ∈ ds, Ok k c d) (hn : ds.length ≤ n) (hk : k ≤ 7) (hc : n * (c + 2) + 3 ≤ 16100000) : Fine (.tuple ds) := (ok_tup h hn).mono (by omega) hc
theorem fine_lst {k c n : Nat} {ds : List PyData} (h : ∀ d ∈ ds, Ok k c d) (hn : ds.length ≤ n) (hk : k ≤ 7) (hc : n * (c + 2) + 3 ≤ 16100000) : Fine (.list ds) := (ok_lst h hn).mono (by omega) hc
theorem okI {i : Int} (h : i.natAbs ≤ 10 ^ 21) : Ok 6 5340000 (.int i) := (ok_int25 (Nat.lt_of_le_of_lt h (by decide))).mono (by decide) (by decide)
theorem okS {ds : List PyData} (h : ∀ d ∈ ds, Ok 5 13280 d) (hn : ds.length ≤ 401) : Ok 6 5340000 (.tuple ds) := (ok_tup h hn).mono (by decide) (by decide)
theorem okS1 {ds : List PyData} (h : ∀ d ∈ ds, Ok 5 13280 d) (hn : ds.length ≤ 80) : Ok 6 1100000 (.tuple ds) := (ok_tup h hn).mono (by decide) (by decide)
theorem okL1 {ds : List PyData} (h : ∀ d ∈ ds, Ok 5 13280 d) (hn : ds.length ≤ 80) : Ok 6 1100000 (.list ds) := (ok_lst h hn).mono (by decide) (by decide)
theorem okI1 {i : Int} (h : i.natAbs ≤ 10 ^ 21) : Ok 6 1100000 (.int i) := (ok_int25 (Nat.lt_of_le_of_lt h (by decide))).mono (by decide) (by decide)
theorem a_nil {P : PyData → Prop} : ∀ d ∈ ([] : List PyData), P d := fun _ h => nomatch h
theorem a_cons {P : PyData → Prop} {d : PyData} {ds : List PyData} (h1 : P d) (h2 : ∀ x ∈ ds, P x) : ∀ x ∈ d :: ds, P x := fun x hx => by
  rcases List.mem_cons.mp hx with rfl | hx
  · exact h1
  · exact h2 x hx
theorem a_app {P : PyData → Prop} {ds es : List PyData} (h1 : ∀ x ∈ ds, P x) (h2 : ∀ x ∈ es, P x) : ∀ x ∈ ds ++ es, P x := fun x hx => by
  rcases List.mem_append.mp hx with hx | hx
  · exact h1 x hx
  · exact h2 x hx
theorem Drawn.okd {n : Nat} {ds es : List PyData} (h : Drawn n ds es) : ∀ d ∈ ds, Ok 5 13280 d := fun d hd => plain_two (h.pl d hd)
theorem Drawn.oke {n : Nat} {ds es : List PyData} (h : Drawn n ds es) : ∀ d ∈ es, Ok 5 13280 d := fun d hd => by
  obtain ⟨j, rfl, j0, j1⟩ := h.el d hd
  exact (ok_int25 (i := j) (by omega)).mono (by decide) (by decide)
theorem oki5 {i : Int} (h : i.natAbs ≤ 10 ^ 21) : Ok 5 13280 (.int i) := (ok_int25 (Nat.lt_of_le_of_lt h (by decide))).mono (by decide) (by decide)
/-! what lies does not lie at a new place -/
mutual
theorem Dq.fresh {D B Z : Addr} {H : Hp} (hz : H Z = none) : ∀ (d : PyData) (v : V), Dq D B H v d → Dq Z Z H v d
  | .none, _, h => by
    cases h
    exact .non
  | .bool _, _, h => by
    cases h
    exact .bl _
  | .int _, _, h => by
    cases h
    exact .int _
  | .str _, _, h => by
    cases h
    exact .str _
  | .list ds, _, h => by
    cases h with
    | lst h1 h2 h3 h4 => exact .lst (fun z => by rw [z, hz] at h3; cases h3) (fun z => by rw [z, hz] at h3; cases h3) h3 (DqAll.fresh hz ds _ h4)
  | .tuple ds, _, h => by
    cases h with
    | tup h3 h4 => exact .tup h3 (DqAll.fresh hz ds _ h4)
  | .dict ds, _, h => by
    cases h with
    | dct h3 => exact .dct h3
theorem DqAll.fresh {D B Z : Addr} {H : Hp} (hz : H Z = none) : ∀ (ds : List PyData) (vs : List V), DqAll D B H vs ds → DqAll Z Z H vs ds
  | [], _, h => by
    cases h
    exact .nil
  | d :: ds, _, h => by
    cases h with
    | cons h1 h2 => exact .cons (Dq.fresh hz d _ h1) (DqAll.fresh hz ds _ h2)
end
structure Par where
  D : Addr
  B : Addr
  C : Addr
  cells : List Int
  n : Nat
  ds : List PyData
  es : List PyData
  r : Addr
  a : Addr
  b : Addr
  xa : List V
  xb : List V
  word : Str
/-- the deck is there -/
structure W0 (D B C : Addr) (cells : List Int) (σ : L2.St) (H : Hp) : Prop where
  len : σ.length = 17
  s1 : σ[1]? = some (some (.ref D))
  dk : DeckAt D B C cells H
theorem W0.set {D B C : Addr} {cells : List Int} {σ : L2.St} {H : Hp} {v : Option V} (w : W0 D B C cells σ H) {i : Nat} (h : i ≠ 1) : W0 D B C cells (σ.set i v) H := ⟨by rw [List.length_set]; exact w.len, by rw [get_set_ne h]; exact w.s1, w.dk⟩
/-- the row and its parts -/
structure WB (p : Par) (σ : L2.St) (H : Hp) : Prop where
  len : σ.length = 17
  s1 : σ[1]? = some (some (.ref p.D))
  s3 : σ[3]? = some (some (.ref p.r))
  s4 : σ[4]? = some (some (.int (p.n : Int)))
  s5 : σ[5]? = some (some (.ref p.a))
  s6 : σ[6]? = some (some (.ref p.b))
  s7 : σ[7]? = some (some (.int (p.ds.length : Int)))
  s8 : σ[8]? = some (some (.str p.word))
  dk : DeckAt p.D p.B p.C p.cells H
  er : H p.r = some (.tup [.int (p.n : Int), .ref p.a, .ref p.b])
  ea : H p.a = some (.tup p.xa)
  eb : H p.b = some (.tup p.xb)
  qa : DqAll p.D p.B H p.xa p.ds
  qb : DqAll p.D p.B H p.xb p.es
  dr : Drawn p.n p.ds p.es
  hw : p.word = Str.ofString "in" ∨ p.word = Str.ofString "set"
section
variable {p : Par} {σ : L2.St} {H H' : Hp} {v : Option V}
theorem WB.set (w : WB p σ H) {i : Nat} (h : 8 < i) : WB p (σ.set i v) H :=
  ⟨by rw [List.length_set]; exact w.len, by rw [get_set_ne (by omega)]; exact w.s1, by rw [get_set_ne (by omega)]; exact w.s3, by rw [get_set_ne (by omega)]; exact w.s4, by rw [get_set_ne (by omega)]; exact w.s5, by rw [get_set_ne (by omega)]; exact w.s6, by rw [get_set_ne (by omega)]; exact w.s7, by rw [get_set_ne (by omega)]; exact w.s8,
   w.dk, w.er, w.ea, w.eb, w.qa, w.qb, w.dr, w.hw⟩
theorem WB.go (w : WB p σ H) (dk : DeckAt p.D p.B p.C p.cells H') (f : Fr p.D p.B H H') : WB p σ H' :=
  ⟨w.len, w.s1, w.s3, w.s4, w.s5, w.s6, w.s7, w.s8, dk, f _ _ (tup_ne w.dk w.er).1 (tup_ne w.dk w.er).2 w.er, f _ _ (tup_ne w.dk w.ea).1 (tup_ne w.dk w.ea).2 w.ea, f _ _ (tup_ne w.dk w.eb).1 (tup_ne w.dk w.eb).2 w.eb, w.dk.dataAll f w.qa, w.dk.dataAll f w.qb, w.dr, w.hw⟩
theorem WB.same (w : WB p σ H) (s : Same H H') : WB p σ H' := w.go (w.dk.same s) (Fr.of_same s)
theorem WB.at_ (w : WB p σ H) {i : Nat} (h : i < 17) {v : Option V} : (σ.set i v)[i]? = some v := get_set_eq (by rw [w.len]; exact h)
end
section
variable {P : Program} {w : World} {K : PySem.W.Frag} {mg : Str → Option Value} {base : Heap} {f : Addr} {cdv : Value} {Ar : Around} {out : List Env} {s0 : Shared} {H0 : Hp} {E : XK}
/-- row_here = row(..); inputs, steps, ends = row_here; many, word = .. -/
def t0 : TS := fun Dn σ H => ∃ D B C cells, W0 D B C cells σ H ∧ ∀ p σ' H', WB p σ' H' → Dn.nx σ' H'
theorem b0 {rest : List Stmt} {u : TS} (T : Env01 P w K mg base) (hr : Room 8 (LX P w K mg base f cdv Ar out s0 H0 E).A) (hR : PSs (LX P w K mg base f cdv Ar out s0 H0 E) rest u) : ∃ t, PSs (LX P w K mg base f cdv Ar out s0 H0 E) (stL 0 :: stL 1 :: stL 2 :: rest) t ∧ ∀ Dn σ H, t0 { Dn with nx := u Dn } σ H → t Dn σ H := by
  obtain ⟨fO, fdO, GO⟩ := T.one
  obtain ⟨fR, fdR, GR⟩ := T.row
  refine ⟨_, pss_cons (ps_set (i := 3) scLaw.nd rfl (.inr rfl) (pe_call GR.F (hr.mono (by decide)) (by rfl) GR.g GR.kp GR.b .nil pass0 (pa_cons (pv 1)
      (pa_cons (pe_call GO.F (hr.mono (by decide)) (by rfl) GO.g GO.kp GO.b .nil pass0 (pa_cons (pv 1) (pa_cons (pe_lst (pa_cons pe_int (pa_cons pe_int (pa_cons pe_int (pa_cons pe_int pa_nil))))) pa_nil)))
      (pa_cons (pe_call GO.F (hr.mono (by decide)) (by rfl) GO.g GO.kp GO.b .nil pass0 (pa_cons (pv 1) (pa_cons (pe_lst (pa_cons pe_int (pa_cons pe_int (pa_cons pe_int pa_nil)))) pa_nil)))
      (pa_cons pe_int pa_nil))))))
    (pss_cons (ps_asg (pv 3) (pg_tup rfl (pgs_cons (pg_name (i := 4) scLaw.nd rfl (.inl rfl)) (pgs_cons (pg_name (i := 5) scLaw.nd rfl (.inr rfl)) (pgs_cons (pg_name (i := 6) scLaw.nd rfl (.inr rfl)) pgs_nil)))))
    (pss_cons (ps_par (i := 7) (j := 8) rfl scLaw.nd rfl rfl (by decide) rfl rfl (pa_cons (pe_callB call_len_seq (by rfl) T.bn.len PySem.boot_len (pa_cons (pv 5) pa_nil)) (pa_cons (pe_call GO.F (hr.mono (by decide)) (by rfl) GO.g GO.kp GO.b .nil pass0 (pa_cons (pv 1) (pa_cons (pe_lst (pa_cons pe_str (pa_cons pe_str pa_nil))) pa_nil))) pa_nil)) rfl) hR)), ?_⟩
  rintro Dn σ H ⟨D, B, C, cells, w0, q⟩
  refine ⟨_, w0.s1, _, w0.s1, sz1 rfl, fun L nL => ?_⟩
  have s1 := same_upd (o := .lst [.int 0, .int 1, .int 2, .int 8]) nL
  have dk1 := w0.dk.same s1
  refine ⟨D, B, C, cells, L, _, rfl, dk1, upd_same, w0.dk.neD nL, w0.dk.neB nL, by show 0 < 4; decide, by show 4 < 1073741824; decide, fun i v H2 hv dk2 f2 => ?_⟩
  obtain ⟨n, rfl, hn⟩ : ∃ n : Nat, v = .int (n : Int) ∧ n ≤ 8 := by
    match i, hv with
    | 0, hv => exact ⟨0, (Option.some.inj hv).symm, by decide⟩
    | 1, hv => exact ⟨1, (Option.some.inj hv).symm, by decide⟩
    | 2, hv => exact ⟨2, (Option.some.inj hv).symm, by decide⟩
    | 3, hv => exact ⟨8, (Option.some.inj hv).symm, by decide⟩
    | n + 4, hv => cases hv
  refine ⟨_, w0.s1, sz1 rfl, fun M nM => ?_⟩
  have s3 := same_upd (o := .lst [.int 1, .int 6, .int 60]) nM
  have dk3 := dk2.same s3
  refine ⟨D, B, C, cells, M, _, rfl, dk3, upd_same, dk2.neD nM, dk2.neB nM, by show 0 < 3; decide, by show 3 < 1073741824; decide, fun i v H4 hv dk4 f4 => ?_⟩
  obtain ⟨m, rfl, m0, m1⟩ : ∃ m : Int, v = .int m ∧ 0 < m ∧ m ≤ 60 := by
    match i, hv with
    | 0, hv => exact ⟨1, (Option.some.inj hv).symm, by decide, by decide⟩
    | 1, hv => exact ⟨6, (Option.some.inj hv).symm, by decide, by decide⟩
    | 2, hv => exact ⟨60, (Option.some.inj hv).symm, by decide, by decide⟩
    | n + 3, hv => cases hv
  refine ⟨D, B, C, cells, n, m, rfl, dk4, hn, m0, m1, fun v ds es H5 dr hv dk5 f5 => ?_⟩
  obtain ⟨r, xr, rfl, er, hr3⟩ := hv.tupE
  obtain ⟨x1, x2, x3, rfl, h1, h2, h3⟩ := dq_three hr3
  cases h1.intE
  obtain ⟨a, xa, rfl, ea, ha⟩ := h2.tupE
  obtain ⟨b, xb, rfl, eb, hb⟩ := h3.tupE
  have hal := ha.len
  have g3 : (σ.set 3 (some (.ref r)))[3]? = some (some (.ref r)) := get_set_eq (by rw [w0.len]; decide)
  refine ⟨_, g3, r, _, rfl, SqT.of er, rfl, .int (n : Int), [.ref a, .ref b], rfl, .ref a, [.ref b], rfl, .ref b, [], rfl, rfl, ?_⟩
  have l3 : (((σ.set 3 (some (.ref r))).set 4 (some (.int (n : Int)))).set 5 (some (.ref a))).length = 17 := by
    rw [List.length_set, List.length_set, List.length_set, w0.len]
  have g5 : ((((σ.set 3 (some (.ref r))).set 4 (some (.int (n : Int)))).set 5 (some (.ref a))).set 6 (some (.ref b)))[5]? = some (some (.ref a)) := by
    rw [get_set_ne (by decide)]
    exact get_set_eq (by rw [List.length_set, List.length_set, w0.len]; decide)
  have g1 : ((((σ.set 3 (some (.ref r))).set 4 (some (.int (n : Int)))).set 5 (some (.ref a))).set 6 (some (.ref b)))[1]? = some (some (.ref D)) := by
    rw [get_set_ne (by decide), get_set_ne (by decide), get_set_ne (by decide), get_set_ne (by decide)]
    exact w0.s1
  refine ⟨_, g5, a, xa, rfl, .inr (SqT.of ea), _, g1, sz1 rfl, fun N nN => ?_⟩
  have s6 := same_upd (o := .lst [.str (Str.ofString "in"), .str (Str.ofString "set")]) nN
  have dk6 := dk5.same s6
  refine ⟨D, B, C, cells, N, _, rfl, dk6, upd_same, dk5.neD nN, dk5.neB nN, by show 0 < 2; decide, by show 2 < 1073741824; decide, fun i v H7 hv dk7 f7 => ?_⟩
  obtain ⟨x, rfl, hx⟩ : ∃ x, v = .str x ∧ (x = Str.ofString "in" ∨ x = Str.ofString "set") := by
    match i, hv with
    | 0, hv => exact ⟨_, (Option.some.inj hv).symm, .inl rfl⟩
    | 1, hv => exact ⟨_, (Option.some.inj hv).symm, .inr rfl⟩
    | n + 2, hv => cases hv
  have f57 := (Fr.of_same s6).trans f7
  refine ⟨_, _, rfl, q ⟨D, B, C, cells, n, ds, es, r, a, b, xa, xb, x⟩ _ H7 ⟨?_, ?_, ?_, ?_, ?_, ?_, ?_, ?_, dk7, f57 _ _ (tup_ne dk5 er).1 (tup_ne dk5 er).2 er, f57 _ _ (tup_ne dk5 ea).1 (tup_ne dk5 ea).2 ea, f57 _ _ (tup_ne dk5 eb).1 (tup_ne dk5 eb).2 eb, dk5.dataAll f57 ha, dk5.dataAll f57 hb, dr, hx⟩⟩
  · rw [List.length_set, List.length_set, List.length_set, l3]
  · rw [get_set_ne (by decide), get_set_ne (by decide)]
    exact g1
  · rw [get_set_ne (by decide), get_set_ne (by decide), get_set_ne (by decide), get_set_ne (by decide), get_set_ne (by decide)]
    exact g3
  · rw [get_set_ne (by decide), get_set_ne (by decide), get_set_ne (by decide), get_set_ne (by decide)]
    exact get_set_eq (by rw [List.length_set, w0.len]; decide)
  · rw [get_set_ne (by decide), get_set_ne (by decide)]
    exact g5
  · rw [get_set_ne (by decide), get_set_ne (by decide)]
    exact get_set_eq (by rw [l3]; decide)
  · rw [get_set_ne (by decide)]
    rw [hal]
    exact get_set_eq (by rw [List.length_set, l3]; decide)
  · exact get_set_eq (by rw [List.length_set, List.length_set, l3]; decide)
end
end Jg
namespace Jg
open PySem PySem.Spec PyProof.Rows L2
/-! ### the law's body: the great row, the first values -/
structure WG (p : Par) (g : Addr) (xg : List V) (gd : List PyData) (σ : L2.St) (H : Hp) : Prop extends WB p σ H where
  s9 : σ[9]? = some (some (.ref g))
  eg : H g = some (.tup xg)
  qg : DqAll p.D p.B H xg gd
  pg : ∀ d ∈ gd, Plain 2 d
  lg : gd.length = 8
structure WS (p : Par) (g : Addr) (xg : List V) (gd : List PyData) (L : Addr) (xs : List V) (ls : List PyData) (σ : L2.St) (H : Hp) : Prop extends WG p g xg gd σ H where
  s10 : σ[10]? = some (some (.ref L))
  eL : H L = some (.lst xs)
  nL : L ≠ p.D ∧ L ≠ p.B ∧ L ≠ p.C
  q : DqAll p.D p.B H xs ls
  z : DqAll L L H xs ls
  fine : ∀ d ∈ ls, Fine d
  cnt : ls.length ≤ 40
section
variable {p : Par} {g : Addr} {xg : List V} {gd : List PyData} {L : Addr} {xs : List V} {ls : List PyData} {σ : L2.St} {H H' : Hp} {v : Option V}
theorem WG.set (w : WG p g xg gd σ H) {i : Nat} (h : 9 < i) : WG p g xg gd (σ.set i v) H := ⟨w.toWB.set (by omega), by rw [get_set_ne (by omega)]; exact w.s9, w.eg, w.qg, w.pg, w.lg⟩
theorem WG.go (w : WG p g xg gd σ H) (dk : DeckAt p.D p.B p.C p.cells H') (f : Fr p.D p.B H H') : WG p g xg gd σ H' := ⟨w.toWB.go dk f, w.s9, f _ _ (tup_ne w.dk w.eg).1 (tup_ne w.dk w.eg).2 w.eg, w.dk.dataAll f w.qg, w.pg, w.lg⟩
theorem WG.same (w : WG p g xg gd σ H) (s : Same H H') : WG p g xg gd σ H' := w.go (w.dk.same s) (Fr.of_same s)
theorem WS.set (w : WS p g xg gd L xs ls σ H) {i : Nat} (h : 10 < i) : WS p g xg gd L xs ls (σ.set i v) H := ⟨w.toWG.set (by omega), by rw [get_set_ne (by omega)]; exact w.s10, w.eL, w.nL, w.q, w.z, w.fine, w.cnt⟩
theorem WS.go (w : WS p g xg gd L xs ls σ H) (dk : DeckAt p.D p.B p.C p.cells H') (f : Fr p.D p.B H H') : WS p g xg gd L xs ls σ H' :=
  ⟨w.toWG.go dk f, w.s10, f _ _ w.nL.1 w.nL.2.1 w.eL, w.nL, w.dk.dataAll f w.q, DqAll.two w.dk.isD w.dk.isB f ls xs w.q w.z, w.fine, w.cnt⟩
theorem WS.same (w : WS p g xg gd L xs ls σ H) (s : Same H H') : WS p g xg gd L xs ls σ H' := w.go (w.dk.same s) (Fr.of_same s)
/-- a new list in the place of some -/
theorem WG.take (w : WG p g xg gd σ H) {N : Addr} (n : H N = none) (q : DqAll p.D p.B H xs ls) (fine : ∀ d ∈ ls, Fine d) (cnt : ls.length ≤ 40) : WS p g xg gd N xs ls (σ.set 10 (some (.ref N))) (upd H N (.lst xs)) :=
  ⟨(w.same (same_upd n)).set (by decide), w.toWB.at_ (by decide), upd_same, ⟨w.dk.neD n, w.dk.neB n, mt Eq.symm (ne_of_none w.dk.cel n)⟩, q.same (same_upd n), (DqAll.fresh n ls xs q).same (same_upd n), fine, cnt⟩
/-- some = some + [..] -/
theorem WS.grow (w : WS p g xg gd L xs ls σ H) {N : Addr} {ys : List V} {es : List PyData} (n : H N = none) (q : DqAll p.D p.B H ys es) (fine : ∀ d ∈ es, Fine d) (cnt : ls.length + es.length ≤ 40) : WS p g xg gd N (xs ++ ys) (ls ++ es) (σ.set 10 (some (.ref N))) (upd H N (.lst (xs ++ ys))) :=
  w.toWG.take n (DqAll.append q w.q) (a_app w.fine fine) (by rw [List.length_append]; exact cnt)
theorem WS.sz (w : WS p g xg gd L xs ls σ H) {n : Nat} (hn : n ≤ 10) : xs.length + n ≤ sizeLine := by
  have h1 := w.q.len
  have h2 := w.cnt
  exact Nat.le_of_lt (small1000 (by omega))
end
/-- a triple -/
theorem fine3 {x y z : PyData} {c : Nat} (hx : Ok 6 c x) (hy : Ok 6 c y) (hz : Ok 6 c z) (hc : c ≤ 5340000) : Fine (.tuple [x, y, z]) := fine_tup (n := 3) (a_cons hx (a_cons hy (a_cons hz a_nil))) (Nat.le_refl 3) (by decide) (by omega)
theorem Drawn.okn {n : Nat} {ds es : List PyData} (h : Drawn n ds es) : Ok 6 1100000 (.int (n : Int)) := okI1 (by have := h.c8; omega)
theorem Drawn.tds {n : Nat} {ds es : List PyData} (h : Drawn n ds es) : Ok 6 1100000 (.tuple ds) := okS1 h.okd (by have := h.d60; omega)
theorem Drawn.tes {n : Nat} {ds es : List PyData} (h : Drawn n ds es) : Ok 6 1100000 (.tuple es) := okS1 h.oke (by have := h.e3; omega)
theorem ok_nilT : Ok 6 1100000 (.tuple []) := okS1 a_nil (Nat.zero_le _)
section
variable {P : Program} {w : World} {K : PySem.W.Frag} {mg : Str → Option Value} {base : Heap} {f : Addr} {cdv : Value} {Ar : Around} {out : List Env} {s0 : Shared} {H0 : Hp} {E : XK}
/-- big = .. -/
def t3 : TS := fun Dn σ H => ∃ p, WB p σ H ∧ ∀ g xg gd σ' H', WG p g xg gd σ' H' → Dn.nx σ' H'
theorem b3 (T : Env01 P w K mg base) : PS (LX P w K mg base f cdv Ar out s0 H0 E) (stL 3) t3 := by
  refine ps_imp (ps_set (i := 9) scLaw.nd rfl (.inl rfl) (pe_op op_catA (pe_tup (pa_cons (pe_tup (pa_cons (pv 8) (pa_cons pe_int pa_nil))) pa_nil)) (pe_callTy call_tuple_of (by rfl) T.bn.tup boot_tuple' (pa_cons (pe_lc (own := [("_law_k", 15)]) (g := gName 15) (tt := tYes) rfl scLaw.nd (pi_range1 rfl T.bn.rng (pa_cons pe_int pa_nil)) (blkOk_by (N := nLaw) (sc := defScope sLaw) (by decide +kernel))
    (fun _ _ _ _ _ => pg_name (i := 15) scLaw.nd rfl (.inl rfl)) (fun _ _ _ _ _ => pts_nil) (fun _ _ _ _ _ => pe_tup (pa_cons pe_str (pa_cons (pv 15) (pa_cons (pv 15) pa_nil))))) pa_nil)))) ?_
  rintro Dn σ H ⟨p, wb, q⟩
  refine ⟨_, wb.s8, sz1 rfl, fun a1 n1 => ⟨sz1 rfl, fun a2 n2 => ⟨7, rfl, by decide, by decide, fun D1 nD1 => ?_⟩⟩⟩
  have s1 := same_upd (o := .tup [.str p.word, .int 0]) n1
  have s2 := same_upd (o := .tup [.ref a1]) n2
  have s12 := s1.trans s2
  have l15 : 15 < σ.length := by
    rw [wb.len]
    decide
  refine lc_range (lo := 0) (n := 7) (fun i H3 => ∃ xs ls, H3 D1 = some (.lst xs) ∧ DqAll p.D p.B H3 xs ls ∧ ls.length = i ∧ (∀ d ∈ ls, Plain 2 d) ∧ Same (upd (upd H a1 (.tup [.str p.word, .int 0])) a2 (.tup [.ref a1])) H3) ⟨[], [], upd_same, .nil, rfl, a_nil, same_upd nD1⟩ ?_ ?_
  · rintro i H3 hi ⟨xs, ls, e3, q3, hl, hp, s3⟩
    have hxl := q3.len
    refine ⟨wipe1, tYes_if ⟨_, w1_own l15, _, w1_own l15, sz1 rfl, fun t nt => ?_⟩⟩
    have st := same_upd (o := .tup [.str (Str.ofString "*"), .int (0 + (i : Int)), .int (0 + (i : Int))]) nt
    have e4 := st _ _ e3
    have fL : ∀ b o, b ≠ D1 → (upd H3 t (.tup [.str (Str.ofString "*"), .int (0 + (i : Int)), .int (0 + (i : Int))])) b = some o → (upd (upd H3 t (.tup [.str (Str.ofString "*"), .int (0 + (i : Int)), .int (0 + (i : Int))])) D1 (.lst (xs ++ [.ref t]))) b = some o := fun b o hb h => by
      rw [upd_ne hb]
      exact h
    have pn : ∀ d ∈ ls ++ [.tuple [.str (Str.ofString "*"), .int (0 + (i : Int)), .int (0 + (i : Int))]], Plain 2 d := a_app hp (a_cons (plain3 (.inr (.inr (.inr rfl))) (by omega) (by omega)) a_nil)
    refine ⟨xs, e4, small1000 (by omega), xs ++ [.ref t], ls ++ [.tuple [.str (Str.ofString "*"), .int (0 + (i : Int)), .int (0 + (i : Int))]], upd_same, plain_keepAll e4 fL pn (DqAll.append (.cons (.tup upd_same (.cons (.str _) (.cons (.int _) (.cons (.int _) .nil)))) .nil) (q3.same st)), by rw [List.length_append, hl]; rfl, pn, fun b o hb => ?_⟩
    rw [upd_ne (ne_of_none hb nD1)]
    exact st _ _ (s3 _ _ hb)
  · rintro H3 ⟨xs, ls, e3, q3, hl, hp, s3⟩
    have hxl := q3.len
    refine ⟨D1, xs, rfl, .inl ⟨SqL.of e3, fun t nt => ?_⟩⟩
    have st := same_upd (o := .tup xs) nt
    refine cat_read (st _ _ (s3 _ _ upd_same)) upd_same (by show 1 + xs.length ≤ 1000; omega) fun c H5 s5 e5 => ?_
    have s25 := (s3.trans st).trans s5
    have hw : isW p.word := wb.hw.elim (fun h => .inl (.inl h)) (fun h => .inl (.inr (.inl h)))
    have q1 : Dq p.D p.B H5 (.ref a1) (.tuple [.str p.word, .int 0]) := .tup (s25 _ _ (s2 _ _ upd_same)) (.cons (.str _) (.cons (.int _) .nil))
    exact q c _ (.tuple [.str p.word, .int 0] :: ls) _ H5 ⟨(wb.same (s12.trans s25)).set (by decide), wb.at_ (by decide), e5, .cons q1 ((q3.same st).same s5), a_cons (plain2 hw (by decide)) hp, by rw [List.length_cons, hl]⟩
/-- some = [six] -/
def t4 : TS := fun Dn σ H => ∃ p g xg gd, WG p g xg gd σ H ∧ ∀ L xs ls σ' H', WS p g xg gd L xs ls σ' H' → ls.length = 6 → Dn.nx σ' H'
theorem b4 (T : Env01 P w K mg base) : PS (LX P w K mg base f cdv Ar out s0 H0 E) (stL 4) t4 := by
  refine ps_imp (ps_set (i := 10) scLaw.nd rfl (.inl rfl) (pe_lst (pa_cons (pv 3) (pa_cons (pe_callTy call_list_of (by rfl) T.bn.lst boot_list' (pa_cons (pv 3) pa_nil)) (pa_cons (pe_slice sl_tupA (pv 3) po_none (po_some pe_int)) (pa_cons (pe_op op_catA (pv 3) (pe_tup (pa_cons (pe_tup pa_nil) pa_nil)))
    (pa_cons (pe_tup (pa_cons (pv 4) (pa_cons (pv 5) (pa_cons (pe_tup pa_nil) pa_nil)))) (pa_cons (pe_tup (pa_cons (pv 4) (pa_cons (pv 5) (pa_cons (pe_op op_catA (pv 6) (pe_tup (pa_cons (pv 7) pa_nil))) pa_nil)))) pa_nil)))))))) ?_
  rintro Dn σ H ⟨p, g, xg, gd, wg, q⟩
  have dr := wg.dr
  refine ⟨_, wg.s3, _, wg.s3, p.r, _, rfl, .inr (SqT.of wg.er), fun l nl => ?_⟩
  have s1 := same_upd (o := .lst [.int (p.n : Int), .ref p.a, .ref p.b]) nl
  refine ⟨_, wg.s3, _, rfl, sl_read (s1 _ _ wg.er) fun c H2 s2 g2 => ?_⟩
  have g2' : H2 c = some (.tup [.int (p.n : Int), .ref p.a]) := g2.trans (congrArg (fun z => some (HO.tup z)) (cutV_to _ 2))
  have s12 := s1.trans s2
  refine ⟨_, wg.s3, Nat.zero_le _, fun p0 n0 => ⟨sz1 rfl, fun p1 n1 => ?_⟩⟩
  have s3 := (same_upd (o := .tup []) n0).trans (same_upd (o := .tup [.ref p0]) n1)
  have s13 := s12.trans s3
  refine cat_read (s13 _ _ wg.er) upd_same (by show 3 + 1 ≤ 1000; decide) fun c4 H4 s4 g4 => ?_
  have s14 := s13.trans s4
  refine ⟨_, wg.s4, _, wg.s5, Nat.zero_le _, fun p5 n5 => ⟨sz1 rfl, fun t5 m5 => ?_⟩⟩
  have s5a := same_upd (o := .tup []) n5
  have s5b := same_upd (o := .tup [.int (p.n : Int), .ref p.a, .ref p5]) m5
  have s15 := s14.trans (s5a.trans s5b)
  refine ⟨_, wg.s4, _, wg.s5, _, wg.s6, _, wg.s7, sz1 rfl, fun p6 n6 => ?_⟩
  have s6 := same_upd (o := .tup [.int (p.ds.length : Int)]) n6
  have hbl := wg.qb.len
  have he3 := dr.e3
  have hd60 := dr.d60
  refine cat_read (s6 _ _ (s15 _ _ wg.eb)) upd_same (by show p.xb.length + 1 ≤ 1000; omega) fun c7 H7 s7 g7 => ⟨sz1 rfl, fun t8 n8 => ⟨sz1 rfl, fun N nN => ?_⟩⟩
  have s8 := same_upd (o := .tup [.int (p.n : Int), .ref p.a, .ref c7]) n8
  have s58 := (s6.trans s7).trans s8
  have s18 := s15.trans s58
  have wg8 := wg.same s18
  have s48 := s4.trans ((s5a.trans s5b).trans s58)
  have s38 := s3.trans s48
  have s28 := s2.trans s38
  have row : Dq p.D p.B _ (.ref p.r) (rowD p.n p.ds p.es) := .tup wg8.er (.cons (.int _) (.cons (.tup wg8.ea wg8.qa) (.cons (.tup wg8.eb wg8.qb) .nil)))
  have all3 : DqAll p.D p.B _ [.int (p.n : Int), .ref p.a, .ref p.b] [.int (p.n : Int), .tuple p.ds, .tuple p.es] := .cons (.int _) (.cons (.tup wg8.ea wg8.qa) (.cons (.tup wg8.eb wg8.qb) .nil))
  have ok4 : ∀ d ∈ [PyData.int (p.n : Int), .tuple p.ds, .tuple p.es], Ok 6 1100000 d := a_cons dr.okn (a_cons dr.tds (a_cons dr.tes a_nil))
  have oke : ∀ d ∈ p.es ++ [.int (p.ds.length : Int)], Ok 5 13280 d := a_app dr.oke (a_cons (oki5 (by omega)) a_nil)
  refine q N _ [rowD p.n p.ds p.es, .list [.int (p.n : Int), .tuple p.ds, .tuple p.es], .tuple [.int (p.n : Int), .tuple p.ds], .tuple ([.int (p.n : Int), .tuple p.ds, .tuple p.es] ++ [.tuple []]), .tuple [.int (p.n : Int), .tuple p.ds, .tuple []], .tuple [.int (p.n : Int), .tuple p.ds, .tuple (p.es ++ [.int (p.ds.length : Int)])]] _ _ (wg8.take nN ?_ ?_ (by show 6 ≤ 40; decide)) rfl
  · refine .cons row (.cons (.lst (wg.dk.neD nl) (wg.dk.neB nl) (s28 _ _ upd_same) all3) (.cons (.tup (s38 _ _ g2') (.cons (.int _) (.cons (.tup wg8.ea wg8.qa) .nil))) (.cons (.tup (((s5a.trans s5b).trans s58) _ _ g4) (DqAll.append (.cons (.tup ?_ .nil) .nil) all3)) (.cons (.tup (s58 _ _ upd_same) (.cons (.int _) (.cons (.tup wg8.ea wg8.qa) (.cons (.tup (s58 _ _ (s5b _ _ upd_same)) .nil) .nil)))) (.cons (.tup upd_same (.cons (.int _) (.cons (.tup wg8.ea wg8.qa) (.cons (.tup (s8 _ _ g7) (DqAll.append (.cons (.int _) .nil) wg8.qb)) .nil)))) .nil)))))
    exact s48 _ _ ((same_upd (o := .tup [.ref p0]) n1) _ _ upd_same)
  · exact a_cons (fine3 dr.okn dr.tds dr.tes (by decide)) (a_cons (fine_lst (n := 3) ok4 (Nat.le_refl 3) (by decide) (by decide)) (a_cons (fine_tup (n := 2) (a_cons dr.okn (a_cons dr.tds a_nil)) (Nat.le_refl 2) (by decide) (by decide)) (a_cons (fine_tup (n := 4) (a_app ok4 (a_cons ok_nilT a_nil)) (Nat.le_refl 4) (by decide) (by decide))
      (a_cons (fine3 dr.okn dr.tds ok_nilT (by decide)) (a_cons (fine3 dr.okn dr.tds (okS1 oke (by rw [List.length_append]; show p.es.length + 1 ≤ 80; omega)) (by decide)) a_nil)))))
end
end Jg
namespace Jg
open PySem PySem.Spec PyProof.Rows L2
/-! ### the law's body: further values -/
def tS (m k : Nat) : TS := fun Dn σ H => ∃ p g xg gd L xs ls, WS p g xg gd L xs ls σ H ∧ ls.length = m ∧ ∀ L' xs' ls' σ' H', WS p g xg gd L' xs' ls' σ' H' → ls'.length = k → Dn.nx σ' H'
theorem dq_rep {D B : Addr} {H : Hp} {xs : List V} {ds : List PyData} (h : DqAll D B H xs ds) : ∀ k : Nat, DqAll D B H (List.replicate k xs).flatten (List.replicate k ds).flatten
  | 0 => .nil
  | k + 1 => by
    rw [List.replicate_succ, List.replicate_succ, List.flatten_cons, List.flatten_cons]
    exact DqAll.append (dq_rep h k) h
theorem rep_len {α : Type} (ds : List α) : ∀ k : Nat, (List.replicate k ds).flatten.length = k * ds.length
  | 0 => by simp
  | k + 1 => by rw [List.replicate_succ, List.flatten_cons, List.length_append, rep_len ds k, Nat.succ_mul, Nat.add_comm]
theorem rep_all {P : PyData → Prop} {ds : List PyData} (h : ∀ d ∈ ds, P d) (k : Nat) : ∀ d ∈ (List.replicate k ds).flatten, P d := fun d hd => by
  obtain ⟨l, hl, hm⟩ := List.mem_flatten.mp hd
  rw [(List.mem_replicate.mp hl).2] at hm
  exact h d hm
section
variable {P : Program} {w : World} {K : PySem.W.Frag} {mg : Str → Option Value} {base : Heap} {f : Addr} {cdv : Value} {Ar : Around} {out : List Env} {s0 : Shared} {H0 : Hp} {E : XK}
/-- three more: without steps, steps turned round, a list of steps -/
theorem b5 (T : Env01 P w K mg base) : PS (LX P w K mg base f cdv Ar out s0 H0 E) (stL 5) (tS 6 9) := by
  refine ps_imp (ps_set (i := 10) scLaw.nd rfl (.inl rfl) (pe_op op_cat (pv 10) (pe_lst (pa_cons (pe_tup (pa_cons (pv 4) (pa_cons (pe_tup pa_nil) (pa_cons (pv 6) pa_nil)))) (pa_cons (pe_tup (pa_cons (pv 4) (pa_cons (pe_revT (pv 5)) (pa_cons (pv 6) pa_nil))))
    (pa_cons (pe_tup (pa_cons (pv 4) (pa_cons (pe_callTy call_list_of (by rfl) T.bn.lst boot_list' (pa_cons (pv 5) pa_nil)) (pa_cons (pv 6) pa_nil)))) pa_nil)))))) ?_
  rintro Dn σ H ⟨p, g, xg, gd, L, xs, ls, ws, hm, q⟩
  have dr := ws.dr
  refine ⟨_, ws.s10, _, ws.s4, Nat.zero_le _, fun p1 n1 => ⟨_, ws.s6, sz1 rfl, fun t1 m1 => ?_⟩⟩
  have s1 := (same_upd (o := .tup []) n1).trans (same_upd (o := .tup [.int (p.n : Int), .ref p1, .ref p.b]) m1)
  refine ⟨_, ws.s4, _, ws.s5, p.a, p.xa, rfl, SqT.of (s1 _ _ ws.ea), fun c2 n2 => ⟨_, ws.s6, sz1 rfl, fun t2 m2 => ?_⟩⟩
  have s2 := (same_upd (o := .tup p.xa.reverse) n2).trans (same_upd (o := .tup [.int (p.n : Int), .ref c2, .ref p.b]) m2)
  have s12 := s1.trans s2
  refine ⟨_, ws.s4, _, ws.s5, p.a, p.xa, rfl, .inr (SqT.of (s12 _ _ ws.ea)), fun l3 n3 => ⟨_, ws.s6, sz1 rfl, fun t3 m3 => ⟨sz1 rfl, fun M nM => ?_⟩⟩⟩
  have s3 := (same_upd (o := .lst p.xa) n3).trans (same_upd (o := .tup [.int (p.n : Int), .ref l3, .ref p.b]) m3)
  have s4 := same_upd (o := .lst [.ref t1, .ref t2, .ref t3]) nM
  have s34 := s3.trans s4
  have s14 := s12.trans s34
  have w4 := ws.same s14
  have wn3 := ws.same s12
  refine ⟨L, M, xs, _, rfl, rfl, w4.eL, upd_same, ws.sz (n := 3) (by decide), fun N nN => ?_⟩
  refine q N _ _ _ _ (w4.grow (es := [.tuple [.int (p.n : Int), .tuple [], .tuple p.es], .tuple [.int (p.n : Int), .tuple p.ds.reverse, .tuple p.es], .tuple [.int (p.n : Int), .list p.ds, .tuple p.es]]) nN ?_ ?_ (by rw [hm]; show 6 + 3 ≤ 40; decide)) (by rw [List.length_append, hm]; rfl)
  · have eB := w4.eb
    have qB := w4.qb
    exact .cons (.tup ((s2.trans s34) _ _ upd_same) (.cons (.int _) (.cons (.tup ((s2.trans s34) _ _ ((same_upd (o := .tup [.int (p.n : Int), .ref p1, .ref p.b]) m1) _ _ upd_same)) .nil) (.cons (.tup eB qB) .nil))))
      (.cons (.tup (s34 _ _ upd_same) (.cons (.int _) (.cons (.tup (s34 _ _ ((same_upd (o := .tup [.int (p.n : Int), .ref c2, .ref p.b]) m2) _ _ upd_same)) w4.qa.rev) (.cons (.tup eB qB) .nil))))
      (.cons (.tup (s4 _ _ upd_same) (.cons (.int _) (.cons (.lst (wn3.dk.neD n3) (wn3.dk.neB n3) (s4 _ _ ((same_upd (o := .tup [.int (p.n : Int), .ref l3, .ref p.b]) m3) _ _ upd_same)) w4.qa) (.cons (.tup eB qB) .nil)))) .nil))
  · have d60 := dr.d60
    exact a_cons (fine3 dr.okn ok_nilT dr.tes (by decide)) (a_cons (fine3 dr.okn (okS1 (fun d hd => dr.okd d (List.mem_reverse.mp hd)) (by rw [List.length_reverse]; omega)) dr.tes (by decide)) (a_cons (fine3 dr.okn (okL1 dr.okd (by omega)) dr.tes (by decide)) a_nil))
/-- five more: other numbers of inputs -/
theorem b6 (T : Env01 P w K mg base) : PS (LX P w K mg base f cdv Ar out s0 H0 E) (stL 6) (tS 9 14) := by
  refine ps_imp (ps_set (i := 10) scLaw.nd rfl (.inl rfl) (pe_op op_cat (pv 10) (pe_lc (own := [("_law_number", 16)]) (g := gName 16) (tt := tYes) rfl scLaw.nd (pi_tup (pe_tup (pa_cons pe_int (pa_cons (pe_un un_neg pe_int) (pa_cons pe_bl (pa_cons pe_int (pa_cons pe_int pa_nil))))))) (blkOk_by (N := nLaw) (sc := defScope sLaw) (by decide +kernel))
    (fun _ _ _ _ _ => pg_name (i := 16) scLaw.nd rfl (.inl rfl)) (fun _ _ _ _ _ => pts_nil) (fun _ _ _ _ _ => pe_tup (pa_cons (pv 16) (pa_cons (pv 5) (pa_cons (pv 6) pa_nil))))))) ?_
  rintro Dn σ H ⟨p, g, xg, gd, L, xs, ls, ws, hm, q⟩
  have dr := ws.dr
  have l16 : 16 < σ.length := by
    rw [ws.len]
    decide
  refine ⟨_, ws.s10, _, rfl, sz1 rfl, fun a1 n1 => ?_⟩
  have s1 := same_upd (o := .tup [.int 9, .int (-1), .bl true, .int 20, .int 21]) n1
  refine ⟨a1, rfl, ⟨_, SqT.of upd_same⟩, fun D1 nD1 => ?_⟩
  have w1 := ws.same s1
  refine lc_tup (K := K) (a := a1) (xs := [.int 9, .int (-1), .bl true, .int 20, .int 21]) (fun i H3 => ∃ ys es, H3 D1 = some (.lst ys) ∧ DqAll p.D p.B H3 ys es ∧ DqAll D1 D1 H3 ys es ∧ es.length = i ∧ (∀ d ∈ es, Fine d) ∧ Same (upd H a1 (.tup [.int 9, .int (-1), .bl true, .int 20, .int 21])) H3) ⟨[], [], upd_same, .nil, .nil, rfl, a_nil, same_upd nD1⟩ (fun i H3 _ ⟨_, _, _, _, _, _, _, s⟩ => SqT.of (s _ _ upd_same)) ?_ ?_
  · rintro i y H3 hy ⟨ys, es, e3, q3, z3, hl, hf, s3⟩
    have hil : i < 5 := (List.getElem?_eq_some_iff.mp hy).1
    have hxl := q3.len
    obtain ⟨dn, hdn, okn⟩ : ∃ dn, (∀ (D B : Addr) (H : Hp), Dq D B H y dn) ∧ Ok 6 1100000 dn := by
      match i, hy with
      | 0, hy => exact ⟨.int 9, (Option.some.inj hy) ▸ fun _ _ _ => .int _, okI1 (by decide)⟩
      | 1, hy => exact ⟨.int (-1), (Option.some.inj hy) ▸ fun _ _ _ => .int _, okI1 (by decide)⟩
      | 2, hy => exact ⟨.bool true, (Option.some.inj hy) ▸ fun _ _ _ => .bl _, (ok_bl true).mono (by decide) (by decide)⟩
      | 3, hy => exact ⟨.int 20, (Option.some.inj hy) ▸ fun _ _ _ => .int _, okI1 (by decide)⟩
      | 4, hy => exact ⟨.int 21, (Option.some.inj hy) ▸ fun _ _ _ => .int _, okI1 (by decide)⟩
      | i + 5, hy => cases hy
    refine ⟨wipe1, tYes_if ⟨_, w1_own l16, _, (w1_out (i := 16) (k := 5) (by decide)).trans ws.s5, _, (w1_out (i := 16) (k := 6) (by decide)).trans ws.s6, sz1 rfl, fun t nt => ?_⟩⟩
    have st := same_upd (o := .tup [y, .ref p.a, .ref p.b]) nt
    have w4 := (w1.same s3).same st
    have e4 := st _ _ e3
    have fL : Fr D1 D1 (upd H3 t (.tup [y, .ref p.a, .ref p.b])) (upd (upd H3 t (.tup [y, .ref p.a, .ref p.b])) D1 (.lst (ys ++ [.ref t]))) := fun c o h _ h2 => by
      rw [upd_ne h]
      exact h2
    have isL : ∃ zs, (upd H3 t (.tup [y, .ref p.a, .ref p.b])) D1 = some (.lst zs) := ⟨_, e4⟩
    have qn : Dq p.D p.B (upd H3 t (.tup [y, .ref p.a, .ref p.b])) (.ref t) (.tuple [dn, .tuple p.ds, .tuple p.es]) := .tup upd_same (.cons (hdn _ _ _) (.cons (.tup w4.ea w4.qa) (.cons (.tup w4.eb w4.qb) .nil)))
    have le0 : ∀ e ∈ p.es, Plain 0 e := fun e he => by
      obtain ⟨j, rfl, j0, j1⟩ := dr.el e he
      exact leaf_i (by omega)
    have zn : Dq D1 D1 (upd H3 t (.tup [y, .ref p.a, .ref p.b])) (.ref t) (.tuple [dn, .tuple p.ds, .tuple p.es]) := .tup upd_same (.cons (hdn _ _ _) (.cons (.tup w4.ea (plain_anyAll dr.pl w4.qa)) (.cons (.tup w4.eb (plain_anyAll le0 w4.qb)) .nil)))
    refine ⟨ys, e4, small1000 (by omega), ys ++ [.ref t], es ++ [.tuple [dn, .tuple p.ds, .tuple p.es]], upd_same, ?_, ?_, by rw [List.length_append, hl]; rfl, a_app hf (a_cons (fine3 okn dr.tds dr.tes (by decide)) a_nil), fun b o hb => ?_⟩
    · exact DqAll.append (.cons (Dq.two isL isL fL _ _ zn qn) .nil) (DqAll.two isL isL fL es ys (z3.same st) (q3.same st))
    · exact DqAll.append (.cons (Dq.keep isL isL fL _ _ zn) .nil) (DqAll.keep isL isL fL es ys (z3.same st))
    · rw [upd_ne (ne_of_none hb nD1)]
      exact st _ _ (s3 _ _ hb)
  · rintro H3 ⟨ys, es, e3, q3, _, hl, hf, s3⟩
    have w3 := w1.same s3
    have hyl := q3.len
    have hl5 : es.length = 5 := hl
    refine ⟨L, D1, xs, ys, rfl, rfl, w3.eL, e3, by rw [hyl, hl5]; exact ws.sz (by decide), fun N nN => ?_⟩
    exact q N _ _ _ _ (w3.grow nN q3 hf (by rw [hm, hl5]; decide)) (by rw [List.length_append, hm, hl5])
/-- two more: the ends again and again -/
theorem b7 (T : Env01 P w K mg base) : PS (LX P w K mg base f cdv Ar out s0 H0 E) (stL 7) (tS 14 16) := by
  refine ps_imp (ps_set (i := 10) scLaw.nd rfl (.inl rfl) (pe_op op_cat (pv 10) (pe_lst (pa_cons (pe_tup (pa_cons (pv 4) (pa_cons (pv 5) (pa_cons (pe_op op_repT (pv 6) pe_int) pa_nil)))) (pa_cons (pe_tup (pa_cons (pv 4) (pa_cons (pv 5) (pa_cons (pe_op op_repT (pv 6) pe_int) pa_nil)))) pa_nil))))) ?_
  rintro Dn σ H ⟨p, g, xg, gd, L, xs, ls, ws, hm, q⟩
  have dr := ws.dr
  have hbl := ws.qb.len
  have e1 := dr.e1
  have e3 := dr.e3
  have hne : p.xb ≠ [] := fun z => by
    rw [z] at hbl
    simp only [List.length_nil] at hbl
    omega
  refine ⟨_, ws.s10, _, ws.s4, _, ws.s5, _, ws.s6, p.b, 9, p.xb, rfl, rfl, SqT.of ws.eb, hne, by decide, by decide, by omega, fun c1 n1 => ⟨sz1 rfl, fun t1 m1 => ?_⟩⟩
  have s1 := (same_upd (o := .tup (List.replicate (9 : Int).toNat p.xb).flatten) n1).trans (same_upd (o := .tup [.int (p.n : Int), .ref p.a, .ref c1]) m1)
  refine ⟨_, ws.s4, _, ws.s5, _, ws.s6, p.b, 21, p.xb, rfl, rfl, SqT.of (s1 _ _ ws.eb), hne, by decide, by decide, by omega, fun c2 n2 => ⟨sz1 rfl, fun t2 m2 => ⟨sz1 rfl, fun M nM => ?_⟩⟩⟩
  have s2 := (same_upd (o := .tup (List.replicate (21 : Int).toNat p.xb).flatten) n2).trans (same_upd (o := .tup [.int (p.n : Int), .ref p.a, .ref c2]) m2)
  have s3 := same_upd (o := .lst [.ref t1, .ref t2]) nM
  have s23 := s2.trans s3
  have w3 := ws.same (s1.trans s23)
  refine ⟨L, M, xs, _, rfl, rfl, w3.eL, upd_same, ws.sz (n := 2) (by decide), fun N nN => ?_⟩
  refine q N _ _ _ _ (w3.grow (es := [.tuple [.int (p.n : Int), .tuple p.ds, .tuple (List.replicate 9 p.es).flatten], .tuple [.int (p.n : Int), .tuple p.ds, .tuple (List.replicate 21 p.es).flatten]]) nN ?_ ?_ (by rw [hm]; show 14 + 2 ≤ 40; decide)) (by rw [List.length_append, hm]; rfl)
  · exact .cons (.tup (s23 _ _ upd_same) (.cons (.int _) (.cons (.tup w3.ea w3.qa) (.cons (.tup (s23 _ _ ((same_upd (o := .tup [.int (p.n : Int), .ref p.a, .ref c1]) m1) _ _ upd_same)) (dq_rep w3.qb 9)) .nil))))
      (.cons (.tup (s3 _ _ upd_same) (.cons (.int _) (.cons (.tup w3.ea w3.qa) (.cons (.tup (s3 _ _ ((same_upd (o := .tup [.int (p.n : Int), .ref p.a, .ref c2]) m2) _ _ upd_same)) (dq_rep w3.qb 21)) .nil)))) .nil)
  · exact a_cons (fine3 dr.okn dr.tds (okS1 (rep_all dr.oke 9) (by rw [rep_len]; omega)) (by decide)) (a_cons (fine3 dr.okn dr.tds (okS1 (rep_all dr.oke 21) (by rw [rep_len]; omega)) (by decide)) a_nil)
/-- two more: a step that names itself -/
theorem b8 (T : Env01 P w K mg base) : PS (LX P w K mg base f cdv Ar out s0 H0 E) (stL 8) (tS 16 18) := by
  refine ps_imp (ps_set (i := 10) scLaw.nd rfl (.inl rfl) (pe_op op_cat (pv 10) (pe_lst (pa_cons (pe_tup (pa_cons (pv 4) (pa_cons (pe_op op_catA (pv 5) (pe_tup (pa_cons (pe_tup (pa_cons pe_str (pa_cons pe_int (pa_cons (pv 7) pa_nil)))) pa_nil))) (pa_cons (pv 6) pa_nil))))
    (pa_cons (pe_tup (pa_cons (pv 4) (pa_cons (pe_op op_catA (pv 5) (pe_tup (pa_cons (pe_tup (pa_cons pe_str (pa_cons (pv 7) pa_nil))) pa_nil))) (pa_cons (pv 6) pa_nil)))) pa_nil))))) ?_
  rintro Dn σ H ⟨p, g, xg, gd, L, xs, ls, ws, hm, q⟩
  have dr := ws.dr
  have hal := ws.qa.len
  have d60 := dr.d60
  refine ⟨_, ws.s10, _, ws.s4, _, ws.s5, _, ws.s7, sz1 rfl, fun p1 n1 => ⟨sz1 rfl, fun p2 n2 => ?_⟩⟩
  have s1 := same_upd (o := .tup [.str (Str.ofString "+"), .int 0, .int (p.ds.length : Int)]) n1
  have s2 := same_upd (o := .tup [.ref p1]) n2
  refine cat_read ((s1.trans s2) _ _ ws.ea) upd_same (by show p.xa.length + 1 ≤ 1000; omega) fun c1 H3 s3 g3 => ⟨_, ws.s6, sz1 rfl, fun t1 m1 => ?_⟩
  have s4 := same_upd (o := .tup [.int (p.n : Int), .ref c1, .ref p.b]) m1
  have s14 := (s1.trans s2).trans (s3.trans s4)
  refine ⟨_, ws.s4, _, ws.s5, _, ws.s7, sz1 rfl, fun p5 n5 => ⟨sz1 rfl, fun p6 n6 => ?_⟩⟩
  have s5 := same_upd (o := .tup [.str (Str.ofString "neg"), .int (p.ds.length : Int)]) n5
  have s6 := same_upd (o := .tup [.ref p5]) n6
  refine cat_read ((s14.trans (s5.trans s6)) _ _ ws.ea) upd_same (by show p.xa.length + 1 ≤ 1000; omega) fun c2 H7 s7 g7 => ⟨_, ws.s6, sz1 rfl, fun t2 m2 => ⟨sz1 rfl, fun M nM => ?_⟩⟩
  have s8 := same_upd (o := .tup [.int (p.n : Int), .ref c2, .ref p.b]) m2
  have s9 := same_upd (o := .lst [.ref t1, .ref t2]) nM
  have s59 := (s5.trans s6).trans (s7.trans (s8.trans s9))
  have w9 := ws.same (s14.trans s59)
  refine ⟨L, M, xs, _, rfl, rfl, w9.eL, upd_same, ws.sz (n := 2) (by decide), fun N nN => ?_⟩
  refine q N _ _ _ _ (w9.grow (es := [.tuple [.int (p.n : Int), .tuple (p.ds ++ [.tuple [.str (Str.ofString "+"), .int 0, .int (p.ds.length : Int)]]), .tuple p.es], .tuple [.int (p.n : Int), .tuple (p.ds ++ [.tuple [.str (Str.ofString "neg"), .int (p.ds.length : Int)]]), .tuple p.es]]) nN ?_ ?_ (by rw [hm]; show 16 + 2 ≤ 40; decide)) (by rw [List.length_append, hm]; rfl)
  · have q1 : Dq p.D p.B _ (.ref p1) (.tuple [.str (Str.ofString "+"), .int 0, .int (p.ds.length : Int)]) := .tup ((s2.trans ((s3.trans s4).trans s59)) _ _ upd_same) (.cons (.str _) (.cons (.int _) (.cons (.int _) .nil)))
    have q5 : Dq p.D p.B _ (.ref p5) (.tuple [.str (Str.ofString "neg"), .int (p.ds.length : Int)]) := .tup ((s6.trans (s7.trans (s8.trans s9))) _ _ upd_same) (.cons (.str _) (.cons (.int _) .nil))
    exact .cons (.tup (s59 _ _ upd_same) (.cons (.int _) (.cons (.tup ((s4.trans s59) _ _ g3) (DqAll.append (.cons q1 .nil) w9.qa)) (.cons (.tup w9.eb w9.qb) .nil))))
      (.cons (.tup (s9 _ _ upd_same) (.cons (.int _) (.cons (.tup ((s8.trans s9) _ _ g7) (DqAll.append (.cons q5 .nil) w9.qa)) (.cons (.tup w9.eb w9.qb) .nil)))) .nil)
  · have o1 : Ok 5 13280 (.tuple [.str (Str.ofString "+"), .int 0, .int (p.ds.length : Int)]) := plain_two (plain3 (.inr (.inl rfl)) (by decide) (by omega))
    have o2 : Ok 5 13280 (.tuple [.str (Str.ofString "neg"), .int (p.ds.length : Int)]) := plain_two (plain2 (.inl (.inr (.inr rfl))) (by omega))
    exact a_cons (fine3 dr.okn (okS1 (a_app dr.okd (a_cons o1 a_nil)) (by rw [List.length_append]; show p.ds.length + 1 ≤ 80; omega)) dr.tes (by decide)) (a_cons (fine3 dr.okn (okS1 (a_app dr.okd (a_cons o2 a_nil)) (by rw [List.length_append]; show p.ds.length + 1 ≤ 80; omega)) dr.tes (by decide)) a_nil)
/-- one more: an input that is none -/
theorem b9 (T : Env01 P w K mg base) : PS (LX P w K mg base f cdv Ar out s0 H0 E) (stL 9) (tS 18 19) := by
  refine ps_imp (ps_set (i := 10) scLaw.nd rfl (.inl rfl) (pe_op op_cat (pv 10) (pe_lst (pa_cons (pe_tup (pa_cons (pv 4) (pa_cons (pe_op op_catA (pv 5) (pe_tup (pa_cons (pe_tup (pa_cons pe_str (pa_cons (pv 4) pa_nil))) pa_nil))) (pa_cons (pv 6) pa_nil)))) pa_nil)))) ?_
  rintro Dn σ H ⟨p, g, xg, gd, L, xs, ls, ws, hm, q⟩
  have dr := ws.dr
  have hal := ws.qa.len
  have d60 := dr.d60
  have c8 := dr.c8
  refine ⟨_, ws.s10, _, ws.s4, _, ws.s5, _, ws.s4, sz1 rfl, fun p1 n1 => ⟨sz1 rfl, fun p2 n2 => ?_⟩⟩
  have s1 := same_upd (o := .tup [.str (Str.ofString "in"), .int (p.n : Int)]) n1
  have s2 := same_upd (o := .tup [.ref p1]) n2
  refine cat_read ((s1.trans s2) _ _ ws.ea) upd_same (by show p.xa.length + 1 ≤ 1000; omega) fun c1 H3 s3 g3 => ⟨_, ws.s6, sz1 rfl, fun t1 m1 => ⟨sz1 rfl, fun M nM => ?_⟩⟩
  have s4 := same_upd (o := .tup [.int (p.n : Int), .ref c1, .ref p.b]) m1
  have s5 := same_upd (o := .lst [.ref t1]) nM
  have s45 := s4.trans s5
  have w5 := ws.same ((s1.trans s2).trans (s3.trans s45))
  refine ⟨L, M, xs, _, rfl, rfl, w5.eL, upd_same, ws.sz (n := 1) (by decide), fun N nN => ?_⟩
  refine q N _ _ _ _ (w5.grow (es := [.tuple [.int (p.n : Int), .tuple (p.ds ++ [.tuple [.str (Str.ofString "in"), .int (p.n : Int)]]), .tuple p.es]]) nN ?_ ?_ (by rw [hm]; show 18 + 1 ≤ 40; decide)) (by rw [List.length_append, hm]; rfl)
  · have q1 : Dq p.D p.B _ (.ref p1) (.tuple [.str (Str.ofString "in"), .int (p.n : Int)]) := .tup ((s2.trans (s3.trans s45)) _ _ upd_same) (.cons (.str _) (.cons (.int _) .nil))
    exact .cons (.tup (s5 _ _ upd_same) (.cons (.int _) (.cons (.tup (s45 _ _ g3) (DqAll.append (.cons q1 .nil) w5.qa)) (.cons (.tup w5.eb w5.qb) .nil)))) .nil
  · have o1 : Ok 5 13280 (.tuple [.str (Str.ofString "in"), .int (p.n : Int)]) := plain_two (plain2 (.inl (.inl rfl)) (by omega))
    exact a_cons (fine3 dr.okn (okS1 (a_app dr.okd (a_cons o1 a_nil)) (by rw [List.length_append]; show p.ds.length + 1 ≤ 80; omega)) dr.tes (by decide)) a_nil
/-- three more: the great row -/
theorem b11 (T : Env01 P w K mg base) : PS (LX P w K mg base f cdv Ar out s0 H0 E) (stL 11) (tS 20 23) := by
  refine ps_imp (ps_set (i := 10) scLaw.nd rfl (.inl rfl) (pe_op op_cat (pv 10) (pe_lst (pa_cons (pe_tup (pa_cons pe_int (pa_cons (pv 9) (pa_cons (pe_tup (pa_cons pe_int pa_nil)) pa_nil)))) (pa_cons (pe_tup (pa_cons pe_int (pa_cons (pe_slice sl_tupA (pv 9) po_none (po_some (pe_un un_neg pe_int))) (pa_cons (pe_tup (pa_cons pe_int pa_nil)) pa_nil))))
    (pa_cons (pe_tup (pa_cons pe_int (pa_cons (pe_op op_catA (pe_slice sl_tupA (pv 9) po_none (po_some (pe_un un_neg pe_int))) (pe_tup (pa_cons (pe_tup (pa_cons pe_str (pa_cons pe_int (pa_cons pe_int pa_nil)))) pa_nil))) (pa_cons (pe_tup (pa_cons pe_int pa_nil)) pa_nil)))) pa_nil)))))) ?_
  rintro Dn σ H ⟨p, g, xg, gd, L, xs, ls, ws, hm, q⟩
  have hgl := ws.qg.len
  have lg := ws.lg
  have okg : ∀ d ∈ gd, Ok 5 13280 d := fun d hd => plain_two (ws.pg d hd)
  refine ⟨_, ws.s10, _, ws.s9, sz1 rfl, fun p1 n1 => ⟨sz1 rfl, fun t1 m1 => ?_⟩⟩
  have s1a := same_upd (o := .tup [.int 0]) n1
  have s1b := same_upd (o := .tup [.int 1, .ref g, .ref p1]) m1
  have s1 := s1a.trans s1b
  refine ⟨_, ws.s9, _, rfl, _, rfl, sl_read (s1 _ _ ws.eg) fun c2 H2 s2 g2 => ⟨sz1 rfl, fun p3 n3 => ⟨sz1 rfl, fun t3 m3 => ?_⟩⟩⟩
  have s3a := same_upd (o := .tup [.int 0]) n3
  have s3b := same_upd (o := .tup [.int 1, .ref c2, .ref p3]) m3
  have s3 := s3a.trans s3b
  have s13 := s1.trans (s2.trans s3)
  refine ⟨_, ws.s9, _, rfl, _, rfl, sl_read (s13 _ _ ws.eg) fun c4 H4 s4 g4 => ⟨sz1 rfl, fun p5 n5 => ⟨sz1 rfl, fun p6 n6 => ?_⟩⟩⟩
  have s5 := same_upd (o := .tup [.str (Str.ofString "*"), .int 6, .int 0]) n5
  have s6 := same_upd (o := .tup [.ref p5]) n6
  obtain ⟨ek, hek, memk, lenk⟩ := cut_data (ws.qg.same (s13.trans s4)) none (some (-1))
  refine cat_read ((s5.trans s6) _ _ g4) upd_same (by have := hek.len; show _ + 1 ≤ 1000; omega) fun c7 H7 s7 g7 => ⟨sz1 rfl, fun p8 n8 => ⟨sz1 rfl, fun t8 m8 => ⟨sz1 rfl, fun M nM => ?_⟩⟩⟩
  have s8a := same_upd (o := .tup [.int 0]) n8
  have s8b := same_upd (o := .tup [.int 1, .ref c7, .ref p8]) m8
  have s9 := same_upd (o := .lst [.ref t1, .ref t3, .ref t8]) nM
  have s89 := (s8a.trans s8b).trans s9
  have s79 := s7.trans s89
  have s59 := (s5.trans s6).trans s79
  have s49 := s4.trans s59
  have s39 := s3.trans s49
  have s29 := s2.trans s39
  have w9 := ws.same (s1.trans s29)
  obtain ⟨e2, he2, mem2, len2⟩ := cut_data (ws.qg.same (s1.trans s2)) none (some (-1))
  refine ⟨L, M, xs, _, rfl, rfl, w9.eL, upd_same, ws.sz (n := 3) (by decide), fun N nN => ?_⟩
  refine q N _ _ _ _ (w9.grow (es := [.tuple [.int 1, .tuple gd, .tuple [.int 0]], .tuple [.int 1, .tuple e2, .tuple [.int 0]], .tuple [.int 1, .tuple (ek ++ [.tuple [.str (Str.ofString "*"), .int 6, .int 0]]), .tuple [.int 0]]]) nN ?_ ?_ (by rw [hm]; show 20 + 3 ≤ 40; decide)) (by rw [List.length_append, hm]; rfl)
  · have i1 : ∀ {H' : Hp} {z : Addr}, H' z = some (.tup [.int 0]) → Dq p.D p.B H' (.ref z) (.tuple [.int 0]) := fun h => .tup h (.cons (.int _) .nil)
    exact .cons (.tup (s29 _ _ upd_same) (.cons (.int _) (.cons (.tup w9.eg w9.qg) (.cons (i1 ((s1b.trans s29) _ _ upd_same)) .nil))))
      (.cons (.tup (s49 _ _ upd_same) (.cons (.int _) (.cons (.tup (s39 _ _ g2) (he2.same s39)) (.cons (i1 ((s3b.trans s49) _ _ upd_same)) .nil))))
      (.cons (.tup (s9 _ _ upd_same) (.cons (.int _) (.cons (.tup (s89 _ _ g7) (DqAll.append (.cons (.tup ((s6.trans s79) _ _ upd_same) (.cons (.str _) (.cons (.int _) (.cons (.int _) .nil)))) .nil) (hek.same s59))) (.cons (i1 ((s8b.trans s9) _ _ upd_same)) .nil)))) .nil))
  · have o0 : Ok 6 1100000 (.tuple [.int 0]) := okS1 (a_cons (oki5 (by decide)) a_nil) (by decide)
    have o1 : Ok 6 1100000 (.int 1) := okI1 (by decide)
    have o2 : Ok 5 13280 (.tuple [.str (Str.ofString "*"), .int 6, .int 0]) := plain_two (plain3 (.inr (.inr (.inr rfl))) (by decide) (by decide))
    exact a_cons (fine3 o1 (okS1 okg (by omega)) o0 (by decide)) (a_cons (fine3 o1 (okS1 (fun d hd => okg d (mem2 d hd)) (by omega)) o0 (by decide)) (a_cons (fine3 o1 (okS1 (a_app (fun d hd => okg d (memk d hd)) (a_cons o2 a_nil)) (by rw [List.length_append]; show ek.length + 1 ≤ 80; omega)) o0 (by decide)) a_nil))
end
end Jg
namespace Jg
open PySem PySem.Spec PyProof.Rows L2
/-! ### the law's body: appended values, the long row, bent rows -/
theorem Drawn.le0 {n : Nat} {ds es : List PyData} (h : Drawn n ds es) : ∀ e ∈ es, Plain 0 e := fun e he => by
  obtain ⟨j, rfl, j0, j1⟩ := h.el e he
  exact leaf_i (by omega)
theorem Drawn.plain {n : Nat} {ds es : List PyData} (h : Drawn n ds es) : Plain 4 (rowD n ds es) := by
  have d60 := h.d60
  have e3 := h.e3
  have c8 := h.c8
  refine .inr ⟨_, rfl, by show 3 ≤ 3; decide, a_cons ((leaf_i (i := (n : Int)) (by omega)).plain 3) (a_cons (.inr ⟨_, rfl, by show ds.length ≤ 61; omega, h.pl⟩) (a_cons (.inr ⟨_, rfl, by show es.length ≤ 61; omega, fun e he => Leaf.plain (h.le0 e he) 2⟩) a_nil))⟩
theorem WS.push {p : Par} {g : Addr} {xg : List V} {gd : List PyData} {L : Addr} {xs : List V} {ls : List PyData} {σ : L2.St} {H : Hp} {v : V} {d : PyData} (w : WS p g xg gd L xs ls σ H) (qv : Dq p.D p.B H v d) (zv : Dq L L H v d) (fine : Fine d) (cnt : ls.length + 1 ≤ 40) : WS p g xg gd L (xs ++ [v]) (ls ++ [d]) σ (upd H L (.lst (xs ++ [v]))) := by
  have fb : ∀ b o, b ≠ L → H b = some o → (upd H L (.lst (xs ++ [v]))) b = some o := fun b o hb h => by
    rw [upd_ne hb]
    exact h
  have fL : Fr L L H (upd H L (.lst (xs ++ [v]))) := fun b o hb _ h => fb b o hb h
  have isL : ∃ zs, H L = some (.lst zs) := ⟨_, w.eL⟩
  have tu : ∀ {b : Addr} {zs : List V}, H b = some (.tup zs) → (upd H L (.lst (xs ++ [v]))) b = some (.tup zs) := fun {b zs} h => fb _ _ (fun z => by rw [z, w.eL] at h; cases h) h
  exact ⟨⟨⟨w.len, w.s1, w.s3, w.s4, w.s5, w.s6, w.s7, w.s8, w.dk.but fb w.nL.1.symm w.nL.2.1.symm w.nL.2.2.symm, tu w.er, tu w.ea, tu w.eb, plain_keepAll w.eL fb w.dr.pl w.qa, plain_keepAll w.eL fb w.dr.le0 w.qb, w.dr, w.hw⟩, w.s9, tu w.eg, plain_keepAll w.eL fb w.pg w.qg, w.pg, w.lg⟩,
    w.s10, upd_same, w.nL, DqAll.append (.cons (Dq.two isL isL fL _ _ zv qv) .nil) (DqAll.two isL isL fL ls xs w.z w.q), DqAll.append (.cons (Dq.keep isL isL fL _ _ zv) .nil) (DqAll.keep isL isL fL ls xs w.z), a_app w.fine (a_cons fine a_nil), by rw [List.length_append]; exact cnt⟩
section
variable {P : Program} {w : World} {K : PySem.W.Frag} {mg : Str → Option Value} {base : Heap} {f : Addr} {cdv : Value} {Ar : Around} {out : List Env} {s0 : Shared} {H0 : Hp} {E : XK}
/-- one more: a number that is too great -/
theorem b10 (T : Env01 P w K mg base) (hr : Room 8 (LX P w K mg base f cdv Ar out s0 H0 E).A) : PS (LX P w K mg base f cdv Ar out s0 H0 E) (stL 10) (tS 19 20) := by
  obtain ⟨fD, fdD, GD⟩ := T.draw
  refine ps_imp (ps_expr (pe_bm PySem.F.plainAttrs_list PySem.F.slot_list_append PySem.F.type_list_append mt_append (pv 10) (pa_cons (pe_tup (pa_cons (pv 4) (pa_cons (pe_op op_catA (pv 5) (pe_tup (pa_cons (pe_tup (pa_cons pe_str (pa_cons (pe_op op_add (pe_op op_pow pe_int pe_int)
    (pe_call GD.F (hr.mono (by decide)) (by rfl) GD.g GD.kp GD.b .nil pass0 (pa_cons (pv 1) (pa_cons pe_int pa_nil)))) pa_nil))) pa_nil))) (pa_cons (pv 6) pa_nil)))) pa_nil))) ?_
  rintro Dn σ H ⟨p, g, xg, gd, L, xs, ls, ws, hm, q⟩
  refine ⟨_, ws.s10, .inl ⟨rfl, _, SqL.of ws.eL⟩, _, ws.s4, _, ws.s5, _, _, rfl, rfl, ⟨by decide, by decide, by decide⟩, _, ws.s1, p.D, p.B, p.C, p.cells, 2, rfl, ws.dk, by decide, by decide, fun j H1 j0 j1 dk1 f1 => ⟨_, _, rfl, rfl, sz1 rfl, fun p1 n1 => ⟨sz1 rfl, fun p2 n2 => ?_⟩⟩⟩
  have w1 := ws.go dk1 f1
  have dr := ws.dr
  have hal := ws.qa.len
  have d60 := dr.d60
  have eM : (M20 : Int) = 100000000000000000000 := by decide
  have s1 : Same H1 (upd H1 p1 (.tup [.str (Str.ofString "set"), .int (M20 + j)])) := same_upd n1
  have s2 : Same (upd H1 p1 (.tup [.str (Str.ofString "set"), .int (M20 + j)])) (upd (upd H1 p1 (.tup [.str (Str.ofString "set"), .int (M20 + j)])) p2 (.tup [.ref p1])) := same_upd n2
  refine cat_read ((s1.trans s2) _ _ w1.ea) upd_same (by show p.xa.length + 1 ≤ 1000; omega) fun c3 H3 s3 g3 => ⟨_, ws.s6, sz1 rfl, fun t n4 => ?_⟩
  have s4 := same_upd (o := .tup [.int (p.n : Int), .ref c3, .ref p.b]) n4
  have s34 := s3.trans s4
  have w4 := w1.same ((s1.trans s2).trans s34)
  have hxl := w4.q.len
  refine ⟨L, xs, _, rfl, rfl, w4.eL, small1000 (by omega), ?_⟩
  have e1 := (s2.trans s34) _ _ upd_same
  have bi : (M20 + j).natAbs ≤ 10 ^ 21 := by
    rw [eM]
    omega
  have ok1 : Ok 5 13280 (.tuple [.str (Str.ofString "set"), .int (M20 + j)]) := (ok_tup (k := 0) (c := 40) (n := 2) (a_cons (ok_str (by decide +kernel)) (a_cons ((ok_int25 (Nat.lt_of_le_of_lt bi (by decide))).mono (by decide) (by decide)) a_nil)) (Nat.le_refl 2)).mono (by decide) (by decide)
  refine q L _ _ σ _ (w4.push (d := .tuple [.int (p.n : Int), .tuple (p.ds ++ [.tuple [.str (Str.ofString "set"), .int (M20 + j)]]), .tuple p.es]) ?_ ?_ (fine3 dr.okn (okS1 (a_app dr.okd (a_cons ok1 a_nil)) (by rw [List.length_append]; show p.ds.length + 1 ≤ 80; omega)) dr.tes (by decide)) (by rw [hm]; decide)) (by rw [List.length_append, hm]; rfl)
  · exact .tup upd_same (.cons (.int _) (.cons (.tup (s4 _ _ g3) (DqAll.append (.cons (.tup e1 (.cons (.str _) (.cons (.int _) .nil))) .nil) w4.qa)) (.cons (.tup w4.eb w4.qb) .nil)))
  · exact .tup upd_same (.cons (.int _) (.cons (.tup (s4 _ _ g3) (DqAll.append (.cons (.tup e1 (.cons (.str _) (.cons (.int _) .nil))) .nil) (plain_anyAll dr.pl w4.qa))) (.cons (.tup w4.eb (plain_anyAll dr.le0 w4.qb)) .nil)))
/-- one more: the great row, with a sum -/
theorem b12 (T : Env01 P w K mg base) : PS (LX P w K mg base f cdv Ar out s0 H0 E) (stL 12) (tS 23 24) := by
  refine ps_imp (ps_expr (pe_bm PySem.F.plainAttrs_list PySem.F.slot_list_append PySem.F.type_list_append mt_append (pv 10) (pa_cons (pe_tup (pa_cons pe_int (pa_cons (pe_op op_catA (pe_slice sl_tupA (pv 9) po_none (po_some (pe_un un_neg pe_int))) (pe_tup (pa_cons (pe_tup (pa_cons pe_str (pa_cons pe_int (pa_cons pe_int pa_nil)))) pa_nil))) (pa_cons (pe_tup (pa_cons pe_int pa_nil)) pa_nil)))) pa_nil))) ?_
  rintro Dn σ H ⟨p, g, xg, gd, L, xs, ls, ws, hm, q⟩
  have hgl := ws.qg.len
  have lg := ws.lg
  have okg : ∀ d ∈ gd, Ok 5 13280 d := fun d hd => plain_two (ws.pg d hd)
  refine ⟨_, ws.s10, .inl ⟨rfl, _, SqL.of ws.eL⟩, _, ws.s9, _, rfl, _, rfl, sl_read ws.eg fun c1 H1 s1 g1 => ⟨sz1 rfl, fun p2 n2 => ⟨sz1 rfl, fun p3 n3 => ?_⟩⟩⟩
  have s2 := same_upd (o := .tup [.str (Str.ofString "+"), .int 6, .int 6]) n2
  have s3 := same_upd (o := .tup [.ref p2]) n3
  obtain ⟨ek, hek, memk, lenk⟩ := cut_data (ws.qg.same s1) none (some (-1))
  have pk : ∀ d ∈ ek, Plain 2 d := fun d hd => ws.pg d (memk d hd)
  refine cat_read ((s2.trans s3) _ _ g1) upd_same (by have := hek.len; show _ + 1 ≤ 1000; omega) fun c4 H4 s4 g4 => ⟨sz1 rfl, fun p5 n5 => ⟨sz1 rfl, fun t n6 => ?_⟩⟩
  have s5 := same_upd (o := .tup [.int 6]) n5
  have s6 := same_upd (o := .tup [.int 1, .ref c4, .ref p5]) n6
  have s56 := s5.trans s6
  have s46 := s4.trans s56
  have s26 := (s2.trans s3).trans s46
  have w6 := ws.same (s1.trans s26)
  have hxl := w6.q.len
  refine ⟨L, xs, _, rfl, rfl, w6.eL, small1000 (by omega), ?_⟩
  have o1 : Ok 5 13280 (.tuple [.str (Str.ofString "+"), .int 6, .int 6]) := plain_two (plain3 (.inr (.inl rfl)) (by decide) (by decide))
  have e2 := (s3.trans s46) _ _ upd_same
  have e5 := s6 _ _ upd_same
  have e4 := s56 _ _ g4
  have qk := hek.same s26
  refine q L _ _ σ _ (w6.push (d := .tuple [.int 1, .tuple (ek ++ [.tuple [.str (Str.ofString "+"), .int 6, .int 6]]), .tuple [.int 6]]) ?_ ?_ (fine3 (okI1 (by decide)) (okS1 (a_app (fun d hd => okg d (memk d hd)) (a_cons o1 a_nil)) (by rw [List.length_append]; show ek.length + 1 ≤ 80; omega)) (okS1 (a_cons (oki5 (by decide)) a_nil) (by decide)) (by decide)) (by rw [hm]; decide)) (by rw [List.length_append, hm]; rfl)
  · exact .tup upd_same (.cons (.int _) (.cons (.tup e4 (DqAll.append (.cons (.tup e2 (.cons (.str _) (.cons (.int _) (.cons (.int _) .nil)))) .nil) qk)) (.cons (.tup e5 (.cons (.int _) .nil)) .nil)))
  · exact .tup upd_same (.cons (.int _) (.cons (.tup e4 (DqAll.append (.cons (.tup e2 (.cons (.str _) (.cons (.int _) (.cons (.int _) .nil)))) .nil) (plain_anyAll pk qk))) (.cons (.tup e5 (.cons (.int _) .nil)) .nil)))
/-- the long row -/
structure WL (p : Par) (g : Addr) (xg : List V) (gd : List PyData) (L : Addr) (xs : List V) (ls : List PyData) (σ : L2.St) (H : Hp) : Prop extends WS p g xg gd L xs ls σ H where
  s11 : ∃ (t c z : Addr) (xc : List V) (lc : List PyData), σ[11]? = some (some (.ref t)) ∧ H t = some (.tup [.int (p.n : Int), .ref c, .ref z]) ∧ H c = some (.tup xc) ∧ DqAll p.D p.B H xc lc ∧ (∀ d ∈ lc, Ok 5 13280 d) ∧ lc.length ≤ 401 ∧ H z = some (.tup [.int 0])
def t13 : TS := fun Dn σ H => ∃ p g xg gd L xs ls, WS p g xg gd L xs ls σ H ∧ ls.length = 24 ∧ ∀ σ' H', WL p g xg gd L xs ls σ' H' → Dn.nx σ' H'
theorem b13 (T : Env01 P w K mg base) (hr : Room 8 (LX P w K mg base f cdv Ar out s0 H0 E).A) : PS (LX P w K mg base f cdv Ar out s0 H0 E) (stL 13) t13 := by
  obtain ⟨fO, fdO, GO⟩ := T.one
  refine ps_imp (ps_set (i := 11) scLaw.nd rfl (.inl rfl) (pe_tup (pa_cons (pv 4) (pa_cons (pe_op op_catA (pe_slice sl_tupA (pv 5) po_none (po_some pe_int)) (pe_op op_repT (pe_tup (pa_cons (pe_tup (pa_cons pe_str (pa_cons pe_int pa_nil))) pa_nil))
    (pe_call GO.F (hr.mono (by decide)) (by rfl) GO.g GO.kp GO.b .nil pass0 (pa_cons (pv 1) (pa_cons (pe_lst (pa_cons pe_int (pa_cons pe_int (pa_cons pe_int (pa_cons pe_int (pa_cons pe_int pa_nil)))))) pa_nil))))) (pa_cons (pe_tup (pa_cons pe_int pa_nil)) pa_nil))))) ?_
  rintro Dn σ H ⟨p, g, xg, gd, L, xs, ls, ws, hm, q⟩
  have dr := ws.dr
  refine ⟨_, ws.s4, _, ws.s5, _, rfl, sl_read ws.ea fun c1 H1 s1 g1 => ⟨sz1 rfl, fun p2 n2 => ⟨sz1 rfl, fun p3 n3 => ⟨_, ws.s1, sz1 rfl, fun M nM => ?_⟩⟩⟩⟩
  have s2 := same_upd (o := .tup [.str (Str.ofString "neg"), .int 0]) n2
  have s3 := same_upd (o := .tup [.ref p2]) n3
  have s4 := same_upd (o := .lst [.int 59, .int 60, .int 398, .int 399, .int 400]) nM
  have s13 := s1.trans (s2.trans s3)
  have w3 := ws.same s13
  have dk4 := w3.dk.same s4
  refine ⟨p.D, p.B, p.C, p.cells, M, _, rfl, dk4, upd_same, w3.dk.neD nM, w3.dk.neB nM, by show 0 < 5; decide, by show 5 < 1073741824; decide, fun i v H5 hv dk5 f5 => ?_⟩
  obtain ⟨k, rfl, k0, k1⟩ : ∃ k : Int, v = .int k ∧ 2 ≤ k ∧ k ≤ 400 := by
    match i, hv with
    | 0, hv => exact ⟨59, (Option.some.inj hv).symm, by decide, by decide⟩
    | 1, hv => exact ⟨60, (Option.some.inj hv).symm, by decide, by decide⟩
    | 2, hv => exact ⟨398, (Option.some.inj hv).symm, by decide, by decide⟩
    | 3, hv => exact ⟨399, (Option.some.inj hv).symm, by decide, by decide⟩
    | 4, hv => exact ⟨400, (Option.some.inj hv).symm, by decide, by decide⟩
    | n + 5, hv => cases hv
  have f35 := (Fr.of_same s4).trans f5
  have tu : ∀ {b : Addr} {zs : List V}, (upd (upd H1 p2 (.tup [.str (Str.ofString "neg"), .int 0])) p3 (.tup [.ref p2])) b = some (.tup zs) → H5 b = some (.tup zs) := fun h => f35 _ _ (tup_ne w3.dk h).1 (tup_ne w3.dk h).2 h
  have e3 := tu upd_same
  have e2 := tu (s3 _ _ upd_same)
  have g5 : H5 c1 = some (.tup (p.xa.take 1)) := tu ((s2.trans s3) _ _ (g1.trans (congrArg (fun z => some (HO.tup z)) (cutV_to _ 1))))
  have w5 := w3.go dk5 f35
  refine ⟨p3, k, [.ref p2], rfl, rfl, SqT.of e3, (fun z => nomatch z), k0, by omega, by show 1 ≤ 1000; decide, fun p6 n6 => ?_⟩
  have s6 := same_upd (o := .tup (List.replicate k.toNat [V.ref p2]).flatten) n6
  have rl : (List.replicate k.toNat [V.ref p2]).flatten.length ≤ 400 := by
    rw [rep_len]
    show k.toNat * 1 ≤ 400
    omega
  refine cat_read (s6 _ _ g5) upd_same (by rw [List.length_take]; omega) fun c7 H7 s7 g7 => ⟨sz1 rfl, fun p8 n8 => ⟨sz1 rfl, fun t n9 => ?_⟩⟩
  have s8 := same_upd (o := .tup [.int 0]) n8
  have s9 := same_upd (o := .tup [.int (p.n : Int), .ref c7, .ref p8]) n9
  have s89 := s8.trans s9
  have s59 := s6.trans (s7.trans s89)
  have w9 := w5.same s59
  have qn : DqAll p.D p.B _ [.ref p2] [.tuple [.str (Str.ofString "neg"), .int 0]] := .cons (.tup (s59 _ _ e2) (.cons (.str _) (.cons (.int _) .nil))) .nil
  have o1 : Ok 5 13280 (.tuple [.str (Str.ofString "neg"), .int 0]) := plain_two (plain2 (.inl (.inr (.inr rfl))) (by decide))
  refine q _ _ ⟨w9.set (by decide), t, c7, p8, _, p.ds.take 1 ++ (List.replicate k.toNat [.tuple [.str (Str.ofString "neg"), .int 0]]).flatten, ws.at_ (by decide), upd_same, s89 _ _ g7, DqAll.append (dq_rep qn k.toNat) (w9.qa.take 1), a_app (fun d hd => dr.okd d (List.mem_of_mem_take hd)) (rep_all (a_cons o1 a_nil) _), ?_, s9 _ _ upd_same⟩
  rw [List.length_append, List.length_take, rep_len]
  show min 1 p.ds.length + k.toNat * 1 ≤ 401
  omega
/-- the long row, twice, and six bent rows -/
def t14 : TS := fun Dn σ H => ∃ p g xg gd L xs ls, WL p g xg gd L xs ls σ H ∧ ls.length = 24 ∧ ∀ L' xs' ls' σ' H', WS p g xg gd L' xs' ls' σ' H' → ls'.length = 32 → Dn.nx σ' H'
theorem b14 (T : Env01 P w K mg base) (hr : Room 8 (LX P w K mg base f cdv Ar out s0 H0 E).A) : PS (LX P w K mg base f cdv Ar out s0 H0 E) (stL 14) t14 := by
  obtain ⟨fB, fdB, GB⟩ := T.bent
  refine ps_imp (ps_set (i := 10) scLaw.nd rfl (.inl rfl) (pe_op op_cat (pe_op op_cat (pv 10) (pe_lst (pa_cons (pv 11) (pa_cons (pe_tup (pa_cons (pv 4) (pa_cons (pe_ix ix_tup (pv 11) pe_int (fun _ _ => rfl)) (pa_cons (pe_tup (pa_cons (pe_op op_sub (pe_callB call_len_seq (by rfl) T.bn.len PySem.boot_len (pa_cons (pe_ix ix_tup (pv 11) pe_int (fun _ _ => rfl)) pa_nil)) pe_int) pa_nil)) pa_nil)))) pa_nil))))
    (pe_lc (own := [("_law_k", 15)]) (g := gName 15) (tt := tYes) rfl scLaw.nd (pi_range1 rfl T.bn.rng (pa_cons pe_int pa_nil)) (blkOk_by (N := nLaw) (sc := defScope sLaw) (by decide +kernel))
        (fun _ _ _ _ _ => pg_name (i := 15) scLaw.nd rfl (.inl rfl)) (fun _ _ _ _ _ => pts_nil) (fun _ _ _ _ _ => pe_call GB.F hr (by rfl) GB.g GB.kp GB.b .nil pass0 (pa_cons (pv 1) (pa_cons (pv 3) (pa_cons pe_int pa_nil))))))) ?_
  rintro Dn σ H ⟨p, g, xg, gd, L, xs, ls, wl, hm, q⟩
  have ws := wl.toWS
  have dr := ws.dr
  obtain ⟨t, c, z, xc, lc, s11, et, ec, qc, okc, lcl, ez⟩ := wl.s11
  have hcl := qc.len
  refine ⟨_, ws.s10, _, s11, _, ws.s4, _, s11, t, _, 1, .ref c, rfl, rfl, SqT.of et, atI_nat (j := 1) rfl, _, s11, t, _, 1, .ref c, rfl, rfl, SqT.of et, atI_nat (j := 1) rfl, c, xc, rfl, .inr (SqT.of ec), _, _, rfl, rfl, sz1 rfl, fun p1 n1 => ⟨sz1 rfl, fun p2 n2 => ⟨sz1 rfl, fun M nM => ?_⟩⟩⟩
  have s1 := same_upd (o := .tup [.int (((xc.length : Nat) : Int) - 1)]) n1
  have s2 := same_upd (o := .tup [.int (p.n : Int), .ref c, .ref p1]) n2
  have s3 := same_upd (o := .lst [.ref t, .ref p2]) nM
  have s13 := s1.trans (s2.trans s3)
  have w3 := ws.same s13
  refine ⟨L, M, xs, _, rfl, rfl, w3.eL, upd_same, ws.sz (n := 2) (by decide), fun N1 nN1 => ⟨6, rfl, by decide, by decide, fun D1 nD1 => ?_⟩⟩
  have cl : ((((lc.length : Nat) : Int) - 1)).natAbs ≤ 10 ^ 21 := by omega
  have tz : Ok 6 5340000 (.tuple [.int 0]) := okS (a_cons (oki5 (by decide)) a_nil) (by decide)
  have wA : WS p g xg gd N1 (xs ++ [.ref t, .ref p2]) (ls ++ [.tuple [.int (p.n : Int), .tuple lc, .tuple [.int 0]], .tuple [.int (p.n : Int), .tuple lc, .tuple [.int (((lc.length : Nat) : Int) - 1)]]]) (σ.set 10 (some (.ref N1))) _ := w3.grow nN1 (by
    have qc3 := qc.same s13
    refine .cons (.tup (s13 _ _ et) (.cons (.int _) (.cons (.tup (s13 _ _ ec) qc3) (.cons (.tup (s13 _ _ ez) (.cons (.int _) .nil)) .nil)))) (.cons (.tup (s3 _ _ upd_same) (.cons (.int _) (.cons (.tup (s13 _ _ ec) qc3) (.cons (.tup ((s2.trans s3) _ _ upd_same) ?_) .nil)))) .nil)
    rw [hcl]
    exact .cons (.int _) .nil) (a_cons (fine3 (okI (by have := dr.c8; omega)) (okS okc lcl) tz (by decide)) (a_cons (fine3 (okI (by have := dr.c8; omega)) (okS okc lcl) (okS (a_cons (oki5 cl) a_nil) (by show 1 ≤ 401; decide)) (by decide)) a_nil)) (by rw [hm]; show 24 + 2 ≤ 40; decide)
  have nD := wA.dk.neD nD1
  have nB := wA.dk.neB nD1
  have nC := ne_of_none wA.dk.cel nD1
  refine lc_range (lo := 0) (n := 6) (fun i H3 => ∃ acc es, H3 D1 = some (.lst acc) ∧ DqAll p.D p.B H3 acc es ∧ DqAll D1 D1 H3 acc es ∧ (∀ d ∈ es, Fine d) ∧ es.length = i ∧ DeckAt p.D p.B p.C p.cells H3 ∧ Fr p.D p.B (upd (upd (upd (upd H p1 (.tup [.int (((xc.length : Nat) : Int) - 1)])) p2 (.tup [.int (p.n : Int), .ref c, .ref p1])) M (.lst [.ref t, .ref p2])) N1 (.lst (xs ++ [.ref t, .ref p2]))) H3) ⟨[], [], upd_same, .nil, .nil, a_nil, rfl, wA.dk.same (same_upd nD1), Fr.of_same (same_upd nD1)⟩ ?_ ?_
  · rintro i H3 hi ⟨acc, es, e3, ha, haZ, hf, hl, dk3, f3⟩
    have w4 := wA.go dk3 f3
    have hal := ha.len
    have row : Dq p.D p.B H3 (.ref p.r) (rowD p.n p.ds p.es) := .tup w4.er (.cons (.int _) (.cons (.tup w4.ea w4.qa) (.cons (.tup w4.eb w4.qb) .nil)))
    refine ⟨wipe1, tYes_if ⟨_, (w1_out (i := 15) (k := 1) (by decide)).trans ws.s1, _, (w1_out (i := 15) (k := 3) (by decide)).trans ws.s3, p.D, p.B, p.C, p.cells, .ref p.r, rowD p.n p.ds p.es, rfl, dk3, row, dr.plain, fun v4 d4 H4 o4 q4 z4 dk4 f4 => ?_⟩⟩
    have e4 := f4 _ _ nD nB e3
    have a4 := dk3.dataAll f4 ha
    have a4Z := DqAll.two dk3.isD dk3.isB f4 es acc ha haZ
    have q4Z := z4 D1 (by rw [e3]; exact fun z => nomatch z)
    have fL : Fr D1 D1 H4 (upd H4 D1 (.lst (acc ++ [v4]))) := fun c o h _ h2 => by
      rw [upd_ne h]
      exact h2
    have isL : ∃ zs, H4 D1 = some (.lst zs) := ⟨_, e4⟩
    refine ⟨acc, e4, small1000 (by omega), acc ++ [v4], es ++ [d4], upd_same, ?_, ?_, a_app hf (a_cons (o4.mono (by decide) (by decide)) a_nil), by rw [List.length_append, hl]; rfl, dk4.but (fun c o h h2 => fL c o h h h2) nD.symm nB.symm nC, fun c o h1 h2 h3 => ?_⟩
    · exact DqAll.append (.cons (Dq.two isL isL fL d4 v4 q4Z q4) .nil) (DqAll.two isL isL fL es acc a4Z a4)
    · exact DqAll.append (.cons (Dq.keep isL isL fL d4 v4 q4Z) .nil) (DqAll.keep isL isL fL es acc a4Z)
    · rw [upd_ne (ne_of_none h3 nD1)]
      exact f4 _ _ h1 h2 (f3 _ _ h1 h2 h3)
  · rintro H3 ⟨acc, es, e3, ha, _, hf, hl, dk3, f3⟩
    have w4 := wA.go dk3 f3
    have hal := ha.len
    have hl6 : es.length = 6 := hl
    refine ⟨N1, D1, _, acc, rfl, rfl, w4.eL, e3, by rw [hal, hl6]; exact wA.sz (by decide), fun N nN => ?_⟩
    have w5 := w4.grow nN ha hf (by rw [List.length_append, hm, hl6]; show 24 + 2 + 6 ≤ 40; decide)
    rw [List.set_set] at w5
    exact q N _ _ _ _ w5 (by rw [List.length_append, List.length_append, hm, hl6]; rfl)
end
end Jg
namespace Jg
open PySem PySem.Spec PyProof.Rows L2
/-! ### the law's body: all values judged -/
theorem ok_nr {i : Int} {x : Str} (h : i.natAbs ≤ 1000) (hx : (reprText x).length ≤ 40) : Ok 1 200 (.tuple [.int i, .str x]) :=
  (ok_tup (k := 0) (c := 40) (n := 2) (a_cons ((ok_int25 (i := i) (Nat.lt_of_le_of_lt h (by decide))).mono (by decide) (by decide)) (a_cons (ok_str hx) a_nil)) (Nat.le_refl 2)).mono (by decide) (by decide)
theorem ok_wr {x : Str} (hx : (reprText x).length ≤ 40) : Ok 1 200 (wr x) :=
  (ok_tup (k := 0) (c := 40) (n := 2) (a_cons (ok_non.mono (by decide) (by decide)) (a_cons (ok_str hx) a_nil)) (Nat.le_refl 2)).mono (by decide) (by decide)
theorem ok_no : Ok 1 200 .none := ok_non.mono (by decide) (by decide)
theorem errGo_ok {inp : Int} : ∀ (ds : List PyData) (ns : List Int), ns.length + ds.length ≤ 1000 → Ok 1 200 (errGo inp ds ns)
  | [], _, _ => ok_no
  | d :: ds, ns, h => by
    rw [List.length_cons] at h
    unfold errGo
    split
    · split
      · exact ok_nr (by omega) (by decide +kernel)
      · exact errGo_ok ds _ (by rw [List.length_append]; show ns.length + 1 + _ ≤ 1000; omega)
    · exact ok_nr (by omega) (by decide +kernel)
theorem endsErr_ok {n me : Int} (c : PyData) : Ok 1 200 (endsErr n me c) := by
  have w1 : Ok 1 200 (wr (Str.ofString "ends")) := ok_wr (by decide +kernel)
  cases hb : isTu c with
  | false =>
    rw [endsErr_tu hb]
    exact w1
  | true =>
    cases c with
    | tuple es =>
      by_cases h : 1 ≤ (es.length : Int) ∧ (es.length : Int) ≤ me
      · rw [endsErr_go h]
        split
        · exact ok_no
        · exact w1
      · rw [endsErr_len h]
        exact w1
    | _ => cases hb
theorem rowErr_ok {mi ms me : Int} (hms : ms ≤ 1000) (d : PyData) : Ok 1 200 (rowErr mi ms me d) := by
  have w1 : Ok 1 200 (wr (Str.ofString "row")) := ok_wr (by decide +kernel)
  have w2 : Ok 1 200 (wr (Str.ofString "inputs")) := ok_wr (by decide +kernel)
  have w3 : Ok 1 200 (wr (Str.ofString "steps")) := ok_wr (by decide +kernel)
  cases hb : isTu d with
  | false =>
    rw [rowErr_tu hb]
    exact w1
  | true =>
    cases d with
    | tuple ds =>
      by_cases hl : ds.length = 3
      · obtain ⟨a, b, c, rfl⟩ := three_of hl
        cases hw : within 0 mi a with
        | false =>
          rw [rowErr_in hw]
          exact w2
        | true =>
          obtain ⟨i, rfl, _, _⟩ := within_is hw
          rw [rowErr_go hw]
          cases hb2 : isTu b with
          | false =>
            rw [stepsErr_tu hb2]
            exact w3
          | true =>
            cases b with
            | tuple bs =>
              by_cases h : 1 ≤ (bs.length : Int) ∧ (bs.length : Int) ≤ ms
              · rw [stepsErr_go h]
                have o1 : Ok 1 200 (errGo i bs []) := errGo_ok bs [] (by show 0 + bs.length ≤ 1000; omega)
                cases hn : isNo (errGo i bs []) with
                | false =>
                  rw [orD_no hn]
                  exact o1
                | true =>
                  rw [orD_yes hn]
                  exact endsErr_ok c
              · rw [stepsErr_len h]
                exact w3
            | _ => cases hb2
      · rw [rowErr_len hl]
        exact w1
    | _ => cases hb
theorem lineA : 16100000 ≤ sizeLine := by
  rw [sizeLine_eq]
  decide
theorem Fine.zl {d : PyData} (h : Fine d) : d.shown.length ≤ sizeLine := Nat.le_trans h.ln lineA
theorem Fine.dl {d : PyData} (h : Fine d) : d.depth ≤ 60 := Nat.le_trans h.dp (by decide)
theorem boot_repr' : bootBuiltins "repr" = some (.builtin "repr") := by decide +kernel
theorem W0.at_ {D B C : Addr} {cells : List Int} {σ : L2.St} {H : Hp} (w : W0 D B C cells σ H) {i : Nat} (h : i < 17) {v : Option V} : (σ.set i v)[i]? = some v := get_set_eq (by rw [w.len]; exact h)
theorem W0.same {D B C : Addr} {cells : List Int} {σ : L2.St} {H H' : Hp} (w : W0 D B C cells σ H) (s : Same H H') : W0 D B C cells σ H' := ⟨w.len, w.s1, w.dk.same s⟩
section
variable {P : Program} {w : World} {K : PySem.W.Frag} {mg : Str → Option Value} {base : Heap} {f : Addr} {cdv : Value} {Ar : Around} {out : List Env} {s0 : Shared} {H0 : Hp} {E : XK}
def t15 : TS := fun Dn σ H => ∃ p g xg gd L xs ls, WS p g xg gd L xs ls σ H ∧ ls.length = 32 ∧ ∀ σ' H', W0 p.D p.B p.C p.cells σ' H' → Dn.nx σ' H'
set_option maxHeartbeats 4000000 in
theorem b15 (T : Env01 P w K mg base) (hr : Room 8 (LX P w K mg base f cdv Ar out s0 H0 E).A) (hg : (LX P w K mg base f cdv Ar out s0 H0 E).A.guards = some []) : PS (LX P w K mg base f cdv Ar out s0 H0 E) (stL 15) t15 := by
  obtain ⟨fX, fdX, GX⟩ := T.odd
  obtain ⟨fE, fdE, GE⟩ := T.lerr
  obtain ⟨fR, fdR, GR, _⟩ := T.rerr
  obtain ⟨fL, fdL, GL, kL⟩ := T.lonE
  have hu := hr.units
  refine ps_imp (ps_for PassesOwn.never rfl (pi_list (pe_op op_cat (pv 10) (pe_lst (pa_cons (pe_call GX.F (hr.mono (by decide)) (by rfl) GX.g GX.kp GX.b .nil pass0 (pa_cons (pv 1) pa_nil)) (pa_cons (pe_tup pa_nil) (pa_cons pe_non
      (pa_cons (pe_tup (pa_cons (pv 4) (pa_cons (pe_tup (pa_cons (pe_call GX.F (hr.mono (by decide)) (by rfl) GX.g GX.kp GX.b .nil pass0 (pa_cons (pv 1) pa_nil)) pa_nil)) (pa_cons (pe_tup (pa_cons pe_int pa_nil)) pa_nil)))) pa_nil))))))) (pg_name (i := 12) scLaw.nd rfl (.inl rfl))
    (pss_cons (ps_set (i := 13) scLaw.nd rfl (.inl rfl) (pe_callB (call_reprD hg hu) (by rfl) T.bn.rep boot_repr' (pa_cons (pv 12) pa_nil)))
    (pss_cons (ps_set (i := 14) scLaw.nd rfl (.inl rfl) (pe_lst (pa_cons (pe_call GE.F (hr.mono (by decide)) (by rfl) GE.g GE.kp GE.b .nil pass0 (pa_cons (pv 12) (pa_cons pe_int (pa_cons pe_int (pa_cons pe_int pa_nil))))) (pa_cons (pe_call GE.F (hr.mono (by decide)) (by rfl) GE.g GE.kp GE.b .nil pass0 (pa_cons (pv 12) (pa_cons pe_int (pa_cons pe_int (pa_cons pe_int pa_nil))))) pa_nil))))
    (pss_one (ps_if (PW.pt (pw_or (pt_cmpR op_ne (pe_callB (call_reprD hg hu) (by rfl) T.bn.rep boot_repr' (pa_cons (pe_lst (pa_cons (pe_call GR.F (hr.mono (by decide)) (by rfl) GR.g GR.kp GR.b .nil pass0 (pa_cons (pv 12) pa_nil)) (pa_cons (pe_callKO GL.F (hr.mono (by decide)) (by rfl) GL.g GL.kp kL pass0 (pk_cons (pv 12) pk_nil)) pa_nil))) pa_nil))
        (pe_callB (call_reprD hg hu) (by rfl) T.bn.rep boot_repr' (pa_cons (pv 14) pa_nil)) (nomark _))
      (pw_or1 (pt_cmpR op_ne (pe_callB (call_reprD hg hu) (by rfl) T.bn.rep boot_repr' (pa_cons (pv 12) pa_nil)) (pv 13) (nomark _))))) (pss_one (ps_ret pe_bl)) pss_nil))))) ?_
  rintro Dn σ H ⟨p, g, xg, gd, L, xs, ls, ws, hm, q⟩
  refine ⟨_, ws.s10, _, ws.s1, p.D, p.B, p.C, p.cells, rfl, ws.dk, fun v1 d1 H1 m1 q1 z1 dk1 f1 => ⟨Nat.zero_le _, fun p2 n2 => ?_⟩⟩
  have s2 := same_upd (o := .tup []) n2
  have dk2 := dk1.same s2
  refine ⟨_, ws.s4, _, ws.s1, p.D, p.B, p.C, p.cells, rfl, dk2, fun v3 d3 H3 m3 q3 z3 dk3 f3 => ⟨sz1 rfl, fun p4 n4 => ⟨sz1 rfl, fun p5 n5 => ⟨sz1 rfl, fun p6 n6 => ⟨sz1 rfl, fun M nM => ?_⟩⟩⟩⟩⟩
  have s4 := same_upd (o := .tup [v3]) n4
  have s5 := same_upd (o := .tup [.int 0]) n5
  have s6 := same_upd (o := .tup [.int (p.n : Int), .ref p4, .ref p5]) n6
  have s7 := same_upd (o := .lst [v1, .ref p2, .non, .ref p6]) nM
  have s57 := s5.trans (s6.trans s7)
  have s47 := s4.trans s57
  have f37 := f3.trans (Fr.of_same s47)
  have f27 := (Fr.of_same s2).trans f37
  have w7 := ws.go (((dk3.same s4).same s5).same (s6.trans s7)) (f1.trans f27)
  have e2 := f37 _ _ (tup_ne dk2 upd_same).1 (tup_ne dk2 upd_same).2 (upd_same (H := H1) (a := p2) (o := .tup []))
  refine ⟨L, M, xs, _, rfl, rfl, w7.eL, upd_same, ws.sz (n := 4) (by decide), fun N nN => ?_⟩
  have wN := w7.grow (es := [d1, .tuple [], .none, .tuple [.int (p.n : Int), .tuple [d3], .tuple [.int 0]]]) nN
    (.cons (dk1.data f27 q1) (.cons (.tup e2 .nil) (.cons .non (.cons (.tup (s7 _ _ upd_same) (.cons (.int _) (.cons (.tup (s57 _ _ upd_same) (.cons (q3.same s47) .nil)) (.cons (.tup ((s6.trans s7) _ _ upd_same) (.cons (.int _) .nil)) .nil)))) .nil))))
    (a_cons ((odd_ok d1 m1).mono (by decide) (by decide)) (a_cons (ok_nilT.mono (by decide) (by decide)) (a_cons (ok_non.mono (by decide) (by decide)) (a_cons (fine3 (c := 1100000) ws.dr.okn (okS1 (a_cons ((odd_ok d3 m3).mono (by decide) (by decide)) a_nil) (by show 1 ≤ 80; decide)) (okS1 (a_cons (oki5 (by decide)) a_nil) (by decide)) (by decide)) a_nil))))
    (by rw [hm]; show 32 + 4 ≤ 40; decide)
  have hq := wN.q
  have hf := wN.fine
  have w0 : W0 p.D p.B p.C p.cells σ _ := ⟨ws.len, ws.s1, wN.dk⟩
  generalize xs ++ [v1, .ref p2, .non, .ref p6] = vsA at *
  generalize ls ++ [d1, .tuple [], .none, .tuple [.int (p.n : Int), .tuple [d3], .tuple [.int 0]]] = dsA at *
  refine ⟨N, rfl, ⟨_, SqL.of upd_same⟩, for_list (K := K) (a := N) (xs := vsA) (fun i σ3 H8 => W0 p.D p.B p.C p.cells σ3 H8 ∧ H8 N = some (.lst vsA) ∧ DqAll p.D p.B H8 vsA dsA) ⟨w0, upd_same, hq⟩ (fun i σ3 H8 _ h => SqL.of h.2.1) ?_ ?_⟩
  · rintro i x σ3 H8 hi ⟨w8, e8, a8⟩
    obtain ⟨d, hd, qd⟩ := a8.at_ i x hi
    have okd := hf d (List.mem_of_getElem? hd)
    have w9 := w8.set (i := 12) (v := some x) (by decide)
    have g12 : (σ3.set 12 (some x))[12]? = some (some x) := w8.at_ (by decide)
    refine ⟨_, g12, p.D, p.B, x, d, rfl, qd, okd.sh, okd.zl, okd.dl, ?_⟩
    have w10 := w9.set (i := 13) (v := some (.str d.shown)) (by decide)
    have g12b : ((σ3.set 12 (some x)).set 13 (some (.str d.shown)))[12]? = some (some x) := by
      rw [get_set_ne (by decide)]
      exact g12
    have g13 : ((σ3.set 12 (some x)).set 13 (some (.str d.shown)))[13]? = some (some (.str d.shown)) := w9.at_ (by decide)
    refine ⟨_, g12b, p.D, p.B, x, d, 8, 60, 8, rfl, qd, by decide, by decide, fun u1 G1 t1 hu1 => ⟨_, g12b, p.D, p.B, x, d, 20, 400, 20, rfl, qd.same t1, by decide, by decide, fun u2 G2 t2 hu2 => ⟨sz1 rfl, fun M2 nM2 => ?_⟩⟩⟩
    have t3 := same_upd (o := .lst [u1, u2]) nM2
    have t12 := t1.trans t2
    have w12 := w10.same t12
    have w13 := w12.same t3
    have w14 := w13.set (i := 14) (v := some (.ref M2)) (by decide)
    have h12 : (((σ3.set 12 (some x)).set 13 (some (.str d.shown))).set 14 (some (.ref M2)))[12]? = some (some x) := by
      rw [get_set_ne (by decide)]
      exact g12b
    have h13 : (((σ3.set 12 (some x)).set 13 (some (.str d.shown))).set 14 (some (.ref M2)))[13]? = some (some (.str d.shown)) := by
      rw [get_set_ne (by decide)]
      exact g13
    have h14 : (((σ3.set 12 (some x)).set 13 (some (.str d.shown))).set 14 (some (.ref M2)))[14]? = some (some (.ref M2)) := w10.at_ (by decide)
    have qd3 := (qd.same t12).same t3
    refine ⟨_, h12, p.D, p.B, x, d, rfl, qd3, fun u4 G4 t4 hu4 => ⟨_, h12, p.D, p.B, x, d, rfl, qd3.same t4, fun u5 G5 t5 hu5 => ⟨sz1 rfl, fun M3 nM3 => ?_⟩⟩⟩
    have t6 := same_upd (o := .lst [u4, u5]) nM3
    have t45 := t4.trans t5
    have w5 := w14.same t45
    have t46 := t45.trans t6
    have okL : Ok 2 500 (.list [rowErr 8 60 8 d, rowErr 20 400 20 d]) := (ok_lst (n := 2) (a_cons (rowErr_ok (by decide) d) (a_cons (rowErr_ok (by decide) d) a_nil)) (Nat.le_refl 2)).mono (by decide) (by decide)
    have fL : Fine (.list [rowErr 8 60 8 d, rowErr 20 400 20 d]) := okL.mono (by decide) (by decide)
    have due : Dq p.D p.B _ (.ref M2) (.list [rowErr 8 60 8 d, rowErr 20 400 20 d]) := .lst (w12.dk.neD nM2) (w12.dk.neB nM2) (t46 _ _ upd_same) (.cons (((hu1.same t2).same t3).same t46) (.cons ((hu2.same t3).same t46) .nil))
    have got : Dq p.D p.B _ (.ref M3) (.list [rowErr 8 60 8 d, rowErr 20 400 20 d]) := .lst (w5.dk.neD nM3) (w5.dk.neB nM3) upd_same (.cons ((hu4.same t5).same t6) (.cons (hu5.same t6) .nil))
    refine ⟨p.D, p.B, .ref M3, _, rfl, got, fL.sh, fL.zl, fL.dl, _, h14, p.D, p.B, .ref M2, _, rfl, due, fL.sh, fL.zl, fL.dl, rfl, _, rfl, iteNS rfl ⟨_, h12, p.D, p.B, x, d, rfl, qd3.same t46, okd.sh, okd.zl, okd.dl, _, h13, rfl, _, rfl, iteNS rfl ?_⟩⟩
    have tA := (t12.trans t3).trans t46
    exact ⟨w14.same t46, tA _ _ e8, a8.same tA⟩
  · rintro σ3 H8 ⟨w8, _, _⟩
    exact q σ3 H8 w8
end
end Jg
namespace Jg
open PySem PySem.Spec PyProof.Rows L2
/-! ### the law -/
def lastD : PyData := .tuple [.int 0, .tuple [.tuple [.str (Str.ofString "set"), .int 7]], .tuple [.int 0]]
theorem last_ok : rowErr 8 60 8 lastD = .none := by
  have h1 : within 0 8 (.int 0) = true := within_yes (by decide) (by decide)
  have h2 : stepOk 0 (([] : List Int).length : Nat) (.tuple [.str (Str.ofString "set"), .int 7]) = true := ok_set (by decide) (by decide)
  have h3 : szD [] (.tuple [.str (Str.ofString "set"), .int 7]) = 1 := by
    have e : szD [] (.tuple [.str (Str.ofString "set"), .int 7]) = if Str.ofString "set" = Str.ofString "in" ∨ Str.ofString "set" = Str.ofString "set" then 1 else fnd [] 7 := rfl
    rw [e, if_pos (Or.inr rfl)]
  have h4 : errGo 0 [.tuple [.str (Str.ofString "set"), .int 7]] [] = .none := by
    unfold errGo
    rw [if_pos h2, h3, if_neg (by decide)]
    rfl
  show rowErr 8 60 8 (.tuple [.int 0, .tuple [.tuple [.str (Str.ofString "set"), .int 7]], .tuple [.int 0]]) = .none
  rw [rowErr_go h1, stepsErr_go (by decide), h4]
  show endsErr 1 8 (.tuple [.int 0]) = .none
  rw [endsErr_go (by decide)]
  rfl
def spLaw (K : PySem.W.Frag) : Sp := fun vs H Q _ => ∃ (a : Addr) (ns : List Int), vs = [.ref a] ∧ SqL K H a (ns.map V.int) ∧ ns.length ≤ 63 ∧ ∀ H', Q (.bl true) H'
section
variable {P : Program} {w : World} {K : PySem.W.Frag} {mg : Str → Option Value} {base : Heap}
theorem run_law {f : Addr} {fd : FuncData} (F : Fun K "law" "law" sLaw f fd) (T : Env01 P w K mg base) : RunG P w K mg base 9 f fd ["_law_script"] (spLaw K) := by
  refine runG_of F scLaw (fun vs H Q E h => ?_) (fun cdv Ar out s0 H vs Q E hg hr h => ?_)
  · obtain ⟨a, ns, rfl, _⟩ := h
    rfl
  · obtain ⟨a, ns, rfl, hS, hn, q⟩ := h
    obtain ⟨fK, fdK, GK⟩ := T.deck
    obtain ⟨fR, fdR, GR, kR⟩ := T.rerr
    obtain ⟨tA, hA, kA⟩ := b0 (P := P) (w := w) (K := K) (mg := mg) (base := base) (f := f) (cdv := cdv) (Ar := Ar) (out := out) (s0 := s0) (H0 := H) (E := E) T hr
      (pss_cons (b3 T) (pss_cons (b4 T) (pss_cons (b5 T) (pss_cons (b6 T) (pss_cons (b7 T) (pss_cons (b8 T) (pss_cons (b9 T) (pss_cons (b10 T hr) (pss_cons (b11 T) (pss_cons (b12 T) (pss_cons (b13 T hr) (pss_cons (b14 T hr) (pss_one (b15 T hr hg))))))))))))))
    refine ⟨_, pss_cons (ps_set (i := 1) scLaw.nd rfl (.inr rfl) (pe_call GK.F (hr.mono (by decide)) (by rfl) GK.g GK.kp GK.b .nil pass0 (pa_cons (pv 0) pa_nil)))
      (pss_cons (ps_for PassesOwn.never rfl (pi_range1 rfl T.bn.rng (pa_cons pe_int pa_nil)) (pg_name (i := 2) scLaw.nd rfl (.inl rfl)) hA)
      (pss_one (ps_ret (pe_cmpR op_isN (pe_callKO GR.F (hr.mono (by decide)) (by rfl) GR.g GR.kp kR pass0 (pk_cons (pe_tup (pa_cons pe_int (pa_cons (pe_tup (pa_cons (pe_tup (pa_cons pe_str (pa_cons pe_int pa_nil))) pa_nil)) (pa_cons (pe_tup (pa_cons pe_int pa_nil)) pa_nil)))) pk_nil)) pe_non (nomark _))))), ?_⟩
    refine ⟨_, rfl, a, ns, rfl, hS, hn, fun H1 D B C cells s1 _ _ _ dk => ?_⟩
    refine ⟨6, rfl, by decide, by decide, for_range (n := 6) (fun i σ H3 => ∃ D B C cells, W0 D B C cells σ H3) ⟨D, B, C, cells, rfl, rfl, dk⟩ ?_ ?_⟩
    · rintro i σ H3 hi ⟨D, B, C, cells, w0⟩
      refine kA _ _ _ ⟨D, B, C, cells, w0.set (by decide), fun p σ1 G1 wb => ⟨p, wb, fun g xg gd σ3 G3 wg => ⟨p, g, xg, gd, wg, fun L xs ls σ4 G4 ws h4 => ⟨p, g, xg, gd, L, xs, ls, ws, h4, fun L xs ls σ5 G5 ws h5 => ⟨p, g, xg, gd, L, xs, ls, ws, h5, fun L xs ls σ6 G6 ws h6 => ⟨p, g, xg, gd, L, xs, ls, ws, h6, fun L xs ls σ7 G7 ws h7 =>
        ⟨p, g, xg, gd, L, xs, ls, ws, h7, fun L xs ls σ8 G8 ws h8 => ⟨p, g, xg, gd, L, xs, ls, ws, h8, fun L xs ls σ9 G9 ws h9 => ⟨p, g, xg, gd, L, xs, ls, ws, h9, fun L xs ls σa Ga ws ha => ⟨p, g, xg, gd, L, xs, ls, ws, ha, fun L xs ls σb Gb ws hb => ⟨p, g, xg, gd, L, xs, ls, ws, hb, fun L xs ls σc Gc ws hc =>
        ⟨p, g, xg, gd, L, xs, ls, ws, hc, fun σd Gd wl => ⟨p, g, xg, gd, L, xs, ls, wl, hc, fun L xs ls σe Ge ws he => ⟨p, g, xg, gd, L, xs, ls, ws, he, fun σf Gf w0 => ⟨_, _, _, _, w0⟩⟩⟩⟩⟩⟩⟩⟩⟩⟩⟩⟩⟩⟩⟩
    · rintro σ H3 ⟨D, B, C, cells, w0⟩
      refine ⟨sz1 rfl, fun p1 n1 => ⟨sz1 rfl, fun p2 n2 => ⟨sz1 rfl, fun p3 n3 => ⟨sz1 rfl, fun p4 n4 => ?_⟩⟩⟩⟩
      have s1 := same_upd (o := .tup [.str (Str.ofString "set"), .int 7]) n1
      have s2 := same_upd (o := .tup [.ref p1]) n2
      have s3 := same_upd (o := .tup [.int 0]) n3
      have s4 := same_upd (o := .tup [.int 0, .ref p2, .ref p3]) n4
      refine ⟨D, B, .ref p4, lastD, rfl, .tup upd_same (.cons (.int _) (.cons (.tup ((s3.trans s4) _ _ upd_same) (.cons (.tup ((s2.trans (s3.trans s4)) _ _ upd_same) (.cons (.str _) (.cons (.int _) .nil))) .nil)) (.cons (.tup (s4 _ _ upd_same) (.cons (.int _) .nil)) .nil))), fun u H5 s5 hu => ⟨rfl, ?_⟩⟩
      rw [last_ok] at hu
      have hu2 : decide (u = V.non) = true := dq_isN hu
      rw [hu2]
      exact q H5
end
end Jg
namespace Jg
open PySem PySem.Spec PyProof.Rows L2
/-! ### keywords -/
theorem kb_one {K : PySem.W.Frag} {fd : FuncData} {x : Str} (h : ∀ v, bindArgs fd ⟨[], [(x, v)]⟩ = pure [(x, v)]) : KBinds K fd [x] [x] kwOne kwOneV where
  to := fun s us ws _ hl => match us, ws, hl with
    | [], [v], _ => .of_eq (h v)
    | [], [], z => absurd z Nat.zero_ne_one
    | [], _ :: _ :: _, z => absurd z (Nat.zero_ne_one)
    | _ :: _, _, z => absurd z (Nat.zero_ne_one)
  rel := fun r1 r2 => by
    cases r1 with
    | nil =>
      cases r2 with
      | nil => exact .nil
      | cons a r =>
        cases r with
        | nil => exact .cons a .nil
        | cons b r => exact .nil
    | cons a r => exact .nil
/-! ### the program's table of words, by its entries -/
def kvOf (e : DictEntry) : Option (Str × Int) := match e.key, e.val with
  | .str x _, .int i _ => some (x, i)
  | _, _ => none
def lookE : List (Str × Int) → Str → Option Int
  | [], _ => none
  | (k, i) :: r, x => if k = x then some i else lookE r x
def wordsN : List (Str × Int) := [(Str.ofString "in", 1), (Str.ofString "set", 1), (Str.ofString "neg", 1), (Str.ofString "+", 2), (Str.ofString "-", 2), (Str.ofString "*", 2)]
theorem numOf_look (x : Str) : numOf x = lookE wordsN x := by
  unfold numOf wordsN
  simp only [lookE]
  by_cases h1 : x = Str.ofString "in"
  · rw [if_pos (.inl h1), if_pos h1.symm]
  · by_cases h2 : x = Str.ofString "set"
    · rw [if_pos (.inr (.inl h2)), if_neg (Ne.symm h1), if_pos h2.symm]
    · by_cases h3 : x = Str.ofString "neg"
      · rw [if_pos (.inr (.inr h3)), if_neg (Ne.symm h1), if_neg (Ne.symm h2), if_pos h3.symm]
      · rw [if_neg (fun z => z.elim h1 fun z => z.elim h2 h3), if_neg (Ne.symm h1), if_neg (Ne.symm h2), if_neg (Ne.symm h3)]
        by_cases h4 : x = Str.ofString "+"
        · rw [if_pos (.inl h4), if_pos h4.symm]
        · by_cases h5 : x = Str.ofString "-"
          · rw [if_pos (.inr (.inl h5)), if_neg (Ne.symm h4), if_pos h5.symm]
          · by_cases h6 : x = Str.ofString "*"
            · rw [if_pos (.inr (.inr h6)), if_neg (Ne.symm h4), if_neg (Ne.symm h5), if_pos h6.symm]
            · rw [if_neg (fun z => z.elim h4 fun z => z.elim h5 h6), if_neg (Ne.symm h4), if_neg (Ne.symm h5), if_neg (Ne.symm h6)]
theorem find_kv {x : Str} : ∀ (l : List DictEntry) (ps : List (Str × Int)), l.map kvOf = ps.map some →
    (l.find? (·.key.isStr x) = none ∧ lookE ps x = none ∧ l.any (·.refKey) = false) ∨ ∃ en i t, l.find? (·.key.isStr x) = some en ∧ en.val = .int i t ∧ lookE ps x = some i
  | [], [], _ => .inl ⟨rfl, rfl, rfl⟩
  | [], _ :: _, h => by cases h
  | _ :: _, [], h => by cases h
  | e :: l, (k, i) :: ps, h => by
    obtain ⟨h1, h2⟩ := List.cons.inj h
    obtain ⟨hs, ky, vl⟩ := e
    have h3 : kvOf ⟨hs, ky, vl⟩ = some (k, i) := h1
    unfold kvOf at h3
    split at h3
    · rename_i y ty j tj hk hv
      obtain ⟨rfl, rfl⟩ := Prod.mk.inj (Option.some.inj h3)
      have hk2 : ky = .str y ty := hk
      have hv2 : vl = .int j tj := hv
      subst hk2 hv2
      by_cases c : y = x
      · refine .inr ⟨⟨hs, .str y ty, .int j tj⟩, j, tj, ?_, rfl, if_pos c⟩
        rw [List.find?_cons]
        have e1 : (Value.str y ty).isStr x = true := by
          rw [PySem.W.isStr_of]
          show (y == x) = true
          rw [c]
          exact beq_self_eq_true x
        show (match (Value.str y ty).isStr x with | true => _ | false => _) = _
        rw [e1]
      · have e1 : (Value.str y ty).isStr x = false := by
          rw [PySem.W.isStr_of]
          show (y == x) = false
          exact beq_eq_false_iff_ne.mpr c
        have e2 : (DictEntry.mk hs (.str y ty) (.int j tj) :: l).find? (·.key.isStr x) = l.find? (·.key.isStr x) := by
          rw [List.find?_cons]
          show (match (Value.str y ty).isStr x with | true => _ | false => _) = _
          rw [e1]
        rw [e2, show lookE ((y, j) :: ps) x = lookE ps x from if_neg c]
        rcases find_kv l ps h2 with ⟨a1, a2, a3⟩ | hx
        · refine .inl ⟨a1, a2, ?_⟩
          rw [List.any_cons, a3]
          rfl
        · exact .inr hx
    · cases h3
theorem nums_of {K : PySem.W.Frag} {w : World} {mg : Str → Option Value} {d : Addr} {es : Array DictEntry} {n : Nat} (g : mg "NUMBERS" = some (.ref d)) (l : K.lookup d = some ⟨.type "dict", none, .dict es n, #[]⟩) (lit : PySem.W.KeysLit w.params es.toList) (low : (d == sysModules) = false) (e : es.toList.map kvOf = wordsN.map some) : Nums K w mg d where
  g := g
  D := ⟨es, n, l, lit, low⟩
  none := fun x h => by
    rw [numOf_look] at h
    unfold PySem.W.nsIn
    rw [l]
    rcases find_kv (x := x) es.toList wordsN e with ⟨a1, _, a3⟩ | ⟨en, i, t, _, _, a3⟩
    · show (match es.toList.find? (·.key.isStr x) with | some en => some (some en.val) | none => if es.toList.any (·.refKey) then none else some none) = _
      rw [a1]
      show (if es.toList.any (·.refKey) = true then none else some none) = _
      rw [a3]
      rfl
    · rw [a3] at h
      cases h
  some := fun x i h => by
    rw [numOf_look] at h
    rcases find_kv (x := x) es.toList wordsN e with ⟨_, a2, _⟩ | ⟨en, j, t, a1, a2, a3⟩
    · rw [a2] at h
      cases h
    · rw [a3] at h
      cases h
      refine ⟨t, ?_⟩
      unfold PySem.W.nsIn
      rw [l]
      show (match es.toList.find? (·.key.isStr x) with | some en => some (some en.val) | none => if es.toList.any (·.refKey) then none else some none) = _
      rw [a1]
      show some (some en.val) = _
      rw [a2]
/-! ### what the top has written -/
theorem all_mk {l : PySem.W.OpenLaw} {w : World} {K : PySem.W.Frag} {h : Heap} {mg : Str → Option Value} {fa f8 f9 f10 f13 f14 f15 f16 f17 f18 f19 f20 f21 f23 f24 f25 f26 f27 f28 f29 f30 f31 f32 f33 dN : Addr} {tk_MAX_NUMBER tk_MAX_SIZE tk_MAX_INPUTS tk_MAX_STEPS tk_MAX_ENDS tk_MAX_WIDE tk_MAX_LONG : Tok} {esN : Array DictEntry} {nN : Nat} (X : K.In h) (G : h.Ns mainGlobals mg) (hfa : mg "law" = some (.ref fa))
    {od8 an8 od9 an9 od10 an10 od13 an13 od14 an14 od15 an15 od16 an16 od17 an17 od18 an18 od19 an19 od20 an20 od21 an21 od23 an23 od24 an24 od25 an25 od26 an26 od27 an27 od28 an28 od29 an29 od30 an30 od31 an31 od32 an32 od33 an33 : Option Addr} {sl8 sl9 sl10 sl13 sl14 sl15 sl16 sl17 sl18 sl19 sl20 sl21 sl23 sl24 sl25 sl26 sl27 sl28 sl29 sl30 sl31 sl32 sl33 : Array (Option Value)} {oc8 kV8 dc8 pm8 cd8 ct8 oc9 kV9 dc9 pm9 cd9 ct9 oc10 kV10 dc10 pm10 cd10 ct10 oc13 kV13 dc13 pm13 cd13 ct13 oc14 kV14 dc14 pm14 cd14 ct14 oc15 kV15 dc15 pm15 cd15 ct15 oc16 kV16 dc16 pm16 cd16 ct16 oc17 kV17 dc17 pm17 cd17 ct17 oc18 kV18 dc18 pm18 cd18 ct18 oc19 kV19 dc19 pm19 cd19 ct19 oc20 kV20 dc20 pm20 cd20 ct20 oc21 kV21 dc21 pm21 cd21 ct21 oc23 kV23 dc23 pm23 cd23 ct23 oc24 kV24 dc24 pm24 cd24 ct24 oc25 kV25 dc25 pm25 cd25 ct25 oc26 kV26 dc26 pm26 cd26 ct26 oc27 kV27 dc27 pm27 cd27 ct27 oc28 kV28 dc28 pm28 cd28 ct28 oc29 kV29 dc29 pm29 cd29 ct29 oc30 kV30 dc30 pm30 cd30 ct30 oc31 kV31 dc31 pm31 cd31 ct31 oc32 kV32 dc32 pm32 cd32 ct32 oc33 kV33 dc33 pm33 cd33 ct33 : Value}
    (a8 : PySem.W.nsIn K mainGlobals "is_integer" = some (some (.ref f8))) (l8 : K.lookup f8 = some ⟨oc8, od8, .func (PySem.W.fnOf "is_integer" "is_integer" (defArgs sInt) (defBody sInt) (defScope sInt) .none kV8 dc8 pm8 an8 cd8 ct8), sl8⟩) (c8 : PySem.W.codeIn K cd8 "is_integer" = true) (k8 : PySem.W.keepIn K (.ref f8) = true)
    (a9 : PySem.W.nsIn K mainGlobals "is_within" = some (some (.ref f9))) (l9 : K.lookup f9 = some ⟨oc9, od9, .func (PySem.W.fnOf "is_within" "is_within" (defArgs sWith) (defBody sWith) (defScope sWith) .none kV9 dc9 pm9 an9 cd9 ct9), sl9⟩) (c9 : PySem.W.codeIn K cd9 "is_within" = true) (k9 : PySem.W.keepIn K (.ref f9) = true)
    (a10 : PySem.W.nsIn K mainGlobals "is_tuple_of" = some (some (.ref f10))) (l10 : K.lookup f10 = some ⟨oc10, od10, .func (PySem.W.fnOf "is_tuple_of" "is_tuple_of" (defArgs sTupO) (defBody sTupO) (defScope sTupO) .none kV10 dc10 pm10 an10 cd10 ct10), sl10⟩) (c10 : PySem.W.codeIn K cd10 "is_tuple_of" = true) (k10 : PySem.W.keepIn K (.ref f10) = true)
    (a13 : PySem.W.nsIn K mainGlobals "row_error" = some (some (.ref f13))) (l13 : K.lookup f13 = some ⟨oc13, od13, .func (PySem.W.fnOf "row_error" "row_error" (defArgs sRowEr) (defBody sRowEr) (defScope sRowEr) .none kV13 dc13 pm13 an13 cd13 ct13), sl13⟩) (c13 : PySem.W.codeIn K cd13 "row_error" = true) (k13 : PySem.W.keepIn K (.ref f13) = true)
    (a14 : PySem.W.nsIn K mainGlobals "long_error" = some (some (.ref f14))) (l14 : K.lookup f14 = some ⟨oc14, od14, .func (PySem.W.fnOf "long_error" "long_error" (defArgs sLongEr) (defBody sLongEr) (defScope sLongEr) .none kV14 dc14 pm14 an14 cd14 ct14), sl14⟩) (c14 : PySem.W.codeIn K cd14 "long_error" = true) (k14 : PySem.W.keepIn K (.ref f14) = true)
    (a15 : PySem.W.nsIn K mainGlobals "_first_error" = some (some (.ref f15))) (l15 : K.lookup f15 = some ⟨oc15, od15, .func (PySem.W.fnOf "_first_error" "_first_error" (defArgs sFirst) (defBody sFirst) (defScope sFirst) .none kV15 dc15 pm15 an15 cd15 ct15), sl15⟩) (c15 : PySem.W.codeIn K cd15 "_first_error" = true) (k15 : PySem.W.keepIn K (.ref f15) = true)
    (a16 : PySem.W.nsIn K mainGlobals "_step_error" = some (some (.ref f16))) (l16 : K.lookup f16 = some ⟨oc16, od16, .func (PySem.W.fnOf "_step_error" "_step_error" (defArgs sStepE) (defBody sStepE) (defScope sStepE) .none kV16 dc16 pm16 an16 cd16 ct16), sl16⟩) (c16 : PySem.W.codeIn K cd16 "_step_error" = true) (k16 : PySem.W.keepIn K (.ref f16) = true)
    (a17 : PySem.W.nsIn K mainGlobals "_is_step" = some (some (.ref f17))) (l17 : K.lookup f17 = some ⟨oc17, od17, .func (PySem.W.fnOf "_is_step" "_is_step" (defArgs sPStep) (defBody sPStep) (defScope sPStep) .none kV17 dc17 pm17 an17 cd17 ct17), sl17⟩) (c17 : PySem.W.codeIn K cd17 "_is_step" = true) (k17 : PySem.W.keepIn K (.ref f17) = true)
    (a18 : PySem.W.nsIn K mainGlobals "parts_of" = some (some (.ref f18))) (l18 : K.lookup f18 = some ⟨oc18, od18, .func (PySem.W.fnOf "parts_of" "parts_of" (defArgs sParts) (defBody sParts) (defScope sParts) .none kV18 dc18 pm18 an18 cd18 ct18), sl18⟩) (c18 : PySem.W.codeIn K cd18 "parts_of" = true) (k18 : PySem.W.keepIn K (.ref f18) = true)
    (a19 : PySem.W.nsIn K mainGlobals "_come_to" = some (some (.ref f19))) (l19 : K.lookup f19 = some ⟨oc19, od19, .func (PySem.W.fnOf "_come_to" "_come_to" (defArgs sCome) (defBody sCome) (defScope sCome) .none kV19 dc19 pm19 an19 cd19 ct19), sl19⟩) (c19 : PySem.W.codeIn K cd19 "_come_to" = true) (k19 : PySem.W.keepIn K (.ref f19) = true)
    (a20 : PySem.W.nsIn K mainGlobals "_leaf_size" = some (some (.ref f20))) (l20 : K.lookup f20 = some ⟨oc20, od20, .func (PySem.W.fnOf "_leaf_size" "_leaf_size" (defArgs sLeafS) (defBody sLeafS) (defScope sLeafS) .none kV20 dc20 pm20 an20 cd20 ct20), sl20⟩) (c20 : PySem.W.codeIn K cd20 "_leaf_size" = true) (k20 : PySem.W.keepIn K (.ref f20) = true)
    (a21 : PySem.W.nsIn K mainGlobals "_joined_size" = some (some (.ref f21))) (l21 : K.lookup f21 = some ⟨oc21, od21, .func (PySem.W.fnOf "_joined_size" "_joined_size" (defArgs sJoinS) (defBody sJoinS) (defScope sJoinS) .none kV21 dc21 pm21 an21 cd21 ct21), sl21⟩) (c21 : PySem.W.codeIn K cd21 "_joined_size" = true) (k21 : PySem.W.keepIn K (.ref f21) = true)
    (a23 : PySem.W.nsIn K mainGlobals "_law_deck" = some (some (.ref f23))) (l23 : K.lookup f23 = some ⟨oc23, od23, .func (PySem.W.fnOf "_law_deck" "_law_deck" (defArgs sDeck) (defBody sDeck) (defScope sDeck) .none kV23 dc23 pm23 an23 cd23 ct23), sl23⟩) (c23 : PySem.W.codeIn K cd23 "_law_deck" = true) (k23 : PySem.W.keepIn K (.ref f23) = true)
    (a24 : PySem.W.nsIn K mainGlobals "_law_draw" = some (some (.ref f24))) (l24 : K.lookup f24 = some ⟨oc24, od24, .func (PySem.W.fnOf "_law_draw" "_law_draw" (defArgs sDraw) (defBody sDraw) (defScope sDraw) .none kV24 dc24 pm24 an24 cd24 ct24), sl24⟩) (c24 : PySem.W.codeIn K cd24 "_law_draw" = true) (k24 : PySem.W.keepIn K (.ref f24) = true)
    (a25 : PySem.W.nsIn K mainGlobals "_law_one" = some (some (.ref f25))) (l25 : K.lookup f25 = some ⟨oc25, od25, .func (PySem.W.fnOf "_law_one" "_law_one" (defArgs sOne) (defBody sOne) (defScope sOne) .none kV25 dc25 pm25 an25 cd25 ct25), sl25⟩) (c25 : PySem.W.codeIn K cd25 "_law_one" = true) (k25 : PySem.W.keepIn K (.ref f25) = true)
    (a26 : PySem.W.nsIn K mainGlobals "_law_bent" = some (some (.ref f26))) (l26 : K.lookup f26 = some ⟨oc26, od26, .func (PySem.W.fnOf "_law_bent" "_law_bent" (defArgs sBent) (defBody sBent) (defScope sBent) .none kV26 dc26 pm26 an26 cd26 ct26), sl26⟩) (c26 : PySem.W.codeIn K cd26 "_law_bent" = true) (k26 : PySem.W.keepIn K (.ref f26) = true)
    (a27 : PySem.W.nsIn K mainGlobals "_law_whole" = some (some (.ref f27))) (l27 : K.lookup f27 = some ⟨oc27, od27, .func (PySem.W.fnOf "_law_whole" "_law_whole" (defArgs sWhole) (defBody sWhole) (defScope sWhole) .none kV27 dc27 pm27 an27 cd27 ct27), sl27⟩) (c27 : PySem.W.codeIn K cd27 "_law_whole" = true) (k27 : PySem.W.keepIn K (.ref f27) = true)
    (a28 : PySem.W.nsIn K mainGlobals "_law_odd" = some (some (.ref f28))) (l28 : K.lookup f28 = some ⟨oc28, od28, .func (PySem.W.fnOf "_law_odd" "_law_odd" (defArgs sOdd) (defBody sOdd) (defScope sOdd) .none kV28 dc28 pm28 an28 cd28 ct28), sl28⟩) (c28 : PySem.W.codeIn K cd28 "_law_odd" = true) (k28 : PySem.W.keepIn K (.ref f28) = true)
    (a29 : PySem.W.nsIn K mainGlobals "_law_size" = some (some (.ref f29))) (l29 : K.lookup f29 = some ⟨oc29, od29, .func (PySem.W.fnOf "_law_size" "_law_size" (defArgs sSize) (defBody sSize) (defScope sSize) .none kV29 dc29 pm29 an29 cd29 ct29), sl29⟩) (c29 : PySem.W.codeIn K cd29 "_law_size" = true) (k29 : PySem.W.keepIn K (.ref f29) = true)
    (a30 : PySem.W.nsIn K mainGlobals "_law_row" = some (some (.ref f30))) (l30 : K.lookup f30 = some ⟨oc30, od30, .func (PySem.W.fnOf "_law_row" "_law_row" (defArgs sLRow) (defBody sLRow) (defScope sLRow) .none kV30 dc30 pm30 an30 cd30 ct30), sl30⟩) (c30 : PySem.W.codeIn K cd30 "_law_row" = true) (k30 : PySem.W.keepIn K (.ref f30) = true)
    (a31 : PySem.W.nsIn K mainGlobals "_law_is_step" = some (some (.ref f31))) (l31 : K.lookup f31 = some ⟨oc31, od31, .func (PySem.W.fnOf "_law_is_step" "_law_is_step" (defArgs sStep) (defBody sStep) (defScope sStep) .none kV31 dc31 pm31 an31 cd31 ct31), sl31⟩) (c31 : PySem.W.codeIn K cd31 "_law_is_step" = true) (k31 : PySem.W.keepIn K (.ref f31) = true)
    (a32 : PySem.W.nsIn K mainGlobals "_law_row_error" = some (some (.ref f32))) (l32 : K.lookup f32 = some ⟨oc32, od32, .func (PySem.W.fnOf "_law_row_error" "_law_row_error" (defArgs sRowE) (defBody sRowE) (defScope sRowE) .none kV32 dc32 pm32 an32 cd32 ct32), sl32⟩) (c32 : PySem.W.codeIn K cd32 "_law_row_error" = true) (k32 : PySem.W.keepIn K (.ref f32) = true)
    (a33 : PySem.W.nsIn K mainGlobals "law" = some (some (.ref f33))) (l33 : K.lookup f33 = some ⟨oc33, od33, .func (PySem.W.fnOf "law" "law" (defArgs sLaw) (defBody sLaw) (defScope sLaw) .none kV33 dc33 pm33 an33 cd33 ct33), sl33⟩) (c33 : PySem.W.codeIn K cd33 "law" = true) (k33 : PySem.W.keepIn K (.ref f33) = true)
    (aN : PySem.W.nsIn K mainGlobals "NUMBERS" = some (some (.ref dN))) (lN : K.lookup dN = some ⟨.type "dict", none, .dict esN nN, #[]⟩) (tN : PySem.W.KeysLit w.params esN.toList) (uN : (dN == sysModules) = false) (eN : esN.toList.map kvOf = wordsN.map some)
    (a_MAX_NUMBER : PySem.W.nsIn K mainGlobals "MAX_NUMBER" = some (some (.int M20 tk_MAX_NUMBER)))
    (a_MAX_SIZE : PySem.W.nsIn K mainGlobals "MAX_SIZE" = some (some (.int 64 tk_MAX_SIZE)))
    (a_MAX_INPUTS : PySem.W.nsIn K mainGlobals "MAX_INPUTS" = some (some (.int 8 tk_MAX_INPUTS)))
    (a_MAX_STEPS : PySem.W.nsIn K mainGlobals "MAX_STEPS" = some (some (.int 60 tk_MAX_STEPS)))
    (a_MAX_ENDS : PySem.W.nsIn K mainGlobals "MAX_ENDS" = some (some (.int 8 tk_MAX_ENDS)))
    (a_MAX_WIDE : PySem.W.nsIn K mainGlobals "MAX_WIDE" = some (some (.int 20 tk_MAX_WIDE)))
    (a_MAX_LONG : PySem.W.nsIn K mainGlobals "MAX_LONG" = some (some (.int 400 tk_MAX_LONG)))
    (z_isinstance : PySem.W.nsIn K mainGlobals "isinstance" = some none) (z_int : PySem.W.nsIn K mainGlobals "int" = some none) (z_bool : PySem.W.nsIn K mainGlobals "bool" = some none) (z_tuple : PySem.W.nsIn K mainGlobals "tuple" = some none) (z_len : PySem.W.nsIn K mainGlobals "len" = some none) (z_all : PySem.W.nsIn K mainGlobals "all" = some none) (z_range : PySem.W.nsIn K mainGlobals "range" = some none) (z_list : PySem.W.nsIn K mainGlobals "list" = some none) (z_str : PySem.W.nsIn K mainGlobals "str" = some none) (z_min : PySem.W.nsIn K mainGlobals "min" = some none) (z_repr : PySem.W.nsIn K mainGlobals "repr" = some none) (z_abs : PySem.W.nsIn K mainGlobals "abs" = some none) (z_max : PySem.W.nsIn K mainGlobals "max" = some none) (z_sum : PySem.W.nsIn K mainGlobals "sum" = some none) (z_enumerate : PySem.W.nsIn K mainGlobals "enumerate" = some none) :
    ∃ fd : FuncData, (∀ (s : Shared) (v : Value), BindsTo s fd ⟨[v], []⟩ [("_law_script", v)]) ∧ ∀ base : Heap, K.In base → base.Ns mainGlobals mg → RunG l.prog w K mg base 9 fa fd ["_law_script"] (spLaw K) := by
  have e := hfa.symm.trans (PySem.W.mg_of X G a33)
  cases e
  have T : Bn mg := ⟨PySem.W.mg_none_of X G z_isinstance, PySem.W.mg_none_of X G z_int, PySem.W.mg_none_of X G z_bool, PySem.W.mg_none_of X G z_tuple, PySem.W.mg_none_of X G z_len, PySem.W.mg_none_of X G z_all, PySem.W.mg_none_of X G z_range, PySem.W.mg_none_of X G z_list, PySem.W.mg_none_of X G z_str, PySem.W.mg_none_of X G z_min, PySem.W.mg_none_of X G z_repr, PySem.W.mg_none_of X G z_abs, PySem.W.mg_none_of X G z_max, PySem.W.mg_none_of X G z_sum, PySem.W.mg_none_of X G z_enumerate⟩
  have F8 := fun_mk (st := sInt) l8 c8 k8
  have b8 := F8.binds (ps := ["value"]) fun _ _ _ _ _ _ us hl => match us, hl with | [_], _ => rfl
  have g8 := PySem.W.mg_of X G a8
  have F9 := fun_mk (st := sWith) l9 c9 k9
  have b9 := F9.binds (ps := ["value", "low", "high"]) fun _ _ _ _ _ _ us hl => match us, hl with | [_, _, _], _ => rfl
  have g9 := PySem.W.mg_of X G a9
  have F10 := fun_mk (st := sTupO) l10 c10 k10
  have b10 := F10.binds (ps := ["value", "many"]) fun _ _ _ _ _ _ us hl => match us, hl with | [_, _], _ => rfl
  have g10 := PySem.W.mg_of X G a10
  have F13 := fun_mk (st := sRowEr) l13 c13 k13
  have b13 := F13.binds (ps := ["value"]) fun _ _ _ _ _ _ us hl => match us, hl with | [_], _ => rfl
  have g13 := PySem.W.mg_of X G a13
  have F14 := fun_mk (st := sLongEr) l14 c14 k14
  have b14 := F14.binds (ps := ["value"]) fun _ _ _ _ _ _ us hl => match us, hl with | [_], _ => rfl
  have g14 := PySem.W.mg_of X G a14
  have F15 := fun_mk (st := sFirst) l15 c15 k15
  have b15 := F15.binds (ps := ["value", "most_inputs", "most_steps", "most_ends"]) fun _ _ _ _ _ _ us hl => match us, hl with | [_, _, _, _], _ => rfl
  have g15 := PySem.W.mg_of X G a15
  have F16 := fun_mk (st := sStepE) l16 c16 k16
  have b16 := F16.binds (ps := ["inputs", "steps"]) fun _ _ _ _ _ _ us hl => match us, hl with | [_, _], _ => rfl
  have g16 := PySem.W.mg_of X G a16
  have F17 := fun_mk (st := sPStep) l17 c17 k17
  have b17 := F17.binds (ps := ["value", "number", "inputs"]) fun _ _ _ _ _ _ us hl => match us, hl with | [_, _, _], _ => rfl
  have g17 := PySem.W.mg_of X G a17
  have F18 := fun_mk (st := sParts) l18 c18 k18
  have b18 := F18.binds (ps := ["step"]) fun _ _ _ _ _ _ us hl => match us, hl with | [_], _ => rfl
  have g18 := PySem.W.mg_of X G a18
  have F19 := fun_mk (st := sCome) l19 c19 k19
  have b19 := F19.binds (ps := ["step", "reached", "leaf", "joined"]) fun _ _ _ _ _ _ us hl => match us, hl with | [_, _, _, _], _ => rfl
  have g19 := PySem.W.mg_of X G a19
  have F20 := fun_mk (st := sLeafS) l20 c20 k20
  have b20 := F20.binds (ps := ["word", "number"]) fun _ _ _ _ _ _ us hl => match us, hl with | [_, _], _ => rfl
  have g20 := PySem.W.mg_of X G a20
  have F21 := fun_mk (st := sJoinS) l21 c21 k21
  have b21 := F21.binds (ps := ["word", "parts"]) fun _ _ _ _ _ _ us hl => match us, hl with | [_, _], _ => rfl
  have g21 := PySem.W.mg_of X G a21
  have F23 := fun_mk (st := sDeck) l23 c23 k23
  have b23 := F23.binds (ps := ["_law_script"]) fun _ _ _ _ _ _ us hl => match us, hl with | [_], _ => rfl
  have g23 := PySem.W.mg_of X G a23
  have F24 := fun_mk (st := sDraw) l24 c24 k24
  have b24 := F24.binds (ps := ["_law_deck_here", "_law_many"]) fun _ _ _ _ _ _ us hl => match us, hl with | [_, _], _ => rfl
  have g24 := PySem.W.mg_of X G a24
  have F25 := fun_mk (st := sOne) l25 c25 k25
  have b25 := F25.binds (ps := ["_law_deck_here", "_law_items"]) fun _ _ _ _ _ _ us hl => match us, hl with | [_, _], _ => rfl
  have g25 := PySem.W.mg_of X G a25
  have F26 := fun_mk (st := sBent) l26 c26 k26
  have b26 := F26.binds (ps := ["_law_deck_here", "_law_value", "_law_deep"]) fun _ _ _ _ _ _ us hl => match us, hl with | [_, _, _], _ => rfl
  have g26 := PySem.W.mg_of X G a26
  have F27 := fun_mk (st := sWhole) l27 c27 k27
  have b27 := F27.binds (ps := ["_law_value", "_law_least", "_law_most"]) fun _ _ _ _ _ _ us hl => match us, hl with | [_, _, _], _ => rfl
  have g27 := PySem.W.mg_of X G a27
  have F28 := fun_mk (st := sOdd) l28 c28 k28
  have b28 := F28.binds (ps := ["_law_deck_here"]) fun _ _ _ _ _ _ us hl => match us, hl with | [_], _ => rfl
  have g28 := PySem.W.mg_of X G a28
  have F29 := fun_mk (st := sSize) l29 c29 k29
  have b29 := F29.binds (ps := ["_law_step", "_law_found"]) fun _ _ _ _ _ _ us hl => match us, hl with | [_, _], _ => rfl
  have g29 := PySem.W.mg_of X G a29
  have F30 := fun_mk (st := sLRow) l30 c30 k30
  have b30 := F30.binds (ps := ["_law_deck_here", "_law_inputs", "_law_many", "_law_most"]) fun _ _ _ _ _ _ us hl => match us, hl with | [_, _, _, _], _ => rfl
  have g30 := PySem.W.mg_of X G a30
  have F31 := fun_mk (st := sStep) l31 c31 k31
  have b31 := F31.binds (ps := ["_law_value", "_law_inputs", "_law_number"]) fun _ _ _ _ _ _ us hl => match us, hl with | [_, _, _], _ => rfl
  have g31 := PySem.W.mg_of X G a31
  have F32 := fun_mk (st := sRowE) l32 c32 k32
  have b32 := F32.binds (ps := ["_law_value", "_law_inputs", "_law_steps", "_law_ends"]) fun _ _ _ _ _ _ us hl => match us, hl with | [_, _, _, _], _ => rfl
  have g32 := PySem.W.mg_of X G a32
  have F33 := fun_mk (st := sLaw) l33 c33 k33
  have g_MAX_NUMBER := PySem.W.mg_of X G a_MAX_NUMBER
  have g_MAX_SIZE := PySem.W.mg_of X G a_MAX_SIZE
  have g_MAX_INPUTS := PySem.W.mg_of X G a_MAX_INPUTS
  have g_MAX_STEPS := PySem.W.mg_of X G a_MAX_STEPS
  have g_MAX_ENDS := PySem.W.mg_of X G a_MAX_ENDS
  have g_MAX_WIDE := PySem.W.mg_of X G a_MAX_WIDE
  have g_MAX_LONG := PySem.W.mg_of X G a_MAX_LONG
  have NN : Nums K w mg dN := nums_of (PySem.W.mg_of X G aN) lN tN uN eN
  have D_ : Dr K mg f24 _ := ⟨F24, b24, g24⟩
  have O_ : On K mg f25 _ := ⟨F25, b25, g25⟩
  have X_ : Od K mg f28 _ := ⟨F28, b28, g28⟩
  have Z_ : Nm K mg "_law_size" sSize ["_law_step", "_law_found"] f29 _ := ⟨F29, b29, g29⟩
  have G_ : Pg K w mg := {
    int := ⟨f8, _, ⟨F8, b8, g8⟩⟩
    wit := ⟨f9, _, ⟨F9, b9, g9⟩⟩
    tup := ⟨f10, _, ⟨F10, b10, g10⟩⟩
    stp := ⟨f17, _, ⟨F17, b17, g17⟩⟩
    par := ⟨f18, _, ⟨F18, b18, g18⟩⟩
    com := ⟨f19, _, ⟨F19, b19, g19⟩⟩
    lef := ⟨f20, _, ⟨F20, b20, g20⟩⟩
    joi := ⟨f21, _, ⟨F21, b21, g21⟩⟩
    err := ⟨f16, _, ⟨F16, b16, g16⟩⟩
    fst := ⟨f15, _, ⟨F15, b15, g15⟩⟩
    num := ⟨dN, NN⟩
    mxN := ⟨_, g_MAX_NUMBER⟩
    mxS := ⟨_, g_MAX_SIZE⟩
    mxI := ⟨_, g_MAX_INPUTS⟩
    mxT := ⟨_, g_MAX_STEPS⟩
    mxE := ⟨_, g_MAX_ENDS⟩
    mxW := ⟨_, g_MAX_WIDE⟩
    mxL := ⟨_, g_MAX_LONG⟩ }
  refine ⟨PySem.W.fnOf "law" "law" (defArgs sLaw) (defBody sLaw) (defScope sLaw) .none kV33 dc33 pm33 an33 cd33 ct33, fun s v => .of_eq rfl, fun base _ _ => run_law F33 ?_⟩
  have B0 : FnOk l.prog w K mg base CX0 3 f26 (PySem.W.fnOf "_law_bent" "_law_bent" (defArgs sBent) (defBody sBent) (defScope sBent) .none kV26 dc26 pm26 an26 cd26 ct26) ["_law_deck_here", "_law_value", "_law_deep"] (spB 0) := ⟨fun _ _ _ _ z => False.elim z, fun _ _ _ _ _ _ _ _ _ _ _ _ _ z => False.elim z⟩
  have B1 := ok_bent (n := 0) (by decide) (by decide) F26 b26 g26 B0 X_ O_ D_ T
  have B2 := ok_bent (n := 1) (by decide) (by decide) F26 b26 g26 B1 X_ O_ D_ T
  have B3 := ok_bent (n := 2) (by decide) (by decide) F26 b26 g26 B2 X_ O_ D_ T
  have B4 := ok_bent (n := 3) (by decide) (by decide) F26 b26 g26 B3 X_ O_ D_ T
  exact {
    bn := T
    deck := ⟨f23, _, ⟨ok_deck F23 T.abs T.len, g23, k23, b23⟩⟩
    draw := ⟨f24, _, ⟨ok_draw F24 T.int T.len, g24, k24, b24⟩⟩
    one := ⟨f25, _, ⟨ok_one F25 F24 b24 g24 T.int T.len, g25, k25, b25⟩⟩
    odd := ⟨f28, _, ⟨ok_odd F28 F25 b25 g25 F24 b24 g24 T, g28, k28, b28⟩⟩
    bent := ⟨f26, _, ⟨ok_bent (n := 4) (by decide) (by decide) F26 b26 g26 B4 X_ O_ D_ T, g26, k26, b26⟩⟩
    row := ⟨f30, _, ⟨ok_lrow ⟨F30, b30, g30⟩ O_ D_ Z_ T, g30, k30, b30⟩⟩
    lerr := ⟨f32, _, ⟨ok_lrowE F32 F31 b31 g31 F27 b27 g27 F29 b29 g29 T, g32, k32, b32⟩⟩
    rerr := ⟨f13, _, ⟨ok_rowEr ⟨F13, b13, g13⟩ G_ T, g13, k13, b13⟩, kb_one fun v => rfl⟩
    lonE := ⟨f14, _, ⟨ok_longEr ⟨F14, b14, g14⟩ G_ T, g14, k14, b14⟩, kb_one fun v => rfl⟩ }
end Jg
open PySem PySem.W PyProof.Rows
set_option maxRecDepth 100000 in
set_option maxHeartbeats 0 in
theorem PySem.Challenge.cw_rowsback_k01_what_is_a_row_holds : PySem.Challenge.rw_rowsback_k01_what_is_a_row.Holds := by
  w_on; o_law; k_head; (case hw => w_witness2)
  k_fill
  refine Jg.walk_ofG (l := PySem.Challenge.rw_rowsback_k01_what_is_a_row) (n := 63) (k := 9) (x := "_law_script") (sp := fun w => Jg.spLaw _) rfl (by decide) rfl ⟨rfl, by decide, by decide⟩ (fun w h Y => PySem.W.kIn_of Y) ?F (fun _ _ a ns hl _ hS => ⟨a, ns, rfl, hS, hl, fun _ => rfl⟩)
  case F =>
    intro w mg fa h KX G hmg
    refine' Jg.all_mk KX G hmg ?a8 ?l8 ?c8 ?k8 ?a9 ?l9 ?c9 ?k9 ?a10 ?l10 ?c10 ?k10 ?a13 ?l13 ?c13 ?k13 ?a14 ?l14 ?c14 ?k14 ?a15 ?l15 ?c15 ?k15 ?a16 ?l16 ?c16 ?k16 ?a17 ?l17 ?c17 ?k17 ?a18 ?l18 ?c18 ?k18 ?a19 ?l19 ?c19 ?k19 ?a20 ?l20 ?c20 ?k20 ?a21 ?l21 ?c21 ?k21 ?a23 ?l23 ?c23 ?k23 ?a24 ?l24 ?c24 ?k24 ?a25 ?l25 ?c25 ?k25 ?a26 ?l26 ?c26 ?k26 ?a27 ?l27 ?c27 ?k27 ?a28 ?l28 ?c28 ?k28 ?a29 ?l29 ?c29 ?k29 ?a30 ?l30 ?c30 ?k30 ?a31 ?l31 ?c31 ?k31 ?a32 ?l32 ?c32 ?k32 ?a33 ?l33 ?c33 ?k33 ?aN ?lN ?tN ?uN ?eN ?a_MAX_NUMBER ?a_MAX_SIZE ?a_MAX_INPUTS ?a_MAX_STEPS ?a_MAX_ENDS ?a_MAX_WIDE ?a_MAX_LONG ?z_isinstance ?z_int ?z_bool ?z_tuple ?z_len ?z_all ?z_range ?z_list ?z_str ?z_min ?z_repr ?z_abs ?z_max ?z_sum ?z_enumerate
    (case a8 => k_is); (case l8 => k_is); (case c8 => k_is); (case k8 => k_is)
    (case a9 => k_is); (case l9 => k_is); (case c9 => k_is); (case k9 => k_is)
    (case a10 => k_is); (case l10 => k_is); (case c10 => k_is); (case k10 => k_is)
    (case a13 => k_is); (case l13 => k_is); (case c13 => k_is); (case k13 => k_is)
    (case a14 => k_is); (case l14 => k_is); (case c14 => k_is); (case k14 => k_is)
    (case a15 => k_is); (case l15 => k_is); (case c15 => k_is); (case k15 => k_is)
    (case a16 => k_is); (case l16 => k_is); (case c16 => k_is); (case k16 => k_is)
    (case a17 => k_is); (case l17 => k_is); (case c17 => k_is); (case k17 => k_is)
    (case a18 => k_is); (case l18 => k_is); (case c18 => k_is); (case k18 => k_is)
    (case a19 => k_is); (case l19 => k_is); (case c19 => k_is); (case k19 => k_is)
    (case a20 => k_is); (case l20 => k_is); (case c20 => k_is); (case k20 => k_is)
    (case a21 => k_is); (case l21 => k_is); (case c21 => k_is); (case k21 => k_is)
    (case a23 => k_is); (case l23 => k_is); (case c23 => k_is); (case k23 => k_is)
    (case a24 => k_is); (case l24 => k_is); (case c24 => k_is); (case k24 => k_is)
    (case a25 => k_is); (case l25 => k_is); (case c25 => k_is); (case k25 => k_is)
    (case a26 => k_is); (case l26 => k_is); (case c26 => k_is); (case k26 => k_is)
    (case a27 => k_is); (case l27 => k_is); (case c27 => k_is); (case k27 => k_is)
    (case a28 => k_is); (case l28 => k_is); (case c28 => k_is); (case k28 => k_is)
    (case a29 => k_is); (case l29 => k_is); (case c29 => k_is); (case k29 => k_is)
    (case a30 => k_is); (case l30 => k_is); (case c30 => k_is); (case k30 => k_is)
    (case a31 => k_is); (case l31 => k_is); (case c31 => k_is); (case k31 => k_is)
    (case a32 => k_is); (case l32 => k_is); (case c32 => k_is); (case k32 => k_is)
    (case a33 => k_is); (case l33 => k_is); (case c33 => k_is); (case k33 => k_is)
    (case aN => k_is); (case lN => k_is); (case tN => k_keys); (case uN => rfl); (case eN => rfl)
    (case a_MAX_NUMBER => k_is)
    (case a_MAX_SIZE => k_is)
    (case a_MAX_INPUTS => k_is)
    (case a_MAX_STEPS => k_is)
    (case a_MAX_ENDS => k_is)
    (case a_MAX_WIDE => k_is)
    (case a_MAX_LONG => k_is)
    (case z_isinstance => k_is)
    (case z_int => k_is)
    (case z_bool => k_is)
    (case z_tuple => k_is)
    (case z_len => k_is)
    (case z_all => k_is)
    (case z_range => k_is)
    (case z_list => k_is)
    (case z_str => k_is)
    (case z_min => k_is)
    (case z_repr => k_is)
    (case z_abs => k_is)
    (case z_max => k_is)
    (case z_sum => k_is)
    (case z_enumerate => k_is)
