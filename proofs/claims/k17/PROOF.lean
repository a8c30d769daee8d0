import PyProof.Rows.All
import Wide.All
import OpenK.AllK
import Wide.FinOn
import Lean
import PyProof.EqAt
import PyProof.EqKinds
import PyProof.TupleCall
import PySem.Challenge.RW_rowbetween_k17_no_name
set_option Elab.async false
set_option linter.all false
set_option maxRecDepth 100000
set_option maxHeartbeats 4000000
set_option Elab.async false
set_option linter.all false
set_option maxRecDepth 100000
local macro_rules|`(command|def $i:declId $s:optDeclSig $v:declVal)=>`(command|noncomputable def $i:declId $s:optDeclSig $v:declVal)|`(command|abbrev $i:declId $s:optDeclSig $v:declVal)=>`(command|noncomputable abbrev $i:declId $s:optDeclSig $v:declVal)
local macro_rules | `(tactic| walk_at "or") => `(tactic| (intro d0 R h; rcases d0 with _ | ⟨a, _ | ⟨b, _ | ⟨c, l⟩⟩⟩; exact False.elim h; (cases a <;> first | exact False.elim h | (repeat first | exact ⟨_, rfl, h⟩ | exact ⟨_, _, rfl, h⟩ | exact ⟨_, _, _, rfl, h⟩ | exact .inl ⟨_, rfl, h⟩ | exact .inl ⟨_, _, rfl, h⟩ | exact .inl ⟨_, _, _, rfl, h⟩ | apply Or.inr)); (cases a <;> first | exact False.elim h | (cases b <;> first | exact False.elim h | (repeat first | exact ⟨_, rfl, h⟩ | exact ⟨_, _, rfl, h⟩ | exact ⟨_, _, _, rfl, h⟩ | exact .inl ⟨_, rfl, h⟩ | exact .inl ⟨_, _, rfl, h⟩ | exact .inl ⟨_, _, _, rfl, h⟩ | apply Or.inr))); (cases a <;> first | exact False.elim h | (cases b <;> exact False.elim h))))
local macro_rules | `(tactic| walk_at "v3") => `(tactic| first | exact Or.inl rfl | exact Or.inr (Or.inl rfl) | exact Or.inr (Or.inr rfl))
local macro_rules | `(tactic| walk_at "v2") => `(tactic| first | exact Or.inl rfl | exact Or.inr rfl)
local macro_rules | `(tactic| walk_at "v1") => `(tactic| first | exact .inl rfl | exact .inr rfl | assumption)
set_option compiler.extract_closed false
set_option genSizeOf false
set_option bootstrap.genMatcherCode false
namespace L2
open PySem
def a8 (s:Stmt):Arguments:=match s with
 | .FunctionDef _ a _ _ _ _ _ _ _ _=>a
 | _=>{ posonlyargs:=[],args:=[],vararg:=none,kwonlyargs:=[],kw_defaults:=[],kwarg:=none,defaults:=[] }
def aI (s:Stmt):List Stmt:=match s with
 | .FunctionDef _ _ b _ _ _ _ _ _ _=>b
 | _=>[]
def ah (s:Stmt):Scope:=match s with
 | .FunctionDef _ _ _ _ _ _ sc _ _ _=>sc
 | _=>{ kind:=.function,names:=[],isGenerator:=false,isCoroutine:=false }
def je (s:Stmt) (j:Nat):Stmt:=match s with
 | .ClassDef _ _ _ body _ _ _ _ _ _ _=>body.getD j (.Pass ⟨0,0,0,0⟩)
 | _=>.Pass ⟨0,0,0,0⟩
end L2
namespace DL
open PySem PySem.Spec PyProof.Rows L2
structure FdK (K:PySem.W.Frag) (x:Str) (st:Stmt):Prop where
 ex:∃ (f:Addr) (oc:Value) (od an:Option Addr) (sl:Array (Option Value)) (kV dc pm cd ct:Value),PySem.W.nsIn K mainGlobals x=some (some (.ref f))∧K.lookup f=some ⟨oc,od,.func (PySem.W.fnOf x x (a8 st) (aI st) (ah st) .none kV dc pm an cd ct),sl⟩∧PySem.W.codeIn K cd x=true∧PySem.W.keepIn K (.ref f)=true
abbrev bmV:List Value:=[.type "ValueError",.type "Exception",.type "BaseException",.type "object"]
def ig (K:PySem.W.Frag) (N:Addr):Bool:=match K.lookup N with
 | some ⟨_,_,.dict es _,_⟩=>es.toList.all fun e=>match e.key with | .str _ _=>true | _=>false
 | _=>false
structure KCls (K:PySem.W.Frag) (C N:Addr) (mro:List Value):Prop where
 ex:∃ nm q bs sn sub ab col dd k0 k1 k2 k3 k5,K.lookup C=some (excClassObj nm q C N bs mro true sn sub ab col dd k0 k1 k2 k3 k5 "ValueError.__new__")
structure RcK (K:PySem.W.Frag) (xR:Str) (R NR:Addr):Prop where
 at_:PySem.W.nsIn K mainGlobals xR=some (some (.ref R))
 cl:KCls K R NR bmV
 ns:ig K NR=true
 ini:PySem.W.nsIn K NR "__init__"=some none
 sa:PySem.W.nsIn K NR "__setattr__"=some none
 kp:PySem.W.keepIn K (.ref R)=true
 sp:PySem.W.specialIn K (.ref R) "__getattribute__"=some (some (.builtin "type.__getattribute__"))
 rd:PySem.W.readsIn K R (.type "type")=true
 fc:PySem.W.findCls K (.ref R) (.type "type") "__init__"=some (.val (.builtin "ValueError.__init__"))
structure XcK (K:PySem.W.Frag) (x f:Str) (R NR:Addr) (q:Str) (st:Stmt):Prop where
 ex:∃ C N fI,PySem.W.nsIn K mainGlobals x=some (some (.ref C))∧KCls K C N (.ref R :: bmV)∧ig K N=true∧PySem.W.nsIn K N "__init__"=some (some (.ref fI))∧PySem.W.nsIn K N "__setattr__"=some none∧PySem.W.nsIn K N f=some none∧PySem.W.nsIn K NR f=some none ∧
  PySem.W.keepIn K (.ref C)=true∧∃ od kV dc pm an cd ct sl,K.lookup fI=some ⟨.type "function",od,.func (PySem.W.fnOf "__init__" q (a8 st) (aI st) (ah st) .none kV dc pm an cd ct),sl⟩∧PySem.W.codeIn K cd q=true∧PySem.W.keepIn K (.ref fI)=true
def fv:List (Str×Str):=[("NoQuotient","top"),("NoName","name"),("TooMany","saying")]
def xgB (K:PySem.W.Frag) (C:Addr):Bool :=
 PySem.W.findIn K (.ref C) "__getattribute__" == some (some (.builtin "BaseException.__getattribute__")) && PySem.W.findIn K (.ref C) "__getattr__" == some none && PySem.W.mroIn K C (.type "BaseException") == some true && PySem.W.mroIn K C (.type "object") == some true && PySem.W.hasDictIn K C &&
 PySem.W.findIn K (.ref C) "__class__" == some (some (.builtin "object.__class__")) && PySem.W.specialIn K (.builtin "object.__class__") "__get__" == some (some (.builtin "getset_descriptor.__get__")) && PySem.W.takesIn K (.builtin "object.__class__") == some true
def fG (K:PySem.W.Frag):Bool:=fv.all fun p=>match PySem.W.nsIn K mainGlobals p.1 with
 | some (some (.ref C))=>xgB K C && PySem.W.findIn K (.ref C) p.2 == some none && PySem.W.kitOne K (.ref C) (.type "ValueError") == some true && PySem.W.kitOne K (.type "NoneType") (.ref C) == some false &&
  fv.all fun r=>match PySem.W.nsIn K mainGlobals r.1 with
   | some (some (.ref C'))=>PySem.W.kitOne K (.ref C) (.ref C') == some (p.1 == r.1)
   | _=>false
 | _=>false
structure ErF (K:PySem.W.Frag) (s1 s2 s3:Stmt):Prop where
 ex:∃ R NR,RcK K "RowError" R NR∧xgB K R=true∧PySem.W.kitOne K (.ref R) (.type "ValueError")=some true∧fG K=true∧XcK K "NoQuotient" "top" R NR "NoQuotient.__init__" s1∧XcK K "NoName" "name" R NR "NoName.__init__" s2∧XcK K "TooMany" "saying" R NR "TooMany.__init__" s3
end DL
namespace Lw
open PySem L2 DL
def top (i:Nat):Stmt:=PySem.Challenge.pw_rowbetween_k17_no_name.main.body.getD i (.Pass ⟨0,0,0,0⟩)
abbrev s_common_divisor:Stmt:=top 6
abbrev s_made:Stmt:=top 7
abbrev s_is_row:Stmt:=top 9
abbrev s_mark_names:Stmt:=top 10
abbrev s_names_of:Stmt:=top 11
abbrev s_tops_of:Stmt:=top 12
abbrev s_top_of_sum:Stmt:=top 13
abbrev s_row_is_so:Stmt:=top 15
abbrev s_part_is_so:Stmt:=top 16
abbrev s_total:Stmt:=top 14
abbrev s_is_so:Stmt:=top 17
abbrev s__law_cell:Stmt:=top 19
abbrev s__law_common:Stmt:=top 20
abbrev s__law_purse:Stmt:=top 21
abbrev s__law_take:Stmt:=top 22
abbrev s__law_weight:Stmt:=top 23
abbrev s__law_names:Stmt:=top 24
abbrev s__law_row:Stmt:=top 25
abbrev s__law_wild:Stmt:=top 26
abbrev s__law_point:Stmt:=top 27
abbrev s__law_stand:Stmt:=top 28
abbrev s__law_caught:Stmt:=top 29
abbrev s__law_good:Stmt:=top 30
abbrev s_law:Stmt:=top 31
abbrev i_NoQuotient:Stmt:=je (top 2) 0
abbrev i_NoName:Stmt:=je (top 3) 0
abbrev i_TooMany:Stmt:=je (top 4) 0
end Lw
namespace Hd
open PySem PySem.W PyProof.Rows
set_option maxRecDepth 100000
set_option maxHeartbeats 0
def kept (i:Nat):Stmt:=PySem.Challenge.pw_rowbetween_k17_no_name.main.body.getD i (.Pass ⟨0,0,0,0⟩)
def vw:Program:={ PySem.Challenge.pw_rowbetween_k17_no_name with main:={ PySem.Challenge.pw_rowbetween_k17_no_name.main with body:=[kept 1,kept 2,kept 3,kept 4,kept 6,kept 7,kept 9,kept 10,kept 11,kept 12,kept 13,kept 14,kept 15,kept 16,kept 17,kept 19,kept 20,kept 21,kept 22,kept 23,kept 24,kept 25,kept 26,kept 27,kept 28,kept 29,kept 30,kept 31] } }
def xt (s:Shared):Bool:=xlAt vw [] s && recOk (RowW.records (OpenRow.toRowW PySem.Challenge.rw_rowbetween_k17_no_name.row)) s
noncomputable def st0 (w:World) (os:OsState):Shared:=⟨boot_heap w.params,#[],boot_drawn,boot_toks,os⟩
noncomputable def rn (w:World) (os:OsState):=(topRun treeTable PySem.Challenge.pw_rowbetween_k17_no_name w 11 (some (Value.ref 6)) 3514 (st0 w os) (topStub PySem.Challenge.pw_rowbetween_k17_no_name))
theorem said:PySem.W.OpenLaw.wellSaid PySem.Challenge.rw_rowbetween_k17_no_name=true:=by
 rw [PySem.W.Fast.te9446332074065402090]
 kernel_rfl
local macro_rules | `(tactic| walk_at "hf") => `(tactic| (unfold Hd.rn Hd.st0; (try rw [PySem.W.Fast.te14082659384304107361]); (try rw [PySem.W.Fast.te14364793385576792824]); (try rw [PySem.W.Fast.te5160383126252970620]); (try rw [PySem.W.Fast.te10880121769531294198]); (try rw [PySem.W.Fast.te14722251495701143533]); (try rw [PySem.W.Fast.te10994771534591457954]); (try rw [PySem.W.Fast.te479339242167458305]); (try rw [PySem.W.Fast.te16090120013241838585]); (try rw [PySem.W.Fast.te2386780881361962483]); (try rw [PySem.W.Fast.te11698064438423848299]); (try rw [PySem.W.Fast.te7317090234206586261]); (try rw [PySem.W.Fast.te7369524293546568484]); (try rw [PySem.W.Fast.te821141287760084731]); (try rw [PySem.W.Fast.te3399658132070893891]); (try rw [PySem.W.Fast.te7409074990110511671]); (try rw [PySem.W.Fast.te13664370479719496447]); (try rw [PySem.W.Fast.te5991557255702980513]); (try rw [PySem.W.Fast.te3247288618530077131]); (try rw [PySem.W.Fast.te5923862056798008813]); kernel_rfl))
theorem iq {σ α β:Type} {o:Option σ} {f:σ→α} {g:σ→β} {x:α} {y:β} (a:o.map f=some x) (b:o.map g=some y):o.map (fun s=>(f s,g s))=some (x,y):=by
 cases o with
 | none=>cases a
 | some s=>cases a;cases b;rfl
theorem qM {σ α β:Type} {o:Option σ} {f:σ→α} {g:σ→β} {x:α} {y:β} (a:o.map (fun s=>(f s,g s))=some (x,y)):o.map f=some x:=by
 cases o with
 | none=>cases a
 | some s=>cases a;rfl
theorem kF {σ α β:Type} {o:Option σ} {f:σ→α} {g:σ→β} {x:α} {y:β} (a:o.map (fun s=>(f s,g s))=some (x,y)):o.map g=some y:=by
 cases o with
 | none=>cases a
 | some s=>cases a;rfl
theorem left {α:Type} {Yf:Shared→α} {Ya:World→α} (go:∀ (w:World) (os:OsState),(rn w os).map (fun s=>(staticsOk (importedModules PySem.Challenge.pw_rowbetween_k17_no_name.main.body) (boot_heap w.params) s.heap && namesBound PySem.Challenge.pw_rowbetween_k17_no_name s.heap && gensDone s && laidKept (boot_heap w.params) s.heap,openSeen vw [] (importedModules PySem.Challenge.pw_rowbetween_k17_no_name.main.body) xt true s,Yf s))=some (true,openGood vw [],Ya w)):LeftO PySem.Challenge.pw_rowbetween_k17_no_name vw [] xt Yf Ya 3514 true:=fun w=>by
 obtain ⟨⟨h,gs,d,k,os⟩,e1,e2⟩:=Option.map_eq_some_iff.mp (boot_open (p:=PySem.Challenge.pw_rowbetween_k17_no_name) (N:=3514) (by kernel_rfl) (by decide) (fun s=>rfl) w)
 obtain ⟨rfl,rfl,rfl,rfl⟩:h=boot_heap w.params∧gs=#[]∧d=boot_drawn∧k=boot_toks:=by simpa using e2
 have size:((boot_heap w.params).isNs mainGlobals,(boot_heap w.params).objs.size,(boot_heap w.params).nsMap mainGlobals "__annotations__")=(true,11,some (Value.ref 6)):=by kernel_rfl
 simp only [Prod.mk.injEq] at size
 obtain ⟨z1,z2,z3⟩:=size
 obtain ⟨s,r1,r2⟩:=Option.map_eq_some_iff.mp (go w os)
 simp only [Prod.mk.injEq] at r2
 obtain ⟨l1,l2,l3⟩:=r2
 unfold openEnds
 rw [e1]
 show (topFrom treeTable PySem.Challenge.pw_rowbetween_k17_no_name w 3514 (st0 w os)).map _=_
 have t:topFrom treeTable PySem.Challenge.pw_rowbetween_k17_no_name w 3514 (st0 w os)=some s:=by
  unfold topFrom
  rw [show (st0 w os).heap=boot_heap w.params from rfl,z1,z2,z3]
  unfold rn at r1
  rw [r1]
  show (match _ && _ && _ && _ with | true=>_ | false=>_)=_
  rw [l1]
 rw [t]
 exact congrArg some (Prod.ext (by exact l2) (by exact l3))
theorem jQ (w:World) (os:OsState):(rn w os).map (fun s=>(staticsOk (importedModules PySem.Challenge.pw_rowbetween_k17_no_name.main.body) (boot_heap w.params) s.heap && namesBound PySem.Challenge.pw_rowbetween_k17_no_name s.heap && gensDone s && laidKept (boot_heap w.params) s.heap,seen ((recsOf vw).map (·.name)) (ownsOf vw) [] { s with gens:=#[] },s.heap.bltView,s.heap.keysOk (looseW vw []) ((recsOf vw).map (·.name)) ((litsOf vw).map (·.1)) ((clssOf vw (looseW vw [])).map (·.name)) && s.heap.accountedOkI (importedModules PySem.Challenge.pw_rowbetween_k17_no_name.main.body) && s.heap.isNs mainGlobals && s.heap.isNs builtinsNs && tablesOk vw s.heap && xt s && (if true then s.gens.size == 0 else !leftWithCleanup s.gens)))=some ((true),(expectedOf vw),(bltViewBooted),(true)):=by
 (refine iq ?_ (iq ?_ (iq ?_ ?_)));(focus (walk_at "hf"));(focus (walk_at "hf"));(focus (walk_at "hf"));(focus (walk_at "hf"))
theorem tJ (w:World) (os:OsState):(rn w os).map (fun s=>staticsOk (importedModules PySem.Challenge.pw_rowbetween_k17_no_name.main.body) (boot_heap w.params) s.heap && namesBound PySem.Challenge.pw_rowbetween_k17_no_name s.heap && gensDone s && laidKept (boot_heap w.params) s.heap)=some (true):=(qM (jQ w os))
theorem rE (w:World) (os:OsState):(rn w os).map (fun s=>seen ((recsOf vw).map (·.name)) (ownsOf vw) [] { s with gens:=#[] })=some (expectedOf vw):=(qM (kF (jQ w os)))
theorem sD (w:World) (os:OsState):(rn w os).map (fun s=>s.heap.bltView)=some (bltViewBooted):=(qM (kF (kF (jQ w os))))
theorem tz (w:World) (os:OsState):(rn w os).map (fun s=>s.heap.keysOk (looseW vw []) ((recsOf vw).map (·.name)) ((litsOf vw).map (·.1)) ((clssOf vw (looseW vw [])).map (·.name)) && s.heap.accountedOkI (importedModules PySem.Challenge.pw_rowbetween_k17_no_name.main.body) && s.heap.isNs mainGlobals && s.heap.isNs builtinsNs && tablesOk vw s.heap && xt s && (if true then s.gens.size == 0 else !leftWithCleanup s.gens))=some (true):=(kF (kF (kF (jQ w os))))
theorem mw (w:World) (os:OsState):(rn w os).map (fun s=>(tabsOk vw s,pinSeenD vw (drecsOf vw) s,plainSeenE vw (looseW vw []) s))=some ((true),(pinGoodD (drecsOf vw)),(plainGoodE vw (looseW vw []))):=by
 (refine iq ?_ (iq ?_ ?_));(focus (walk_at "hf"));(focus (walk_at "hf"));(focus (walk_at "hf"))
theorem t5 (w:World) (os:OsState):(rn w os).map (fun s=>tabsOk vw s)=some (true):=(qM (mw w os))
theorem rL (w:World) (os:OsState):(rn w os).map (fun s=>pinSeenD vw (drecsOf vw) s)=some (pinGoodD (drecsOf vw)):=(qM (kF (mw w os)))
theorem tY (w:World) (os:OsState):(rn w os).map (fun s=>plainSeenE vw (looseW vw []) s)=some (plainGoodE vw (looseW vw [])):=(kF (kF (mw w os)))
theorem nc (w:World) (os:OsState):(rn w os).map (fun s=>(plainSeenD vw [] s,wideSeen vw s,clsSeenW vw [] s))=some ((plainGoodD vw []),(wideGood vw),(clsGoodW vw [])):=by
 (refine iq ?_ (iq ?_ ?_));(focus (walk_at "hf"));(focus (walk_at "hf"));(focus (walk_at "hf"))
theorem tK (w:World) (os:OsState):(rn w os).map (fun s=>plainSeenD vw [] s)=some (plainGoodD vw []):=(qM (nc w os))
theorem tE (w:World) (os:OsState):(rn w os).map (fun s=>wideSeen vw s)=some (wideGood vw):=(qM (kF (nc w os)))
theorem sW (w:World) (os:OsState):(rn w os).map (fun s=>clsSeenW vw [] s)=some (clsGoodW vw []):=(kF (kF (nc w os)))
theorem sd (w:World) (os:OsState):(rn w os).map (fun s=>openSeen vw [] (importedModules PySem.Challenge.pw_rowbetween_k17_no_name.main.body) xt true s)=some (openGood vw []):=(iq (rE w os) (iq (sD w os) (iq (tz w os) (iq (t5 w os) (iq (rL w os) (iq (tY w os) (iq (tK w os) (iq (tE w os) (sW w os)))))))))
theorem all_a {α:Type} {Yf:Shared→α} {Ya:World→α} (h:∀ (w:World) (os:OsState),(rn w os).map (fun s=>Yf s)=some (Ya w)) (w:World) (os:OsState) :
  (rn w os).map (fun s=>(staticsOk (importedModules PySem.Challenge.pw_rowbetween_k17_no_name.main.body) (boot_heap w.params) s.heap && namesBound PySem.Challenge.pw_rowbetween_k17_no_name s.heap && gensDone s && laidKept (boot_heap w.params) s.heap,openSeen vw [] (importedModules PySem.Challenge.pw_rowbetween_k17_no_name.main.body) xt true s,Yf s))=some (true,openGood vw [],Ya w):=iq (tJ w os) (iq (sd w os) (h w os))
end Hd
structure Hd.Facts (K:PySem.W.Frag):Prop where
 q0:DL.FdK K "common_divisor" Lw.s_common_divisor
 q1:DL.FdK K "made" Lw.s_made
 q2:DL.FdK K "is_row" Lw.s_is_row
 q3:DL.FdK K "mark_names" Lw.s_mark_names
 q4:DL.FdK K "names_of" Lw.s_names_of
 q5:DL.FdK K "tops_of" Lw.s_tops_of
 q6:DL.FdK K "top_of_sum" Lw.s_top_of_sum
 q7:DL.FdK K "row_is_so" Lw.s_row_is_so
 q8:DL.FdK K "part_is_so" Lw.s_part_is_so
 q9:DL.FdK K "total" Lw.s_total
 q10:DL.FdK K "is_so" Lw.s_is_so
 q11:DL.FdK K "_law_cell" Lw.s__law_cell
 q12:DL.FdK K "_law_common" Lw.s__law_common
 q13:DL.FdK K "_law_purse" Lw.s__law_purse
 q14:DL.FdK K "_law_take" Lw.s__law_take
 q15:DL.FdK K "_law_weight" Lw.s__law_weight
 q16:DL.FdK K "_law_names" Lw.s__law_names
 q17:DL.FdK K "_law_row" Lw.s__law_row
 q18:DL.FdK K "_law_wild" Lw.s__law_wild
 q19:DL.FdK K "_law_point" Lw.s__law_point
 q20:DL.FdK K "_law_stand" Lw.s__law_stand
 q21:DL.FdK K "_law_caught" Lw.s__law_caught
 q22:DL.FdK K "_law_good" Lw.s__law_good
 q23:DL.FdK K "law" Lw.s_law
 z0:PySem.W.nsIn K PySem.mainGlobals "abs"=some none
 z1:PySem.W.nsIn K PySem.mainGlobals "sorted"=some none
 z2:PySem.W.nsIn K PySem.mainGlobals "len"=some none
 z3:PySem.W.nsIn K PySem.mainGlobals "range"=some none
 z4:PySem.W.nsIn K PySem.mainGlobals "int"=some none
 z5:PySem.W.nsIn K PySem.mainGlobals "tuple"=some none
 z6:PySem.W.nsIn K PySem.mainGlobals "isinstance"=some none
 z7:PySem.W.nsIn K PySem.mainGlobals "ValueError"=some none
 z8:PySem.W.nsIn K PySem.mainGlobals "dict"=some none
 ef:DL.ErF K Lw.i_NoQuotient Lw.i_NoName Lw.i_TooMany
section
open PySem PySem.W PyProof.Rows
local macro_rules | `(tactic| o_head $H) => `(tactic| (
 refine PySem.W.holds_open (r:=PySem.Challenge.rw_rowbetween_k17_no_name.row) (q:=Hd.vw) (loose:=[]) (Xt:=Hd.xt)
  (XP:=PySem.W.XL Hd.vw []) (Yf:=PySem.W.Hook.obs $H) (Ya:=PySem.W.Hook.val $H) (YP:=PySem.W.Hook.says $H) (N:=3514)
  ?_ (PySem.W.Hook.of $H) (PySem.W.Hook.keeps $H) (fun s e=>PySem.W.xl_of s (Bool.and_eq_true_iff.mp e).1)
  PySem.W.XL.keeps (by rfl) (by rfl) (by rfl) (fun s e=>PySem.W.recFacts_of (Bool.and_eq_true_iff.mp e).2)
  (by rfl) (by first | assumption | decide +kernel) (by decide +kernel) ⟨rfl,rfl,rfl,rfl,rfl,by decide +kernel⟩ ?_ ?_
 (focus (refine Hd.left ?_;refine Hd.all_a ?_;(focus (intro w os;unfold Hd.rn Hd.st0;(try rw [PySem.W.Fast.te14082659384304107361]);(try rw [PySem.W.Fast.te14364793385576792824]);(try rw [PySem.W.Fast.te5160383126252970620]);(try rw [PySem.W.Fast.te10880121769531294198]);(try rw [PySem.W.Fast.te14722251495701143533]);(try rw [PySem.W.Fast.te10994771534591457954]);(try rw [PySem.W.Fast.te479339242167458305]);(try rw [PySem.W.Fast.te16090120013241838585]);(try rw [PySem.W.Fast.te2386780881361962483]);(try rw [PySem.W.Fast.te11698064438423848299]);(try rw [PySem.W.Fast.te7317090234206586261]);(try rw [PySem.W.Fast.te7369524293546568484]);(try rw [PySem.W.Fast.te821141287760084731]);(try rw [PySem.W.Fast.te3399658132070893891]);(try rw [PySem.W.Fast.te7409074990110511671]);(try rw [PySem.W.Fast.te13664370479719496447]);(try rw [PySem.W.Fast.te5991557255702980513]);(try rw [PySem.W.Fast.te3247288618530077131]);(try rw [PySem.W.Fast.te5923862056798008813]);kernel_rfl))))
 (focus w_witness2)))
set_option maxRecDepth 100000 in
set_option maxHeartbeats 0 in
theorem Hd.half (F:∀ (YP:World→Heap→Prop) (d:DefRec) (K:Params→PySem.W.Frag),(∀ (w:World) (h:Heap),YP w h→(K w.params).In h)→d.params.defaults=[]→d.name="law"→(∀ w:World,Hd.Facts (K w.params))→PySem.W.WalkO Hd.vw [] (PySem.W.XL Hd.vw []) YP PySem.Challenge.rw_rowbetween_k17_no_name.row.toRowW d [] (fun f vs=>PySem.call f vs)):PySem.Challenge.rw_rowbetween_k17_no_name.Holds:=by
 w_on;refine PySem.W.holds_law Hd.said fun said=>?_;k_head
 k_fill
 refine F _ _ _ (fun w h Y=>PySem.W.kIn_of Y) rfl rfl fun w=>?_
 constructor
 iterate 24 (focus (exact⟨⟨_,_,_,_,_,_,_,_,_,_,by k_is,by k_is,by k_is,by k_is⟩⟩))
 ·k_is
 ·k_is
 ·k_is
 ·k_is
 ·k_is
 ·k_is
 ·k_is
 ·k_is
 ·k_is
 ·exact⟨⟨_,_,⟨by k_is,⟨⟨_,_,_,_,_,_,_,_,_,_,_,_,_,by k_is⟩⟩,by kernel_rfl,by k_is,by k_is,by k_is,by k_is,by k_is,by k_is⟩,by kernel_rfl,by kernel_rfl,by kernel_rfl,⟨⟨_,_,_,by k_is,⟨⟨_,_,_,_,_,_,_,_,_,_,_,_,_,by k_is⟩⟩,by kernel_rfl,by k_is,by k_is,by k_is,by k_is,by k_is,_,_,_,_,_,_,_,_,by k_is,by k_is,by k_is⟩⟩,⟨⟨_,_,_,by k_is,⟨⟨_,_,_,_,_,_,_,_,_,_,_,_,_,by k_is⟩⟩,by kernel_rfl,by k_is,by k_is,by k_is,by k_is,by k_is,_,_,_,_,_,_,_,_,by k_is,by k_is,by k_is⟩⟩,⟨⟨_,_,_,by k_is,⟨⟨_,_,_,_,_,_,_,_,_,_,_,_,_,by k_is⟩⟩,by kernel_rfl,by k_is,by k_is,by k_is,by k_is,by k_is,_,_,_,_,_,_,_,_,by k_is,by k_is,by k_is⟩⟩⟩⟩
end
namespace L2
open PySem PySem.Spec PyProof.Rows
abbrev yL:=Sum Int Str
def iN:yL→Value→Bool
 | .inl k,v=>Value.isInt k v
 | .inr x,v=>Value.isStrOf x v
def keyH (w:World):yL→Int
 | .inl k=>hashInt k
 | .inr x=>hashStr w x
theorem aD:∀ {k:yL} {v:Value},iN k v=true→(∃ i t,k=Sum.inl i∧v=Value.int i t)∨(∃ x t,k=Sum.inr x∧v=Value.str x t)
 | .inl i,v,h=>by
  obtain ⟨t,e⟩:=Value.isInt_shape (k:=i) (v:=v) h
  exact .inl ⟨i,t,rfl,e⟩
 | .inr x,v,h=>by
  obtain ⟨t,e⟩:=Value.isStrOf_shape (x:=x) (v:=v) h
  exact .inr ⟨x,t,rfl,e⟩
theorem lW (i:Int) (t:Tok):iN (.inl i) (.int i t)=true:=by simp [iN,Value.isInt]
theorem lN (x:Str) (t:Tok):iN (.inr x) (.str x t)=true:=by simp [iN,Value.isStrOf]
theorem wu (a b:Int):decide ((Sum.inl a:yL)=Sum.inl b)=(a == b):=by
 by_cases e:a=b
 ·subst e;simp
 ·have h:¬ (Sum.inl a:yL)=Sum.inl b:=fun q=>e (Sum.inl.inj q)
  rw [decide_eq_false h]
  exact (beq_eq_false_iff_ne.mpr e).symm
theorem vC (a b:Str):decide ((Sum.inr a:yL)=Sum.inr b)=decide (a=b):=by
 by_cases e:a=b
 ·subst e;simp
 ·have h:¬ (Sum.inr a:yL)=Sum.inr b:=fun q=>e (Sum.inr.inj q)
  rw [decide_eq_false h,decide_eq_false e]
theorem uX (a:Int) (b:Str):decide ((Sum.inl a:yL)=Sum.inr b)=false:=decide_eq_false (fun q=>nomatch q)
theorem uP (a:Str) (b:Int):decide ((Sum.inr a:yL)=Sum.inl b)=false:=decide_eq_false (fun q=>nomatch q)
def aL (prog:Program) (w:World):PySem.KeyKind prog w yL where
 is:=iN
 hash:=keyH w
 inj:=fun v a b ha hb=>by
  rcases aD ha with ⟨i,t,rfl,rfl⟩ | ⟨x,t,rfl,rfl⟩
  ·rcases aD hb with ⟨j,u,rfl,e⟩ | ⟨y,u,rfl,e⟩
   ·injection e with e1 _;rw [e1]
   ·exact nomatch e
  ·rcases aD hb with ⟨j,u,rfl,e⟩ | ⟨y,u,rfl,e⟩
   ·exact nomatch e
   ·injection e with e1 _;rw [e1]
 byValue:=fun k v h=>by
  rcases aD h with ⟨i,t,rfl,rfl⟩ | ⟨x,t,rfl,rfl⟩<;>rfl
 pyHash:=fun hv h=>by
  rcases aD hv with ⟨i,t,rfl,rfl⟩ | ⟨x,t,rfl,rfl⟩
  ·exact wpAny_pyHash_int h
  ·exact wpAny_pyHash_str h
 eqBool:=fun hu hv h=>by
  rcases aD hu with ⟨i,t,rfl,rfl⟩ | ⟨x,t,rfl,rfl⟩
  ·rcases aD hv with ⟨j,u,rfl,rfl⟩ | ⟨y,u,rfl,rfl⟩
   ·rw [wu] at h;exact wpAny_eqBool_int h
   ·rw [uX] at h;exact SeqAt.EqAt.int_str i t y u _ _ _ _ h
  ·rcases aD hv with ⟨j,u,rfl,rfl⟩ | ⟨y,u,rfl,rfl⟩
   ·rw [uP] at h;exact SeqAt.EqAt.str_int x t j u _ _ _ _ h
   ·rw [vC] at h;exact wpAny_eqBool_str h
 «strs»:=fun k x t v h=>by
  rcases aD h with ⟨i,u,rfl,e⟩ | ⟨y,u,rfl,e⟩
  ·exact nomatch e
  ·injection e with e1 _
   subst e1
   cases v<;>rfl
theorem iP (prog:Program) (w:World) (i:Int) (t:Tok):(aL prog w).is (.inl i) (.int i t)=true:=lW i t
theorem iR (prog:Program) (w:World) (x:Str) (t:Tok):(aL prog w).is (.inr x) (.str x t)=true:=lN x t
end L2
namespace L2
open PySem PySem.Spec PyProof.Rows
inductive V where
 | non | bl (b:Bool) | int (i:Int) | str (x:Str) | byt (b:Array UInt8) | flt (b:UInt64) | ref (a:Addr) | ty (n:String)
 deriving DecidableEq
def aN:V→Value→Prop
 | .non,u=>u=Value.none
 | .bl b,u=>u=Value.bool b
 | .int i,u=>∃ t,u=Value.int i t
 | .str x,u=>∃ t,u=Value.str x t
 | .byt b,u=>∃ t,u=Value.bytes b t
 | .flt b,u=>∃ t,u=Value.float b t
 | .ref a,u=>u=Value.ref a
 | .ty n,u=>u=Value.type n
abbrev aV:List V→List Value→Prop:=Paired aN
theorem aV.length {xs:List V} {us:List Value} (r:aV xs us):xs.length=us.length:=Paired.length r
theorem aV.get:∀ {xs:List V} {us:List Value} {i:Nat} {x:V},aV xs us→xs[i]?=some x→∃ u,us[i]?=some u∧aN x u
 | _,_,_,_,.nil,e=>by simp at e
 | _,_,0,_,.cons r _,e=>by simp at e;subst e;exact⟨_,rfl,r⟩
 | _,_,i + 1,x,.cons _ t,e=>by
  obtain ⟨u,h1,h2⟩:=aV.get (i:=i) (x:=x) t (by simpa using e)
  exact⟨u,by simpa using h1,h2⟩
theorem aV.set {x:V} {u:Value} (r:aN x u):∀ {xs:List V} {us:List Value} (i:Nat),aV xs us→aV (xs.set i x) (us.set i u)
 | _,_,_,.nil=>.nil
 | _,_,0,.cons _ t=>.cons r t
 | _,_,i + 1,.cons q t=>.cons q (aV.set r i t)
theorem aV.append:∀ {xs ys:List V} {us ws:List Value},aV xs us→aV ys ws→aV (xs++ys) (us++ws)
 | _,_,_,_,.nil,s=>s
 | _,_,_,_,.cons r t,s=>.cons r (aV.append t s)
theorem aV.take:∀ {xs:List V} {us:List Value} (n:Nat),aV xs us→aV (xs.take n) (us.take n)
 | _,_,0,_=>.nil
 | _,_,_ + 1,.nil=>.nil
 | _,_,n + 1,.cons r t=>.cons r (aV.take n t)
theorem aV.drop:∀ {xs:List V} {us:List Value} (n:Nat),aV xs us→aV (xs.drop n) (us.drop n)
 | _,_,0,r=>r
 | _,_,_ + 1,.nil=>.nil
 | _,_,n + 1,.cons _ t=>aV.drop n t
def jG:Option V→Option Value→Prop
 | some v,some u=>aN v u
 | none,none=>True
 | _,_=>False
def KV {κ:Type}:List (κ×V)→List (κ×Value)→Prop:=Paired fun (p:κ×V) (q:κ×Value)=>p.1=q.1∧aN p.2 q.2
def kV:yL→V
 | .inl i=>.int i
 | .inr x=>.str x
inductive HO where
 | lst (xs:List V)
 | tup (xs:List V)
 | dK (kvs:List (yL×V)) | dT (kvs:List (List yL×V))
 | set (S:Int→Bool) (n:Nat)
 | ins (C dx:Addr) (fs:List (Str×V))
 | own (x:Addr)
 | xd (fs:List (Str×V))
 | met (f x:Addr)
 | rng (lo hi:Int)
 | frz (o:Obj) (u:HO)
 | tbl (ps:Array Value)
 | ext (φ:Heap→Prop)
abbrev Hp:=Addr→Option HO
def yV (H:Hp) (a:Addr) (o:HO):Hp:=fun b=>if b=a then some o else H b
theorem al {H:Hp} {a:Addr} {o:HO}:yV H a o a=some o:=by unfold yV;rw [if_pos rfl]
theorem ar {H:Hp} {a b:Addr} {o:HO} (h:b≠a):yV H a o b=H b:=by unfold yV;rw [if_neg h]
theorem yn {H:Hp} {a b:Addr} {o u:HO} (h:H a=some o) (h':H b=some u) (d:o≠u):a≠b:=by
 intro e;subst e;rw [h] at h';exact d (Option.some.inj h')
theorem bG {H:Hp} {a b:Addr} {o:HO} (h:H a=some o) (h':H b=none):a≠b:=by
 intro e;subst e;rw [h] at h';cases h'
section
variable (P:Program) (w:World)
def bd (H:Hp) (h:Heap) (a:Addr):HO→Prop
 | .lst xs=>xs.length≤sizeLine∧∃ (its:List Value) (n:Nat),aV xs its∧h.get? a=some { cls:=.type "list",data:=.seq its.toArray n }
 | .tup xs=>xs.length≤sizeLine∧∃ its:List Value,aV xs its∧IsTup h a its.toArray
 | .dK kvs=>kvs.length≤sizeLine∧(a == sysModules)=false∧∃ vs,KV kvs vs∧h.DictOf (aL P w) a vs
 | .dT kvs=>kvs.length≤sizeLine∧(a == sysModules)=false∧∃ xs:List (List yL×Addr×Value),
   Paired (fun (p:List yL×V) (q:List yL×Addr×Value)=>p.1=q.1∧H q.2.1=some (.tup (p.1.map kV))∧aN p.2 q.2.2) kvs xs ∧
   ∃ o es ep,h.get? a=some o∧o.ExactDict∧o.data=.dict es ep∧es.toList=xs.map (entryOfKey (tupleKind (aL P w)))∧(xs.map (·.1)).Nodup
 | .set S n=>h.SetOf (intKind P w) a S n
 | .ins C dx fs=>H dx=some (.own a)∧fs.length≤1000∧dx≠a∧h.get? a=some (PySem.W.instObj C dx) ∧
   ∃ mA,h.Ns1 dx mA∧(∀ f,jG (fs.lookup f) (mA f))∧PySem.Within mA (fs.map (·.1))
 | .own _=>∃ o,h.get? a=some o
 | .xd fs=>∃ mA,h.Ns1 a mA∧∀ f,jG (fs.lookup f) (mA f)
 | .rng lo hi=>∃ t u v,h.get? a=some { cls:=.type "range",data:=.fields #[.int lo t,.int hi u,.int 1 v] }
 | .frz o u=>h.get? a=some o∧bd H h a u
 | .tbl ps=>h.get? a=some { cls:=.none,data:=.fields ps }
 | .met f x=>h.get? a=some (PySem.W.methodObj (.ref f) (.ref x))
 | .ext φ=>φ h∧(∃ o,h.get? a=some o)∧∀ h1 h2:Heap,φ h1→(∀ o,h1.get? a=some o→h2.get? a=some o)→φ h2
def yO (H:Hp) (h:Heap):Prop:=∀ a o,H a=some o→bd P w H h a o
end
section
variable {P:Program} {w:World} {H H':Hp} {h h':Heap} {a:Addr} {o:HO}
theorem bd.lt (x:bd P w H h a o):a < h.objs.size:=by
 cases o with
 | lst xs=>obtain ⟨_,_,_,_,e⟩:=x;exact Heap.lt_size e
 | tup xs=>obtain ⟨_,_,_,p⟩:=x;exact p.lt
 | dK kvs=>obtain ⟨_,_,_,_,o,_,_,e,_⟩:=x;exact Heap.lt_size e
 | dT kvs=>obtain ⟨_,_,_,_,o,_,_,e,_⟩:=x;exact Heap.lt_size e
 | set S n=>obtain ⟨o,_,_,_,e,_⟩:=x;exact Heap.lt_size e
 | ins C dx fs=>obtain ⟨_,_,_,e,_⟩:=x;exact Heap.lt_size e
 | own y=>obtain ⟨_,e⟩:=x;exact Heap.lt_size e
 | xd fs=>obtain ⟨_,⟨_,_,_,e,_⟩,_⟩:=x;exact Heap.lt_size e
 | rng lo hi=>obtain ⟨_,_,_,e⟩:=x;exact Heap.lt_size e
 | frz ob u=>obtain ⟨e,_⟩:=x;exact Heap.lt_size e
 | tbl ps=>exact Heap.lt_size (show h.get? a=some _ from x)
 | met f y=>exact Heap.lt_size (show h.get? a=some _ from x)
 | ext φ=>obtain ⟨_,⟨_,e⟩,_⟩:=x;exact Heap.lt_size e
theorem Paired.mapP {α β:Type} {F G:α→β→Prop}:∀ {l₁:List α} {l₂:List β},Paired F l₁ l₂→(∀ a b,F a b→G a b)→Paired G l₁ l₂
 | _,_,.nil,_=>.nil
 | _,_,.cons r t,f=>.cons (f _ _ r) (Paired.mapP t f)
theorem bd.stay (x:bd P w H h a o) (k:∀ b u,(b=a∨H b=some (.own a))→h.get? b=some u→h'.get? b=some u)
  (ho:∀ b,H b=some (.own a)→H' b=some (.own a)) (ht:∀ b xs,H b=some (.tup xs)→H' b=some (.tup xs)):bd P w H' h' a o:=by
 induction o with
 | lst xs=>obtain ⟨z,its,n,r,e⟩:=x;exact⟨z,its,n,r,k _ _ (.inl rfl) e⟩
 | tup xs=>obtain ⟨z,its,r,ob,e,c⟩:=x;exact⟨z,its,r,ob,k _ _ (.inl rfl) e,c⟩
 | dK kvs=>obtain ⟨z,y,vs,r,ob,es,ep,e,c⟩:=x;exact⟨z,y,vs,r,ob,es,ep,k _ _ (.inl rfl) e,c⟩
 | dT kvs =>
  obtain ⟨z,y,xs,r,ob,es,ep,e,c⟩:=x
  exact⟨z,y,xs,Paired.mapP r fun p q z=>⟨z.1,ht _ _ z.2.1,z.2.2⟩,ob,es,ep,k _ _ (.inl rfl) e,c⟩
 | set S n=>obtain ⟨ob,es,ep,t,e,c⟩:=x;exact⟨ob,es,ep,t,k _ _ (.inl rfl) e,c⟩
 | ins C dx fs =>
  obtain ⟨d,z,ne,e,mA,⟨od,es,ep,e2,c⟩,r⟩:=x
  exact⟨ho _ d,z,ne,k _ _ (.inl rfl) e,mA,⟨od,es,ep,k _ _ (.inr d) e2,c⟩,r⟩
 | own y=>obtain ⟨ob,e⟩:=x;exact⟨ob,k _ _ (.inl rfl) e⟩
 | xd fs=>obtain ⟨mA,⟨od,es,ep,e,c⟩,r⟩:=x;exact⟨mA,⟨od,es,ep,k _ _ (.inl rfl) e,c⟩,r⟩
 | rng lo hi=>obtain ⟨t,u,v,e⟩:=x;exact⟨t,u,v,k _ _ (.inl rfl) e⟩
 | frz ob u ih=>obtain ⟨e,q⟩:=x;exact⟨k _ _ (.inl rfl) e,ih q⟩
 | tbl ps =>
  have e:h.get? a=some { cls:=.none,data:=.fields ps }:=x
  show h'.get? a=some { cls:=.none,data:=.fields ps }
  exact k a _ (.inl rfl) e
 | met f y =>
  have e:h.get? a=some (PySem.W.methodObj (.ref f) (.ref y)):=x
  show h'.get? a=some (PySem.W.methodObj (.ref f) (.ref y))
  exact k a _ (.inl rfl) e
 | ext φ=>obtain ⟨p,⟨o,e⟩,st⟩:=x;exact⟨st _ _ p fun o q=>k _ _ (.inl rfl) q,⟨o,k _ _ (.inl rfl) e⟩,st⟩
theorem yO.lt (x:yO P w H h) (e:H a=some o):a < h.objs.size:=(x a o e).lt
theorem yO.fresh (x:yO P w H h) (e:h.objs.size≤a):H a=none:=by
 cases q:H a with
 | none=>rfl
 | some u=>exact absurd (Nat.lt_of_lt_of_le (x.lt q) e) (Nat.lt_irrefl _)
theorem yO.kept (x:yO P w H h) (k:∀ b u,h.get? b=some u→h'.get? b=some u):yO P w H h':=fun a o e =>
 (x a o e).stay (fun b u _ q=>k b u q) (fun _ q=>q) fun _ _ q=>q
theorem yO.laid (x:yO P w H h) (k:∀ b u,h.get? b=some u→h'.get? b=some u) (hp:h.objs.size≤a) (new:bd P w (yV H a o) h' a o):yO P w (yV H a o) h':=fun b u e=>by
 have hn:=x.fresh hp
 by_cases hb:b=a
 ·subst hb;rw [al] at e;cases e;exact new
 ·rw [ar hb] at e
  exact (x b u e).stay (fun c v _ q=>k c v q) (fun c q=>by rw [ar (bG q hn)];exact q) fun c xs q=>by rw [ar (bG q hn)];exact q
end
def Rd (H:Hp) (a:Addr) (u:HO):Prop:=H a=some u∨∃ o,H a=some (.frz o u)
theorem Rd.of {H:Hp} {a:Addr} {u:HO} (h:H a=some u):Rd H a u:=.inl h
theorem Rd.ok {P:Program} {w:World} {H:Hp} {h:Heap} {a:Addr} {u:HO} (r:Rd H a u) (x:yO P w H h):bd P w H h a u:=by
 rcases r with r | ⟨o,r⟩
 ·exact x a u r
 ·obtain ⟨_,q⟩:=x a _ r
  exact q
def Mut:Option HO→Prop
 | some (.lst _)=>True
 | some (.dK _)=>True
 | some (.dT _)=>True
 | some (.set _ _)=>True
 | some (.ins _ _ _)=>True
 | some (.ext _)=>True
 | _=>False
section
variable {P:Program} {w:World} {H:Hp} {h h':Heap} {x e:Addr} {o':HO}
theorem yO.write (ok:yO P w H h) (mu:Mut (H x)) (he:e=x∨H e=some (.own x)) (k:∀ b u,b≠e→h.get? b=some u→h'.get? b=some u) (heo:∃ u,h'.get? e=some u)
  (new:bd P w (yV H x o') h' x o'):yO P w (yV H x o') h':=fun b u q=>by
 have nown:∀ c y,H c=some (.own y)→c≠x:=fun c y r z=>by subst z;rw [r] at mu;exact mu
 have ntup:∀ c xs,H c=some (.tup xs)→c≠x:=fun c xs r z=>by subst z;rw [r] at mu;exact mu
 by_cases hb:b=x
 ·subst hb;rw [al] at q;cases q;exact new
 ·rw [ar hb] at q
  by_cases hbe:b=e
  ·have q':H b=some (.own x):=by
    rcases he with z | z
    ·exact absurd (hbe.trans z) hb
    ·rw [hbe];exact z
   rw [q] at q';cases q'
   obtain ⟨v,hv⟩:=heo
   exact⟨v,by rw [hbe];exact hv⟩
  ·refine (ok b u q).stay (fun c v hc r=>k c v ?_ r) (fun c r=>by rw [ar (nown c b r)];exact r) fun c xs r=>by rw [ar (ntup c xs r)];exact r
   rcases hc with rfl | hc
   ·exact hbe
   ·rintro rfl
    rcases he with z | z
    ·exact nown c b hc z
    ·rw [hc] at z;cases z;exact hb rfl
end
structure Un (fs ex:List Addr) (H H':Hp) (h h':Heap):Prop where
 keep:∀ b o,h.get? b=some o→H b=none→b∉fs→b∉ex→h'.get? b=some o
 slot:∀ b o,h.get? b=some o→H b=none→b∈fs→b∉ex→∃ sl,h'.get? b=some { o with slots:=sl }
 free:∀ b o,h.get? b=some o→H b=none→b∉ex→H' b=none
 there:∀ b o,h.get? b=some o→b∉ex→∃ o',h'.get? b=some o'
 tups:∀ b xs,H b=some (.tup xs)→H' b=some (.tup xs)
 frzs:∀ b o u,H b=some (.frz o u)→H' b=some (.frz o u)
 tbls:∀ b ps,H b=some (.tbl ps)→∃ more,H' b=some (.tbl (ps++more))
section
variable {fs fs' ex ex':List Addr} {H H1 H2:Hp} {h h1 h2 h':Heap} {a x e:Addr} {o:HO}
theorem Un.any (u:Un fs ex H H1 h h1) {b:Addr} {ob:Obj} (q:h.get? b=some ob) (n:H b=none) (hx:b∉ex):∃ sl,h1.get? b=some { ob with slots:=sl }:=by
 by_cases hb:b∈fs
 ·exact u.slot b ob q n hb hx
 ·exact⟨ob.slots,u.keep b ob q n hb hx⟩
theorem Un.trans (a:Un fs ex H H1 h h1) (b:Un fs ex H1 H2 h1 h2):Un fs ex H H2 h h2 where
 keep:=fun c ob q n hc hx=>b.keep c ob (a.keep c ob q n hc hx) (a.free c ob q n hx) hc hx
 slot:=fun c ob q n hc hx=>by
  obtain ⟨sl,e1⟩:=a.slot c ob q n hc hx
  obtain ⟨sl',e2⟩:=b.slot c _ e1 (a.free c ob q n hx) hc hx
  exact⟨sl',e2⟩
 free:=fun c ob q n hx=>by
  obtain ⟨o',e1⟩:=a.there c ob q hx
  exact b.free c o' e1 (a.free c ob q n hx) hx
 there:=fun c ob q hx=>by
  obtain ⟨o',e1⟩:=a.there c ob q hx
  exact b.there c o' e1 hx
 tups:=fun c xs q=>b.tups c xs (a.tups c xs q)
 frzs:=fun c ob xs q=>b.frzs c ob xs (a.frzs c ob xs q)
 tbls:=fun c ps q=>by
  obtain ⟨m1,e1⟩:=a.tbls c ps q
  obtain ⟨m2,e2⟩:=b.tbls c _ e1
  exact⟨m1++m2,by rw [e2,Array.append_assoc]⟩
theorem Un.kept (k:∀ b u,h.get? b=some u→h'.get? b=some u):Un fs ex H H h h' :=
 ⟨fun b ob q _ _ _=>k b ob q,fun b ob q _ _ _=>⟨ob.slots,k b ob q⟩,fun _ _ _ n _=>n,fun b ob q _=>⟨ob,k b ob q⟩,fun _ _ q=>q,fun _ _ _ q=>q,fun _ ps q=>⟨#[],by rw [q];simp⟩⟩
theorem Un.refl:Un fs ex H H h h:=Un.kept fun _ _ q=>q
theorem Un.laid (k:∀ b u,h.get? b=some u→h'.get? b=some u) (hp:h.objs.size≤a) (hn:H a=none):Un fs ex H (yV H a o) h h' where
 keep:=fun b u q _ _ _=>k b u q
 slot:=fun b u q _ _ _=>⟨u.slots,k b u q⟩
 free:=fun b u q n _=>by rw [ar (Nat.ne_of_lt (Nat.lt_of_lt_of_le (Heap.lt_size q) hp))];exact n
 there:=fun b u q _=>⟨u,k b u q⟩
 tups:=fun b xs q=>by rw [ar (bG q hn)];exact q
 frzs:=fun b u xs q=>by rw [ar (bG q hn)];exact q
 tbls:=fun b ps q=>⟨#[],by rw [ar (bG q hn),q];simp⟩
theorem Un.write (mu:Mut (H x)) (he:e=x∨H e=some (.own x)) (k:∀ b u,b≠e→h.get? b=some u→h'.get? b=some u) (heo:∃ u,h'.get? e=some u):Un fs ex H (yV H x o) h h':=by
 have hx:∀ b,H b=none→b≠x:=fun b n z=>by subst z;rw [n] at mu;exact mu
 have hb:∀ b,H b=none→b≠e:=fun b n z=>by
  subst z
  rcases he with r | r
  ·exact hx b n r
  ·rw [n] at r;cases r
 have hm:∀ b u,H b=some u→¬ Mut (some u)→b≠x:=fun b u q nm z=>by subst z;rw [q] at mu;exact nm mu
 refine⟨fun b u q n _ _=>k b u (hb b n) q,fun b u q n _ _=>⟨u.slots,k b u (hb b n) q⟩,fun b u q n _=>by rw [ar (hx b n)];exact n,fun b u q _=>?_,
  fun b xs q=>by rw [ar (hm b _ q fun z=>z)];exact q,fun b u xs q=>by rw [ar (hm b _ q fun z=>z)];exact q,fun b ps q=>⟨#[],by rw [ar (hm b _ q fun z=>z),q];simp⟩⟩
 by_cases hbe:b=e
 ·subst hbe;exact heo
 ·exact⟨u,k b u hbe q⟩
theorem Un.mono (u:Un fs ex H H1 h h1) (hs:∀ b∈fs,b∈fs') (hx:∀ b∈ex,b∈ex'):Un fs' ex' H H1 h h1 :=
 ⟨fun b ob q n hb he=>u.keep b ob q n (fun z=>hb (hs b z)) fun z=>he (hx b z),fun _ _ q n _ he=>u.any q n fun z=>he (hx _ z),fun b ob q n he=>u.free b ob q n fun z=>he (hx b z),fun b ob q he=>u.there b ob q fun z=>he (hx b z),u.tups,u.frzs,u.tbls⟩
end
def trk (h:Heap) (H:Hp):List Addr:=(List.range h.objs.size).filter fun a=>(H a).isSome
def nJ (h:Heap) (H:Hp):Heap:=PySem.W.hideAll h (trk h H)
theorem lu (h:Heap) (H:Hp):(nJ h H).objs.size=h.objs.size:=PySem.W.hideAll_size _ _
theorem ou {h:Heap} {H:Hp} {b:Addr} {o:Obj} (e:h.get? b=some o) (n:H b=none):(nJ h H).get? b=some o :=
 PySem.W.hideAll_get _ e fun hm=>by
  have q:(H b).isSome=true:=(List.mem_filter.mp hm).2
  rw [n] at q;simp at q
theorem rR {h:Heap} {H:Hp} {b:Addr} {o:Obj} (e:(nJ h H).get? b=some o):h.get? b=some o∧H b=none:=by
 have e':h.get? b=some o:=PySem.W.of_hideAll (trk h H) e
 refine⟨e',?_⟩
 cases q:H b with
 | none=>rfl
 | some x =>
  have hm:b∈trk h H:=List.mem_filter.mpr ⟨List.mem_range.mpr (Heap.lt_size e'),by simp [q]⟩
  have z:(nJ h H).get? b=none:=PySem.W.hideAll_none (trk h H) hm
  rw [z] at e;cases e
def tq (g h:Heap) (L:Addr):List (Addr×Obj):=(List.range h.objs.size).filterMap fun a=>if a=L∨(g.get? a).isSome=true then none else (h.get? a).map fun o=>(a,o)
def bW (g h:Heap) (L d:Addr):List (Addr×Obj):=(tq g h L).filter fun p=>decide (p.1≠d)
end L2
namespace L2
open PySem PySem.Spec PyProof.Rows
structure Mod (K:PySem.W.Frag) (mg:Str→Option Value) (base:Heap):Prop where
 kin:K.In base
 glob:base.Ns mainGlobals mg
 blt:∃ mb,base.Ns builtinsNs mb∧∀ x:Str,x≠"__name__"→mb x=bootBuiltins x
 nolimit:base.NoLimit
structure Cx where
 prog:Program
 w:World
 K:PySem.W.Frag
 mg:Str→Option Value
 base:Heap
 A:Around
 N:List Str
 s₀:Shared
 H₀:Hp
 env:Env
 outer:List Env
 stack:List Env
 ex:List Addr
 fn:Str→Bool
 calm:Bool
 pn:List (Addr×Obj)
 xe:Value→Shared→Prop
def frs (l:List Env):List Addr:=l.filterMap (·.frame)
abbrev Cx.fs (X:Cx):List Addr:=frs X.outer
def Vis (sc:Scope) (x:Str):Prop:=sc.names.lookup x=some .local∨sc.names.lookup x=some .cell∨sc.names.lookup x=some .free
def Loc (sc:Scope) (x:Str):Prop:=sc.names.lookup x=some .local∨sc.names.lookup x=some .cell
def Look (env:Env) (h:Heap) (m:Str→Option Value) (x:Str) (u:Value):Prop :=
 (env.kindOf x=some .local∧m x=some u)∨((env.kindOf x=some .cell∨env.kindOf x=some .free)∧∃ c,env.cells.lookup x=some c∧h.IsCell c (some u))
structure Cx.Ok (X:Cx):Prop where
 mod:Mod X.K X.mg X.base
 kind:X.env.scope.kind=.function
 glob:X.env.globals=mainGlobals
 blt:X.env.builtins=builtinsNs
 above:X.s₀.heap.objs.size≤X.env.locals
 inj:∀ x y c,X.env.cells.lookup x=some c→X.env.cells.lookup y=some c→x=y
 has:∀ x,(X.env.kindOf x=some .cell∨X.env.kindOf x=some .free)→∃ c,X.env.cells.lookup x=some c
 cab:∀ x c,X.fn x=true→X.env.cells.lookup x=some c→X.s₀.heap.objs.size≤c
 hd:X.calm=true→X.A.handled=none
 frames:X.A.frames=some X.stack
 stk:X.stack=X.outer∨(X.stack=X.env :: X.outer∧X.env.frame=some X.env.locals)
 exf:∀ b∈X.ex,b≠X.env.locals∧∀ x c,X.env.cells.lookup x=some c→c≠b
 bs:∀ b o,X.base.get? b=some o→X.s₀.heap.get? b=some o∧X.H₀ b=none
 bsz:X.base.objs.size≤X.s₀.heap.objs.size
 noex:∀ b o,X.base.get? b=some o→b∉X.ex
 exfs:∀ b∈X.ex,b∉X.fs
 funs:X.s₀.heap.FunFrames X.base X.outer
 frf:∀ b∈X.fs,X.H₀ b=none
structure Inv (X:Cx) (pins:List (Addr×Obj)) (σ:List (Option V)) (H:Hp) (s:Shared):Prop where
 ok:X.Ok
 os:s.os=X.s₀.os
 bare:AllBare s.gens
 base:Un X.fs X.ex X.H₀ H X.s₀.heap s.heap
 loc:∃ m,s.heap.Ns X.env.locals m∧∀ (i:Nat) (x:Str) (v:V),X.N[i]?=some x→σ[i]?=some (some v)→Vis X.env.scope x→∃ u,aN v u∧Look X.env s.heap m x u
 cell:∀ x c,X.env.cells.lookup x=some c→∃ v,s.heap.IsCell c v
 free:H X.env.locals=none
 freeC:∀ x c,X.env.cells.lookup x=some c→H c=none
 pin:∀ p∈X.pn++pins,s.heap.get? p.1=some p.2∧H p.1=none∧p.1≠X.env.locals∧p.1∉X.fs∧∀ v,p.2.data≠.cell v
 hok:yO X.prog X.w H s.heap
 len:σ.length=X.N.length
section
variable {X:Cx} {pins:List (Addr×Obj)} {σ:List (Option V)} {H H':Hp} {s:Shared} {h':Heap}
theorem Cx.Ok.nofr (ok:X.Ok) {b:Addr} {o:Obj} (e:X.base.get? b=some o):b∉X.fs:=fun hb=>by
 have:=(ok.funs.mem hb).1
 rw [e] at this;cases this
theorem Inv.bs (I:Inv X pins σ H s):∀ b o,X.base.get? b=some o→s.heap.get? b=some o∧H b=none:=fun b o e =>
 ⟨I.base.keep b o (I.ok.bs b o e).1 (I.ok.bs b o e).2 (I.ok.nofr e) (I.ok.noex b o e),I.base.free b o (I.ok.bs b o e).1 (I.ok.bs b o e).2 (I.ok.noex b o e)⟩
theorem Inv.bk (I:Inv X pins σ H s):∀ b o,X.base.get? b=some o→s.heap.get? b=some o:=fun b o e=>(I.bs b o e).1
theorem Inv.mod (I:Inv X pins σ H s):Mod X.K X.mg X.base:=I.ok.mod
theorem Inv.kIn (I:Inv X pins σ H s):X.K.In s.heap:=I.ok.mod.kin.keeps I.bk
theorem Inv.lt (I:Inv X pins σ H s):X.env.locals < s.heap.objs.size:=let ⟨_,hn,_⟩:=I.loc;hn.lt
theorem Inv.sz (I:Inv X pins σ H s):X.s₀.heap.objs.size≤s.heap.objs.size:=Nat.le_trans I.ok.above (Nat.le_of_lt I.lt)
theorem Inv.nofs (I:Inv X pins σ H s) {a:Addr} (h:s.heap.objs.size≤a):a∉X.fs:=fun hb=>by
 obtain ⟨_,o,ho,_⟩:=I.ok.funs.mem hb
 exact absurd (Nat.lt_of_lt_of_le (Heap.lt_size ho) (Nat.le_trans I.sz h)) (Nat.lt_irrefl _)
theorem Inv.cne (I:Inv X pins σ H s):∀ x c,X.env.cells.lookup x=some c→c≠X.env.locals:=fun x c e z=>by
 obtain ⟨v,o,ho,hd⟩:=I.cell x c e
 obtain ⟨m,⟨o',es,ep,ho',hd',_⟩,_⟩:=I.loc
 rw [z,ho'] at ho;cases ho;rw [hd'] at hd;cases hd
theorem Inv.funs (I:Inv X pins σ H s):s.heap.FunFrames X.base X.outer:=by
 have all:∀ (l:List Env),(∀ b∈frs l,b∈X.fs)→X.s₀.heap.FunFrames X.base l→s.heap.FunFrames X.base l:=by
  intro l
  induction l with
  | nil=>intro _ _;trivial
  | cons env r ih =>
   intro hs hl
   obtain ⟨hk,⟨L,o,hf,hn,ho,hd⟩,hr⟩:=hl
   have hL:L∈X.fs:=hs L (by unfold frs;rw [List.filterMap_cons,hf];exact List.mem_cons_self)
   obtain ⟨sl,e⟩:=I.base.slot L o ho (I.ok.frf L hL) hL fun z=>I.ok.exfs L z hL
   exact⟨hk,⟨L,_,hf,hn,e,hd⟩,ih (fun b hb=>hs b (by unfold frs;rw [List.filterMap_cons,hf];exact List.mem_cons_of_mem _ hb)) hr⟩
 exact all X.outer (fun _ hb=>hb) I.ok.funs
theorem Inv.stack (I:Inv X pins σ H s):s.heap.FunFrames X.base X.stack:=by
 rcases I.ok.stk with e | ⟨e,hf⟩
 ·rw [e];exact I.funs
 ·rw [e]
  obtain ⟨m,hn,_⟩:=I.loc
  refine .cons (by rw [I.ok.kind];decide) hf hn ?_ I.funs
  exact Heap.get?_none_of_le (Nat.le_trans I.ok.bsz I.ok.above)
theorem Inv.stkSub (I:Inv X pins σ H s):∀ b∈frs X.stack,b∈X.env.locals :: X.fs:=fun b hb=>by
 rcases I.ok.stk with e | ⟨e,hf⟩
 ·rw [e] at hb;exact List.mem_cons_of_mem _ hb
 ·rw [e] at hb
  unfold frs at hb
  rw [List.filterMap_cons,hf] at hb
  exact hb
theorem Inv.stkFree (I:Inv X pins σ H s):∀ b∈frs X.stack,H b=none:=fun b hb=>by
 rcases List.mem_cons.mp (I.stkSub b hb) with e | hb
 ·rw [e];exact I.free
 ·obtain ⟨_,o,ho,_⟩:=I.ok.funs.mem hb
  exact I.base.free b o ho (I.ok.frf b hb) fun z=>I.ok.exfs b z hb
theorem Inv.step {g':Array GenState} {t':Nat} {d':Drawn} {ch:List Addr} (I:Inv X pins σ H s)
  (hch:∀ b∈ch,(b∈X.ex∨X.s₀.heap.objs.size≤b)∧b≠X.env.locals∧(∀ x c,X.env.cells.lookup x=some c→c≠b)∧∀ p∈X.pn++pins,p.1≠b)
  (keep:∀ b o,b≠X.env.locals→b∉X.fs→b∉ch→s.heap.get? b=some o→H b=none→h'.get? b=some o)
  (slot:∀ b o,b≠X.env.locals→b∈X.fs→b∉ch→s.heap.get? b=some o→H b=none→∃ sl,h'.get? b=some { o with slots:=sl }) (free:∀ b o,b∉ch→s.heap.get? b=some o→H b=none→H' b=none)
  (there:∀ b o,b∉ch→s.heap.get? b=some o→∃ o',h'.get? b=some o')
  (tups:∀ b xs,H b=some (.tup xs)→H' b=some (.tup xs)) (frzs:∀ b o u,H b=some (.frz o u)→H' b=some (.frz o u)) (tbls:∀ b ps,H b=some (.tbl ps)→∃ more,H' b=some (.tbl (ps++more)))
  (ns:∀ m,s.heap.Ns X.env.locals m→h'.Ns X.env.locals m) (hok:yO X.prog X.w H' h') (hg:AllBare g') :
  Inv X pins σ H' { s with heap:=h',gens:=g',drawn:=d',toks:=t' }:=by
 have neL:∀ b o,X.s₀.heap.get? b=some o→b≠X.env.locals:=fun b o e=>Nat.ne_of_lt (Nat.lt_of_lt_of_le (Heap.lt_size e) I.ok.above)
 have neC:∀ b o,X.s₀.heap.get? b=some o→b∉X.ex→b∉ch:=fun b o e hx hb=>by
  rcases (hch b hb).1 with z | z
  ·exact hx z
  ·exact absurd (Nat.lt_of_lt_of_le (Heap.lt_size e) z) (Nat.lt_irrefl _)
 have cellK:∀ x c,X.env.cells.lookup x=some c→∀ v,s.heap.IsCell c v→h'.IsCell c v:=fun x c e v ⟨o,ho,hd⟩=>by
  have nch:c∉ch:=fun z=>(hch c z).2.2.1 x c e rfl
  by_cases hc:c∈X.fs
  ·obtain ⟨sl,q⟩:=slot c o (I.cne x c e) hc nch ho (I.freeC x c e)
   exact⟨_,q,hd⟩
  ·exact⟨o,keep c o (I.cne x c e) hc nch ho (I.freeC x c e),hd⟩
 refine⟨I.ok,I.os,hg,⟨fun b o e n hb hx=>?_,fun b o e n hb hx=>?_,fun b o e n hx=>?_,fun b o e hx=>?_,fun b xs e=>tups b xs (I.base.tups b xs e),fun b o xs e=>frzs b o xs (I.base.frzs b o xs e),fun b ps e=>?_⟩,?_,fun x c e=>?_,?_,fun x c e=>?_,fun p hp=>?_,hok,I.len⟩
 ·exact keep b o (neL b o e) hb (neC b o e hx) (I.base.keep b o e n hb hx) (I.base.free b o e n hx)
 ·obtain ⟨sl,e1⟩:=I.base.slot b o e n hb hx
  obtain ⟨sl',e2⟩:=slot b _ (neL b o e) hb (neC b o e hx) e1 (I.base.free b o e n hx)
  exact⟨sl',e2⟩
 ·obtain ⟨o',e1⟩:=I.base.there b o e hx
  exact free b o' (neC b o e hx) e1 (I.base.free b o e n hx)
 ·obtain ⟨o',e1⟩:=I.base.there b o e hx
  exact there b o' (neC b o e hx) e1
 ·obtain ⟨m1,e1⟩:=I.base.tbls b ps e
  obtain ⟨m2,e2⟩:=tbls b _ e1
  exact⟨m1++m2,by rw [e2,Array.append_assoc]⟩
 ·obtain ⟨m,hn,hl⟩:=I.loc
  refine⟨m,ns m hn,fun i x v e1 e2 e3=>?_⟩
  obtain ⟨u,r,l⟩:=hl i x v e1 e2 e3
  refine⟨u,r,?_⟩
  rcases l with l | ⟨k,c,e,z⟩
  ·exact .inl l
  ·exact .inr ⟨k,c,e,cellK x c e _ z⟩
 ·obtain ⟨v,z⟩:=I.cell x c e
  exact⟨v,cellK x c e v z⟩
 ·obtain ⟨m,⟨o,_,_,ho,_⟩,_⟩:=I.loc
  exact free _ o (fun z=>(hch _ z).2.1 rfl) ho I.free
 ·obtain ⟨v,o,ho,hd⟩:=I.cell x c e
  exact free c o (fun z=>(hch c z).2.2.1 x c e rfl) ho (I.freeC x c e)
 ·obtain ⟨e,n,ne,nf,d⟩:=I.pin p hp
  have nch:p.1∉ch:=fun z=>(hch p.1 z).2.2.2 p hp rfl
  exact⟨keep p.1 p.2 ne nf nch e n,free p.1 p.2 nch e n,ne,nf,d⟩
theorem Inv.un {t':Nat} (I:Inv X pins σ H s) (u:Un X.fs [] H H' s.heap h') (hok:yO X.prog X.w H' h'):Inv X pins σ H' { s with heap:=h',toks:=t' }:=by
 obtain ⟨m,⟨o,es,ep,ho,r⟩,_⟩:=id I.loc
 obtain ⟨sl,hL⟩:=u.any ho I.free (by simp)
 exact I.step (g':=s.gens) (d':=s.drawn) (ch:=[]) (fun _ z=>nomatch z) (fun b o _ hb _ e n=>u.keep b o e n hb (by simp)) (fun b o _ hb _ e n=>u.slot b o e n hb (by simp)) (fun b o _ e n=>u.free b o e n (by simp)) (fun b o _ e=>u.there b o e (by simp)) u.tups u.frzs u.tbls (fun m' hm=>by
  obtain ⟨o',es',ep',ho',r'⟩:=hm
  rw [ho] at ho';cases ho'
  exact⟨_,es',ep',hL,r'⟩) hok I.bare
theorem Inv.call {g':Array GenState} {t':Nat} {d':Drawn} {ch:List Addr} (I:Inv X pins σ H s) (u:Un (frs X.stack) ch H H' s.heap h') (hok:yO X.prog X.w H' h') (hg:AllBare g')
  (hch:∀ b∈ch,(b∈X.ex∨X.s₀.heap.objs.size≤b)∧b≠X.env.locals∧(∀ x c,X.env.cells.lookup x=some c→c≠b)∧∀ p∈X.pn++pins,p.1≠b) :
  Inv X pins σ H' { s with heap:=h',gens:=g',drawn:=d',toks:=t' }:=by
 obtain ⟨m,⟨o,es,ep,ho,r⟩,_⟩:=id I.loc
 obtain ⟨sl,hL⟩:=u.any ho I.free fun z=>(hch _ z).2.1 rfl
 exact I.step (ch:=ch) hch (fun b o hL hb hc e n=>u.keep b o e n (fun z=>(List.mem_cons.mp (I.stkSub b z)).elim hL hb) hc) (fun b o _ _ hc e n=>u.any e n hc) (fun b o hc e n=>u.free b o e n hc) (fun b o hc e=>u.there b o e hc) u.tups u.frzs u.tbls (fun m' hm=>by
  obtain ⟨o',es',ep',ho',r'⟩:=hm
  rw [ho] at ho';cases ho'
  exact⟨_,es',ep',hL,r'⟩) hok hg
theorem Inv.turned {t':Nat} {it:Addr} (I:Inv X pins σ H s) (k:∀ b o,b≠it→s.heap.get? b=some o→h'.get? b=some o) (hn:H it=none) (hL:it≠X.env.locals)
  (h1:it∈X.ex∨X.s₀.heap.objs.size≤it) (h2:∀ x c,X.env.cells.lookup x=some c→c≠it) (h3:∀ p∈X.pn++pins,p.1≠it):Inv X pins σ H { s with heap:=h',toks:=t' }:=by
 have nit:∀ b u,H b=some u→b≠it:=fun b u e z=>by rw [z,hn] at e;cases e
 refine I.step (g':=s.gens) (d':=s.drawn) (ch:=[it]) (fun b hb=>?_) (fun b o _ _ hc e _=>k b o (fun z=>hc (by simp [z])) e) (fun b o _ _ hc e _=>⟨o.slots,k b o (fun z=>hc (by simp [z])) e⟩) (fun _ _ _ _ n=>n)
  (fun b o hc e=>⟨o,k b o (fun z=>hc (by simp [z])) e⟩) (fun _ _ e=>e) (fun _ _ _ e=>e) (fun b ps e=>⟨#[],by rw [e];simp⟩) (fun m hm=>?_) (fun b u e=>?_) I.bare
 ·have e:b=it:=by simpa using hb
  subst e
  exact⟨h1,hL,h2,h3⟩
 ·obtain ⟨o,es,ep,ho,r⟩:=hm
  exact⟨o,es,ep,k _ o (Ne.symm hL) ho,r⟩
 ·refine (I.hok b u e).stay (fun c v hc q=>k c v ?_ q) (fun _ q=>q) fun _ _ q=>q
  rcases hc with z | z
  ·rw [z];exact nit b u e
  ·exact nit c _ z
theorem Inv.tok (I:Inv X pins σ H s) (t:Nat):Inv X pins σ H { s with toks:=t }:=I.un (h':=s.heap) (t':=t) Un.refl I.hok
theorem Inv.kept {t':Nat} (I:Inv X pins σ H s) (k:∀ b u,s.heap.get? b=some u→h'.get? b=some u):Inv X pins σ H { s with heap:=h',toks:=t' }:=I.un (Un.kept k) (I.hok.kept k)
theorem Inv.laid {a:Addr} {o:HO} {t':Nat} (I:Inv X pins σ H s) (k:∀ b u,s.heap.get? b=some u→h'.get? b=some u) (hp:s.heap.objs.size≤a) (new:bd X.prog X.w (yV H a o) h' a o) :
  Inv X pins σ (yV H a o) { s with heap:=h',toks:=t' }:=I.un (Un.laid k hp (I.hok.fresh hp)) (I.hok.laid k hp new)
theorem Inv.write {x e:Addr} {o:HO} {t':Nat} (I:Inv X pins σ H s) (mu:Mut (H x)) (he:e=x∨H e=some (.own x)) (k:∀ b u,b≠e→s.heap.get? b=some u→h'.get? b=some u) (heo:∃ u,h'.get? e=some u)
  (new:bd X.prog X.w (yV H x o) h' x o):Inv X pins σ (yV H x o) { s with heap:=h',toks:=t' }:=I.un (Un.write mu he k heo) (I.hok.write mu he k heo new)
theorem Inv.pins_of {pins':List (Addr×Obj)} (I:Inv X pins σ H s) (h:∀ p∈pins',s.heap.get? p.1=some p.2∧H p.1=none∧p.1≠X.env.locals∧p.1∉X.fs∧∀ v,p.2.data≠.cell v):Inv X pins' σ H s :=
 ⟨I.ok,I.os,I.bare,I.base,I.loc,I.cell,I.free,I.freeC,fun p hp=>(List.mem_append.mp hp).elim (fun z=>I.pin p (List.mem_append_left _ z)) (h p),I.hok,I.len⟩
theorem gw {N:List Str} (hN:N.Nodup) {i j:Nat} {x:Str} (a:N[i]?=some x) (b:N[j]?=some x):i=j:=by
 obtain ⟨h1,e1⟩:=List.getElem?_eq_some_iff.mp a
 obtain ⟨h2,e2⟩:=List.getElem?_eq_some_iff.mp b
 exact (List.getElem_inj hN).mp (e1.trans e2.symm)
theorem mZ {M:Model} {A:Around} {E:Value→Shared→Prop} {i:Nat} {x:Str} {v:V} {u:Value} {Q:Unit→Shared→Prop} (I:Inv X pins σ H s) (hN:X.N.Nodup) (hi:X.N[i]?=some x) (hx:Loc X.env.scope x) (r:aN v u)
  (h:∀ s',Inv X pins (σ.set i (some v)) H s'→(∃ a,Heap.SameBut a s.heap s'.heap∧(a=X.env.locals∨X.env.cells.lookup x=some a))→Q () s') (hf:X.fn x=true∨X.env.scope.names.lookup x=some .local :=by walk_at "v1"):wpAny M A (storeName X.env x u) Q E s:=by
 obtain ⟨m,hn,hl⟩:=id I.loc
 have hcls:(X.env.scope.kind == .class || (X.env.scope.kind == .module && X.env.locals != X.env.globals))=false:=by rw [I.ok.kind];rfl
 have hiσ:i < σ.length:=by rw [I.len];exact (List.getElem?_eq_some_iff.mp hi).1
 have cne:=I.cne
 have tracked:∀ {a:Addr} {h':Heap},(∃ o,s.heap.get? a=some o∧H a=none)→Heap.SameBut a s.heap h'→yO X.prog X.w H h':=fun {a h'} ha hs b ob e=>by
  obtain ⟨_,_,hfree⟩:=ha
  refine (I.hok b ob e).stay (fun c w' hc q=>(hs.2 c ?_).trans q) (fun _ q=>q) fun _ _ q=>q
  rintro rfl
  rcases hc with rfl | hc
  ·rw [hfree] at e;cases e
  ·rw [hfree] at hc;cases hc
 rcases hx with hk | hk
 ·refine wpAny_storeName_local hk hn (fun h' hn' hs=>?_) hcls
  obtain ⟨oL,_,_,hoL,_⟩:=id hn
  refine h _ ⟨I.ok,I.os,I.bare,⟨fun b o e n hb hx=>?_,fun b o e n hb hx=>?_,I.base.free,fun b o e hx=>?_,I.base.tups,I.base.frzs,I.base.tbls⟩,⟨_,hn',fun j y v' e1 e2 e3=>?_⟩,fun y c e=>?_,I.free,I.freeC,fun p hp=>?_,tracked ⟨oL,hoL,I.free⟩ hs,by simpa using I.len⟩ ⟨_,hs,.inl rfl⟩
  ·exact (hs.2 b (Nat.ne_of_lt (Nat.lt_of_lt_of_le (Heap.lt_size e) I.ok.above))).trans (I.base.keep b o e n hb hx)
  ·obtain ⟨sl,e1⟩:=I.base.slot b o e n hb hx
   exact⟨sl,(hs.2 b (Nat.ne_of_lt (Nat.lt_of_lt_of_le (Heap.lt_size e) I.ok.above))).trans e1⟩
  ·obtain ⟨o',e1⟩:=I.base.there b o e hx
   exact⟨o',(hs.2 b (Nat.ne_of_lt (Nat.lt_of_lt_of_le (Heap.lt_size e) I.ok.above))).trans e1⟩
  ·by_cases hj:j=i
   ·subst hj
    rw [hi] at e1;cases e1
    rw [List.getElem?_set_self hiσ] at e2
    cases e2
    exact⟨u,r,.inl ⟨hk,by simp⟩⟩
   ·rw [List.getElem?_set_ne (Ne.symm hj)] at e2
    obtain ⟨u',r',q⟩:=hl j y v' e1 e2 e3
    refine⟨u',r',?_⟩
    rcases q with ⟨k,e⟩ | ⟨k,c,e,z⟩
    ·refine .inl ⟨k,?_⟩
     have:y≠x:=fun e=>hj (gw hN e1 (e ▸ hi))
     simp [this,e]
    ·exact .inr ⟨k,c,e,z.sameBut hs (cne y c e)⟩
  ·obtain ⟨w',z⟩:=I.cell y c e
   exact⟨w',z.sameBut hs (cne y c e)⟩
  ·obtain ⟨e,n,ne,nf,d⟩:=I.pin p hp
   exact⟨(hs.2 p.1 ne).trans e,n,ne,nf,d⟩
 ·have hfn:X.fn x=true:=by
   rcases hf with z | z
   ·exact z
   ·rw [z] at hk;cases hk
  obtain ⟨c,hc⟩:=I.ok.has x (.inl hk)
  obtain ⟨w',z⟩:=I.cell x c hc
  refine wpAny_storeName_cell I.ok.kind hk hc z (fun h' hc' hs=>?_)
  obtain ⟨oc,hoc,hocd⟩:=id z
  refine h { s with heap:=h' } ⟨I.ok,I.os,I.bare,⟨fun b o e n hb hx=>?_,fun b o e n hb hx=>?_,I.base.free,fun b o e hx=>?_,I.base.tups,I.base.frzs,I.base.tbls⟩,⟨m,hn.sameBut hs (Ne.symm (cne x c hc)),fun j y v' e1 e2 e3=>?_⟩,fun y c' e=>?_,I.free,I.freeC,fun p hp=>?_,tracked ⟨oc,hoc,I.freeC x c hc⟩ hs,by simpa using I.len⟩ ⟨c,hs,.inr hc⟩
  ·exact (hs.2 b (Nat.ne_of_lt (Nat.lt_of_lt_of_le (Heap.lt_size e) (I.ok.cab x c hfn hc)))).trans (I.base.keep b o e n hb hx)
  ·obtain ⟨sl,e1⟩:=I.base.slot b o e n hb hx
   exact⟨sl,(hs.2 b (Nat.ne_of_lt (Nat.lt_of_lt_of_le (Heap.lt_size e) (I.ok.cab x c hfn hc)))).trans e1⟩
  ·obtain ⟨o',e1⟩:=I.base.there b o e hx
   exact⟨o',(hs.2 b (Nat.ne_of_lt (Nat.lt_of_lt_of_le (Heap.lt_size e) (I.ok.cab x c hfn hc)))).trans e1⟩
  ·by_cases hj:j=i
   ·subst hj
    rw [hi] at e1;cases e1
    rw [List.getElem?_set_self hiσ] at e2
    cases e2
    exact⟨u,r,.inr ⟨.inl hk,c,hc,hc'⟩⟩
   ·rw [List.getElem?_set_ne (Ne.symm hj)] at e2
    obtain ⟨u',r',q⟩:=hl j y v' e1 e2 e3
    refine⟨u',r',?_⟩
    rcases q with q | ⟨k,c',e,z'⟩
    ·exact .inl q
    ·refine .inr ⟨k,c',e,z'.sameBut hs ?_⟩
     rintro rfl
     exact hj (gw hN e1 (I.ok.inj _ _ _ e hc ▸ hi))
  ·by_cases hcc:c'=c
   ·subst hcc;exact⟨_,hc'⟩
   ·obtain ⟨w2,z2⟩:=I.cell y c' e
    exact⟨w2,z2.sameBut hs hcc⟩
  ·obtain ⟨e,n,ne,nf,d⟩:=I.pin p hp
   refine⟨(hs.2 p.1 ?_).trans e,n,ne,nf,d⟩
   intro q
   rw [q,hoc] at e
   have q':oc=p.2:=Option.some.inj e
   exact d w' (by rw [← q'];exact hocd)
theorem cu {M:Model} {A:Around} {E:Value→Shared→Prop} {i:Nat} {x:Str} {v:V} {u:Value} {Q:Unit→Shared→Prop} (I:Inv X pins σ H s) (hN:X.N.Nodup) (hi:X.N[i]?=some x) (hx:Loc X.env.scope x) (r:aN v u)
  (h:∀ s',Inv X pins (σ.set i (some v)) H s'→Q () s') (hf:X.fn x=true∨X.env.scope.names.lookup x=some .local :=by walk_at "v1"):wpAny M A (storeName X.env x u) Q E s :=
 mZ I hN hi hx r (fun s' I' _=>h s' I') hf
theorem Inv.call' {s':Shared} {ch:List Addr} (I:Inv X pins σ H s) (ho:s'.os=s.os) (u:Un (frs X.stack) ch H H' s.heap s'.heap) (hok:yO X.prog X.w H' s'.heap) (hg:AllBare s'.gens)
  (hch:∀ b∈ch,(b∈X.ex∨X.s₀.heap.objs.size≤b)∧b≠X.env.locals∧(∀ x c,X.env.cells.lookup x=some c→c≠b)∧∀ p∈X.pn++pins,p.1≠b):Inv X pins σ H' s':=by
 obtain ⟨h',g',d',t',o'⟩:=s'
 have e:o'=s.os:=ho
 subst e
 exact I.call (g':=g') (t':=t') (d':=d') u hok hg hch
end
abbrev XK:=Value→Option Addr→Hp→Prop
abbrev St:=List (Option V)
abbrev VK:=V→Hp→Prop
abbrev TE:=St→Hp→VK→Prop
abbrev TT:=St→Hp→(Bool→Hp→Prop)→Prop
abbrev TA:=St→Hp→(List V→Hp→Prop)→Prop
structure sH where
 nx:St→Hp→Prop
 rt:VK
 bk:St→Hp→Prop:=fun _ _=>False
 ct:St→Hp→Prop:=fun _ _=>False
abbrev TS:=sH→St→Hp→Prop
def EP (X:Cx) (pins:List (Addr×Obj)) (σ:St) (Q:VK) (u:Value) (s':Shared):Prop:=∃ v H',Inv X pins σ H' s'∧aN v u∧Q v H'
def TP (X:Cx) (pins:List (Addr×Obj)) (σ:St) (Q:Bool→Hp→Prop) (b:Bool) (s':Shared):Prop:=∃ H',Inv X pins σ H' s'∧Q b H'
def AP (X:Cx) (pins:List (Addr×Obj)) (σ:St) (Q:List V→Hp→Prop) (us:List Value) (s':Shared):Prop:=∃ vs H',Inv X pins σ H' s'∧aV vs us∧Q vs H'
def SP (X:Cx) (pins:List (Addr×Obj)) (D:sH) (f:Flow) (s':Shared):Prop :=
 match f with
 | .next=>∃ σ' H',Inv X pins σ' H' s'∧D.nx σ' H'
 | .brk=>∃ σ' H',Inv X pins σ' H' s'∧D.bk σ' H'
 | .cont=>∃ σ' H',Inv X pins σ' H' s'∧D.ct σ' H'
 | .ret u=>∃ v σ' H',Inv X pins σ' H' s'∧aN v u∧D.rt v H'
def PE (X:Cx) (e:Expr) (t:TE):Prop :=
 ∀ (pins:List (Addr×Obj)) (s:Shared) (σ:St) (H:Hp) (Q:VK),Inv X pins σ H s→t σ H Q→wpAny (model X.prog X.w) X.A (eval e X.env) (EP X pins σ Q) X.xe s
def PT (X:Cx) (e:Expr) (t:TT):Prop :=
 ∀ (pins:List (Addr×Obj)) (s:Shared) (σ:St) (H:Hp) (Q:Bool→Hp→Prop),Inv X pins σ H s→t σ H Q→wpAny (model X.prog X.w) X.A (isTrue e X.env (eval e X.env)) (TP X pins σ Q) X.xe s
def PW (X:Cx) (e:Expr) (t:TT):Prop :=
 ∀ (whole:Sem Value) (pins:List (Addr×Obj)) (s:Shared) (σ:St) (H:Hp) (Q:Bool→Hp→Prop),Inv X pins σ H s→t σ H Q→wpAny (model X.prog X.w) X.A (isTrue e X.env whole) (TP X pins σ Q) X.xe s
theorem PW.pt {X:Cx} {e:Expr} {t:TT} (h:PW X e t):PT X e t:=h _
def PA (X:Cx) (es:List Expr) (t:TA):Prop :=
 ∀ (pos:Pos) (pins:List (Addr×Obj)) (s:Shared) (σ:St) (H:Hp) (Q:List V→Hp→Prop),Inv X pins σ H s→t σ H Q→wpAny (model X.prog X.w) X.A (spliced (backTo pos (starEach es X.env))) (AP X pins σ Q) X.xe s
def PS (X:Cx) (st:Stmt) (t:TS):Prop :=
 ∀ (pins:List (Addr×Obj)) (s:Shared) (σ:St) (H:Hp) (D:sH),Inv X pins σ H s→t D σ H→wpAny (model X.prog X.w) X.A (exec st X.env) (SP X pins D) X.xe s
def PSs (X:Cx) (st:List Stmt) (t:TS):Prop :=
 ∀ (pins:List (Addr×Obj)) (s:Shared) (σ:St) (H:Hp) (D:sH),Inv X pins σ H s→t D σ H→wpAny (model X.prog X.w) X.A (execs st X.env) (SP X pins D) X.xe s
theorem yT {α:Type} {t:Sem α} {Q Q':α→Shared→Prop} {M:Model} {A:Around} {E:Value→Shared→Prop} {s:Shared} (h:wpAny M A t Q E s) (hQ:∀ a s,Q a s→Q' a s):wpAny M A t Q' E s:=wpAny_mono h hQ fun _ _ x=>x
end L2
namespace L2
open PySem PySem.Spec PyProof.Rows
section
variable {X:Cx}
theorem bin {a b:Expr} {ta tb:TE} (ha:PE X a ta) (hb:PE X b tb) {pins:List (Addr×Obj)} {s:Shared} {σ:St} {H:Hp} {R:V→V→Hp→Prop} (I:Inv X pins σ H s) (h:ta σ H fun x H1=>tb σ H1 fun y H2=>R x y H2)
  {α:Type} {Q:α→Shared→Prop} {f:Value→Value→Sem α}
  (hf:∀ v u s2 x y H2,Inv X pins σ H2 s2→aN x v→aN y u→R x y H2→wpAny (model X.prog X.w) X.A (f v u) Q X.xe s2) :
  wpAny (model X.prog X.w) X.A (eval a X.env) (fun v s₁=>wpAny (model X.prog X.w) X.A (eval b X.env) (fun u s₂=>wpAny (model X.prog X.w) X.A (f v u) Q X.xe s₂) X.xe s₁) X.xe s:=by
 refine yT (ha pins s σ H _ I h) fun v s1 ⟨x,H1,I1,r1,q1⟩=>?_
 refine yT (hb pins s1 σ H1 _ I1 q1) fun u s2 ⟨y,H2,I2,r2,q2⟩=>?_
 exact hf v u s2 x y H2 I2 r1 r2 q2
def p9 (i:Nat):TE:=fun σ H Q=>∃ v,σ[i]?=some (some v)∧Q v H
def tC (v:V):TE:=fun _ H Q=>Q v H
theorem aQ {i:Nat} {x:Str} {pos:Pos} (hN:X.N[i]?=some x) (hv:Vis X.env.scope x) (hd:(x == ("__debug__":Str))=false:=by decide) (hcd:(x == ("__classdict__":Str))=false:=by decide):PE X (.Name x pos) (p9 i):=by
 intro pins s σ H Q I h
 obtain ⟨v,e,h⟩:=h
 obtain ⟨m,hn,hl⟩:=I.loc
 obtain ⟨u,r,l⟩:=hl i x v hN e hv
 have fin:EP X pins σ Q u s:=⟨v,H,I,r,h⟩
 rcases l with ⟨hk,hm⟩ | ⟨hk,c,hc,hcell⟩
 ·exact wpAny_Name (wpAny_loadName_local I.ok.kind hk hn hm fin) hd
 ·rcases hk with hk | hk
  ·exact wpAny_Name (wpAny_loadName_cell I.ok.kind hk hc hcell fin) hd
  ·exact wpAny_Name (wpAny_loadName_free I.ok.kind hk hc hcell fin hcd) hd
theorem uk {i j pos}:PE X (.Constant (.int i) j pos) (tC (.int i)):=fun _ _ _ H _ I h=>wpAny_Constant_int ⟨.int i,H,I.tok _,⟨_,rfl⟩,h⟩
theorem xA {b j pos}:PE X (.Constant (.bool b) j pos) (tC (.bl b)):=fun _ _ _ H _ I h=>Constant_bool ⟨.bl b,H,I,rfl,h⟩
theorem wA {j pos}:PE X (.Constant .none j pos) (tC .non):=fun _ _ _ H _ I h=>Constant_none ⟨.non,H,I,rfl,h⟩
theorem jD {x j pos}:PE X (.Constant (.str x) j pos) (tC (.str x)):=fun _ _ _ H _ I h=>Calls.Constant_str ⟨.str x,H,I.tok _,⟨_,rfl⟩,h⟩
def Gl (X:Cx) (x:Str):Prop:=X.env.kindOf x=some .globalImplicit
theorem eQ {E:Value→Shared→Prop} {pins:List (Addr×Obj)} {s:Shared} {σ:St} {H:Hp} {x:Str} {u:Value} {pos:Pos} {Q:Value→Shared→Prop} (I:Inv X pins σ H s) (hg:Gl X x) (hm:X.mg x=some u) (h:Q u s)
  (hd:(x == ("__debug__":Str))=false:=by decide):wpAny (model X.prog X.w) X.A (eval (.Name x pos) X.env) Q E s :=
 Calls.Name_function_global I.ok.kind hg (Calls.loadGlobal_global (by rw [I.ok.glob];exact I.mod.glob.keeps I.bk) hm h) hd
theorem jW {E:Value→Shared→Prop} {pins:List (Addr×Obj)} {s:Shared} {σ:St} {H:Hp} {x:Str} {u:Value} {pos:Pos} {Q:Value→Shared→Prop} (I:Inv X pins σ H s) (hg:Gl X x) (hm:X.mg x=none) (hv:bootBuiltins x=some u) (h:Q u s)
  (hn:x≠"__name__":=by decide) (hd:(x == ("__debug__":Str))=false:=by decide):wpAny (model X.prog X.w) X.A (eval (.Name x pos) X.env) Q E s:=by
 obtain ⟨mb,h1,h2⟩:=I.mod.blt
 exact Calls.Name_function_global I.ok.kind hg (Calls.loadGlobal_builtin (by rw [I.ok.glob];exact I.mod.glob.keeps I.bk) hm (by rw [I.ok.blt];exact h1.keeps I.bk) ((h2 x hn).trans hv) h) hd
theorem iW {x:Str} {v:V} {u:Value} {pos:Pos} (hg:Gl X x) (hm:X.mg x=some u) (r:aN v u) (hd:(x == ("__debug__":Str))=false:=by decide):PE X (.Name x pos) (tC v) :=
 fun _ _ _ H _ I h=>eQ I hg hm ⟨v,H,I,r,h⟩ hd
theorem tU {x:Str} {v:V} {u:Value} {pos:Pos} (hg:Gl X x) (hm:X.mg x=none) (hv:bootBuiltins x=some u) (r:aN v u) (hn:x≠"__name__":=by decide) (hd:(x == ("__debug__":Str))=false:=by decide):PE X (.Name x pos) (tC v) :=
 fun _ _ _ H _ I h=>jW I hg hm hv ⟨v,H,I,r,h⟩ hn hd
variable {a b:Expr} {ta tb:TE} {pos:Pos}
def PC (X:Cx) (op:CmpOp) (a b:Expr) (t:TE):Prop :=
 ∀ (pins:List (Addr×Obj)) (s:Shared) (σ:St) (H:Hp) (Q:VK),Inv X pins σ H s→t σ H Q →
  wpAny (model X.prog X.w) X.A (eval a X.env) (fun v s₁=>wpAny (model X.prog X.w) X.A (eval b X.env) (fun u s₂=>wpAny (model X.prog X.w) X.A (compareOp op v u) (EP X pins σ Q) X.xe s₂) X.xe s₁) X.xe s
def tB (t:TE):TT:=fun σ H Q=>t σ H fun x H1=>∃ c,x=.bl c∧Q c H1
theorem pt_cmp {op:CmpOp} {t:TE} (h:PC X op a b t) (h1:behindInMarks op b=false:=by first | exact nobehind _ (by decide) (by decide) | rfl):PT X (.Compare a [op] [b] pos) (tB t):=by
 intro pins s σ H Q I hw
 refine wpAny_isTrue_Compare1 (yT (h pins s σ H _ I hw) fun v s1 h1=>yT h1 fun u s2 h2=>yT h2 fun c s3 ⟨x,H1,I1,r1,q1⟩=>?_) h1
 obtain ⟨d,rfl,q⟩:=q1
 cases r1
 exact wpAny_truthy_bool ⟨H1,I1,q⟩
theorem uG {e:Expr} {t:TE} (h:PE X e t) (he:∀ whole,isTrue e X.env whole=(do let v←whole;standAt e.pos;holding [v] (truthy v)):=by intro _;rfl):PT X e (tB t):=by
 intro pins s σ H Q I hw
 refine isTrue_plain (yT (h pins s σ H _ I hw) fun v s1 ⟨x,H1,I1,r1,q1⟩=>?_) (he _)
 obtain ⟨d,rfl,q⟩:=q1
 cases r1
 exact wpAny_truthy_bool ⟨H1,I1,q⟩
variable {tA tB':TT} {bW:List Expr}
def tAnd (t u:TT):TT:=fun σ H Q=>t σ H fun c H1=>if c=true then u σ H1 Q else Q false H1
def tOr (t u:TT):TT:=fun σ H Q=>t σ H fun c H1=>if c=true then Q true H1 else u σ H1 Q
def tNot (t:TT):TT:=fun σ H Q=>t σ H fun c H1=>Q (!c) H1
theorem sS (ha:PT X a tA):PW X (.BoolOp .And [a] pos) tA:=by
 intro wh pins s σ H Q I h
 refine isTrue_and (yT (ha pins s σ H Q I h) fun c s1 e=>?_)
 cases c with
 | true=>exact isTrue_and_nil e
 | false=>exact e
theorem uC (ha:PT X a tA):PW X (.BoolOp .Or [a] pos) tA:=by
 intro wh pins s σ H Q I h
 refine isTrue_or (yT (ha pins s σ H Q I h) fun c s1 e=>?_)
 cases c with
 | false=>exact isTrue_or_nil e
 | true=>exact e
theorem u7 (ha:PT X a tA) (hb:PW X (.BoolOp .And (b :: bW) pos) tB'):PW X (.BoolOp .And (a :: b :: bW) pos) (tAnd tA tB'):=by
 intro wh pins s σ H Q I h
 refine isTrue_and (yT (ha pins s σ H _ I h) fun c s1 ⟨H1,I1,q1⟩=>?_)
 cases c with
 | true=>exact hb wh pins s1 σ H1 Q I1 q1
 | false=>exact⟨H1,I1,q1⟩
theorem xJ (ha:PT X a tA) (hb:PW X (.BoolOp .Or (b :: bW) pos) tB'):PW X (.BoolOp .Or (a :: b :: bW) pos) (tOr tA tB'):=by
 intro wh pins s σ H Q I h
 refine isTrue_or (yT (ha pins s σ H _ I h) fun c s1 ⟨H1,I1,q1⟩=>?_)
 cases c with
 | true=>exact⟨H1,I1,q1⟩
 | false=>exact hb wh pins s1 σ H1 Q I1 q1
theorem wE (ha:PT X a tA):PT X (.UnaryOp .Not a pos) (tNot tA):=by
 intro pins s σ H Q I h
 exact isTrue_not (ha pins s σ H (fun c H1=>Q (!c) H1) I h)
def xE (ta tb:TE):TE:=fun σ H Q=>ta σ H fun x H1=>∃ c,x=.bl c∧if c=true then tb σ H1 Q else Q (.bl false) H1
def tOrV (ta tb:TE):TE:=fun σ H Q=>ta σ H fun x H1=>∃ c,x=.bl c∧if c=true then Q (.bl true) H1 else tb σ H1 Q
def xf (ta:TE):TE:=fun σ H Q=>ta σ H fun x H1=>∃ c,x=.bl c∧Q (.bl (!c)) H1
theorem vS {op} {t:TE} (h:PE X a t):PE X (.BoolOp op [a] pos) t:=fun pins s σ H Q I hw=>BoolOp_one (h pins s σ H Q I hw)
theorem uN (ha:PE X a ta) (hb:PE X (.BoolOp .And (b :: bW) pos) tb):PE X (.BoolOp .And (a :: b :: bW) pos) (xE ta tb):=by
 intro pins s σ H Q I h
 refine BoolOp_and (yT (ha pins s σ H _ I h) fun v s1 ⟨x,H1,I1,r1,q1⟩=>?_)
 obtain ⟨c,rfl,q1⟩:=q1
 cases r1
 refine wpAny_truthy_bool ?_
 cases c with
 | true=>exact hb pins s1 σ H1 Q I1 q1
 | false=>exact⟨.bl false,H1,I1,rfl,q1⟩
theorem xB (ha:PE X a ta) (hb:PE X (.BoolOp .Or (b :: bW) pos) tb):PE X (.BoolOp .Or (a :: b :: bW) pos) (tOrV ta tb):=by
 intro pins s σ H Q I h
 refine BoolOp_or (yT (ha pins s σ H _ I h) fun v s1 ⟨x,H1,I1,r1,q1⟩=>?_)
 obtain ⟨c,rfl,q1⟩:=q1
 cases r1
 refine wpAny_truthy_bool ?_
 cases c with
 | false=>exact hb pins s1 σ H1 Q I1 q1
 | true=>exact⟨.bl true,H1,I1,rfl,q1⟩
theorem wg (ha:PE X a ta):PE X (.UnaryOp .Not a pos) (xf ta):=by
 intro pins s σ H Q I h
 refine UnaryOp_ (yT (ha pins s σ H _ I h) fun v s1 ⟨x,H1,I1,r1,q1⟩=>?_)
 obtain ⟨c,rfl,q1⟩:=q1
 cases r1
 exact not_of (wpAny_truthy_bool ⟨.bl (!c),H1,I1,rfl,q1⟩)
end
end L2
namespace L2
open PySem PySem.Spec PyProof.Rows
def yI (K:PySem.W.Frag) (H:Hp) (a:Addr) (xs:List V):Prop :=
 Rd H a (.lst xs) ∨
  ∃ (o:Obj) (its:Array Value) (n:Nat),K.lookup a=some o∧o.cls=.type "list"∧o.dict=none∧o.data=.seq its n∧its.size≤sizeLine∧aV xs its.toList
def yR (K:PySem.W.Frag) (H:Hp) (a:Addr) (xs:List V):Prop :=
 Rd H a (.tup xs) ∨
  ∃ (o:Obj) (its:Array Value) (n:Nat),K.lookup a=some o∧o.cls=.type "tuple"∧o.data=.seq its n∧its.size≤sizeLine∧aV xs its.toList
def absV:Value→Option V
 | .none=>some .non
 | .bool b=>some (.bl b)
 | .int i _=>some (.int i)
 | .str x _=>some (.str x)
 | .bytes b _=>some (.byt b)
 | .float b _=>some (.flt b)
 | .ref a=>some (.ref a)
 | .type n=>some (.ty n)
 | _=>none
theorem aN.abs {x:V} {u:Value} (r:aN x u):absV u=some x:=by
 cases x with
 | non=>cases r;rfl
 | bl _=>cases r;rfl
 | int _=>obtain ⟨t,rfl⟩:=r;rfl
 | str _=>obtain ⟨t,rfl⟩:=r;rfl
 | byt _=>obtain ⟨t,rfl⟩:=r;rfl
 | flt _=>obtain ⟨t,rfl⟩:=r;rfl
 | ref _=>cases r;rfl
 | ty _=>cases r;rfl
theorem aN.inj {x y:V} {u:Value} (r:aN x u) (q:aN y u):x=y:=Option.some.inj (r.abs.symm.trans q.abs)
theorem aV.inj:∀ {xs ys:List V} {us:List Value},aV xs us→aV ys us→xs=ys
 | _,_,_,.nil,.nil=>rfl
 | _,_,_,.cons r t,.cons r' t'=>by rw [r.inj r',aV.inj t t']
section
variable {X:Cx} {pins:List (Addr×Obj)} {σ:St} {H:Hp} {s:Shared} {a:Addr} {xs ys:List V}
theorem yI.of {K:PySem.W.Frag} (h:H a=some (.lst xs)):yI K H a xs:=.inl (.inl h)
theorem yR.of {K:PySem.W.Frag} (h:H a=some (.tup xs)):yR K H a xs:=.inl (.inl h)
theorem Inv.list (I:Inv X pins σ H s) (h:yI X.K H a xs):∃ its:List Value,aV xs its∧PlainL s.heap a its.toArray∧xs.length≤sizeLine:=by
 rcases h with h | ⟨o,its,n,hk,hc,hd,hs,hz,r⟩
 ·obtain ⟨z,its,n,r,e⟩:=h.ok I.hok
  exact⟨its,r,⟨_,n,e,rfl,rfl,rfl⟩,z⟩
 ·refine⟨its.toList,r,⟨o,n,I.kIn a o hk,hc,hd,by simpa using hs⟩,?_⟩
  have e:=r.length
  simp only [Array.length_toList] at e
  omega
theorem Inv.tuple (I:Inv X pins σ H s) (h:yR X.K H a xs):∃ its:List Value,aV xs its∧IsTup s.heap a its.toArray∧xs.length≤sizeLine:=by
 rcases h with h | ⟨o,its,n,hk,hc,hs,hz,r⟩
 ·obtain ⟨z,its,r,p⟩:=h.ok I.hok
  exact⟨its,r,p,z⟩
 ·refine⟨its.toList,r,⟨o,I.kIn a o hk,hc,n,by simpa using hs⟩,?_⟩
  have e:=r.length
  simp only [Array.length_toList] at e
  omega
theorem Inv.list_inj (I:Inv X pins σ H s) (h:yI X.K H a xs) (h':yI X.K H a ys):xs=ys:=by
 obtain ⟨its,r,⟨o,n,e,_,_,d⟩,_⟩:=I.list h
 obtain ⟨its',r',⟨o',n',e',_,_,d'⟩,_⟩:=I.list h'
 rw [e] at e';cases e'
 rw [d] at d'
 injection d' with d1 _
 have:its=its':=by simpa using congrArg Array.toList d1
 subst this
 exact r.inj r'
theorem Inv.tuple_inj (I:Inv X pins σ H s) (h:yR X.K H a xs) (h':yR X.K H a ys):xs=ys:=by
 obtain ⟨its,r,⟨o,e,_,n,d⟩,_⟩:=I.tuple h
 obtain ⟨its',r',⟨o',e',_,n',d'⟩,_⟩:=I.tuple h'
 rw [e] at e';cases e'
 rw [d] at d'
 injection d' with d1 _
 have:its=its':=by simpa using congrArg Array.toList d1
 subst this
 exact r.inj r'
end
abbrev Cx.wish (X:Cx) (E:Value→Shared→Prop):Cx:={ X with xe:=E }
abbrev Cx.nox (X:Cx):Cx:=X.wish fun _ _=>False
theorem Cx.Ok.wish {X:Cx} (ok:X.Ok) (E:Value→Shared→Prop):(X.wish E).Ok :=
 ⟨ok.mod,ok.kind,ok.glob,ok.blt,ok.above,ok.inj,ok.has,ok.cab,ok.hd,ok.frames,ok.stk,ok.exf,ok.bs,ok.bsz,ok.noex,ok.exfs,ok.funs,ok.frf⟩
theorem Cx.Ok.unwish {X:Cx} {E:Value→Shared→Prop} (ok:(X.wish E).Ok):X.Ok :=
 ⟨ok.mod,ok.kind,ok.glob,ok.blt,ok.above,ok.inj,ok.has,ok.cab,ok.hd,ok.frames,ok.stk,ok.exf,ok.bs,ok.bsz,ok.noex,ok.exfs,ok.funs,ok.frf⟩
section
variable {X:Cx} {pins:List (Addr×Obj)} {σ:St} {H:Hp} {s:Shared} {E:Value→Shared→Prop}
theorem Inv.wish (I:Inv X pins σ H s) (E:Value→Shared→Prop):Inv (X.wish E) pins σ H s:=⟨I.ok.wish E,I.os,I.bare,I.base,I.loc,I.cell,I.free,I.freeC,I.pin,I.hok,I.len⟩
theorem Inv.unwish (I:Inv (X.wish E) pins σ H s):Inv X pins σ H s:=⟨I.ok.unwish,I.os,I.bare,I.base,I.loc,I.cell,I.free,I.freeC,I.pin,I.hok,I.len⟩
theorem SP.unwish {D:sH} {f:Flow} {s':Shared} (h:SP (X.wish E) pins D f s'):SP X pins D f s':=by
 cases f with
 | next=>obtain ⟨σ',H',I,q⟩:=h;exact⟨σ',H',I.unwish,q⟩
 | brk=>obtain ⟨σ',H',I,q⟩:=h;exact⟨σ',H',I.unwish,q⟩
 | cont=>obtain ⟨σ',H',I,q⟩:=h;exact⟨σ',H',I.unwish,q⟩
 | ret u=>obtain ⟨v,σ',H',I,r,q⟩:=h;exact⟨v,σ',H',I.unwish,r,q⟩
theorem PE.nox {e:Expr} {t:TE} (h:PE X.nox e t):PE X e t:=fun pins s σ H Q I hw =>
 wpAny_mono (h pins s σ H Q (I.wish _) hw) (fun _ _ ⟨v,H',I',r,q⟩=>⟨v,H',I'.unwish,r,q⟩) fun _ _ z=>False.elim z
theorem PT.nox {e:Expr} {t:TT} (h:PT X.nox e t):PT X e t:=fun pins s σ H Q I hw =>
 wpAny_mono (h pins s σ H Q (I.wish _) hw) (fun _ _ ⟨H',I',q⟩=>⟨H',I'.unwish,q⟩) fun _ _ z=>False.elim z
theorem PSs.nox {st:List Stmt} {t:TS} (h:PSs X.nox st t):PSs X st t:=fun pins s σ H D I hw =>
 wpAny_mono (h pins s σ H D (I.wish _) hw) (fun _ _ q=>q.unwish) fun _ _ z=>False.elim z
end
section
variable {X:Cx} {st:Stmt} {bW:List Stmt} {t u:TS} {e:Expr} {te:TE} {pos:Pos}
def wZ:TS:=fun D σ H=>D.nx σ H
def tSeq (t u:TS):TS:=fun D σ H=>t { D with nx:=u D } σ H
theorem qx:PSs X [] wZ:=fun _ _ σ H _ I h=>wpAny_execs_nil ⟨σ,H,I,h⟩
theorem d4 (h1:PS X st t) (h2:PSs X bW u):PSs X (st :: bW) (tSeq t u):=by
 intro pins s σ H D I h
 refine wpAny_execs_cons (yT (h1 pins s σ H { D with nx:=u D } I h) fun f s1 q=>?_)
 cases f with
 | next =>
  obtain ⟨σ',H',I',q⟩:=q
  exact h2 pins s1 σ' H' D I' q
 | ret v=>exact q
 | brk=>exact q
 | cont=>exact q
theorem eN (h1:PS X st t):PSs X [st] t:=by
 intro pins s σ H D I h
 refine wpAny_execs_cons (yT (h1 pins s σ H D I h) fun f s1 q=>?_)
 cases f with
 | next=>exact wpAny_execs_nil q
 | ret v=>exact q
 | brk=>exact q
 | cont=>exact q
theorem Inv.quiet {pins:List (Addr×Obj)} {σ:St} {H:Hp} {s:Shared} (I:Inv X pins σ H s):interactive X.env=false:=by simp [interactive,I.ok.kind]
def qK (te:TE):TS:=fun D σ H=>te σ H fun _ H1=>D.nx σ H1
theorem dh (he:PE X e te) (hs:swapsWith e none pos.line X.env=pure false:=by rfl):PS X (.Expr e pos) (qK te):=by
 intro pins s σ H D I h
 exact wpAny_Expr_any (yT (he pins s σ H _ I h) fun v s1 ⟨x,H1,I1,r1,q1⟩=>⟨σ,H1,I1,q1⟩) I.quiet hs
def tRet (te:TE):TS:=fun D σ H=>te σ H D.rt
theorem md (he:PE X e te):PS X (.Return (some e) pos) (tRet te):=by
 intro pins s σ H D I h
 exact wpAny_Return_some (yT (he pins s σ H _ I h) fun v s1 ⟨x,H1,I1,r1,q1⟩=>⟨x,σ,H1,I1,r1,q1⟩)
def xO:TS:=fun D _ H=>D.rt .non H
theorem sF:PS X (.Return none pos) xO:=fun _ _ σ H _ I h=>wpAny_Return_none ⟨.non,σ,H,I,rfl,h⟩
def tIfS (c:TT) (t u:TS):TS:=fun D σ H=>c σ H fun b H1=>if b=true then t D σ H1 else u D σ H1
theorem wY {c:Expr} {a b:List Stmt} {tc:TT} (hc:PT X c tc) (ha:PSs X a t) (hb:PSs X b u):PS X (.If c a b pos) (tIfS tc t u):=by
 intro pins s σ H D I h
 refine wpAny_If (yT (hc pins s σ H _ I h) fun d s1 ⟨H1,I1,q1⟩=>?_)
 cases d with
 | true=>exact ha pins s1 σ H1 D I1 q1
 | false=>exact hb pins s1 σ H1 D I1 q1
def pM:TS:=fun _ _ _=>False
theorem oH:PS X st pM:=fun _ _ _ _ _ _ h=>h.elim
theorem lf {sts:List Stmt}:PSs X sts pM:=fun _ _ _ _ _ _ h=>h.elim
end
abbrev TG:=V→St→Hp→(St→Hp→Prop)→Prop
abbrev TGs:=List V→St→Hp→(St→Hp→Prop)→Prop
def PG (X:Cx) (target:Expr) (t:TG):Prop :=
 ∀ (pins:List (Addr×Obj)) (s:Shared) (σ:St) (H:Hp) (v:V) (u:Value) (Q:St→Hp→Prop),Inv X pins σ H s→aN v u→t v σ H Q →
  wpAny (model X.prog X.w) X.A (assign target X.env u) (fun _ s'=>∃ σ' H',Inv X pins σ' H' s'∧Q σ' H') X.xe s
def PGs (X:Cx) (ts:List Expr) (t:TGs):Prop :=
 ∀ (pins:List (Addr×Obj)) (s:Shared) (σ:St) (H:Hp) (vs:List V) (us:List Value) (Q:St→Hp→Prop),Inv X pins σ H s→aV vs us→t vs σ H Q →
  wpAny (model X.prog X.w) X.A (assignInOrder ((assignEach ts X.env).map (·.2)) us) (fun _ s'=>∃ σ' H',Inv X pins σ' H' s'∧Q σ' H') X.xe s
abbrev TSet:=V→V→V→Hp→(Hp→Prop)→Prop
def PSet (X:Cx) (t:TSet):Prop :=
 ∀ (pins:List (Addr×Obj)) (s:Shared) (σ:St) (H:Hp) (o i v:V) (ov iv u:Value) (Q:Hp→Prop),Inv X pins σ H s→aN o ov→aN i iv→aN v u→t o i v H Q →
  wpAny (model X.prog X.w) X.A (setItem ov iv u) (fun _ s'=>∃ H',Inv X pins σ H' s'∧Q H') X.xe s
section
variable {X:Cx} {pos:Pos}
def vv (i:Nat):TG:=fun v σ H Q=>Q (σ.set i (some v)) H
theorem sK {i:Nat} {x:Str} (hN:X.N.Nodup) (hi:X.N[i]?=some x) (hx:Loc X.env.scope x) (hf:X.fn x=true∨X.env.scope.names.lookup x=some .local :=by walk_at "v1"):PG X (.Name x pos) (vv i):=by
 intro pins s σ H v u Q I r h
 exact wpAny_assign_Name (cu I hN hi hx r (fun s' I'=>⟨_,H,I',h⟩) hf)
def gNil:TGs:=fun vs σ H Q=>vs=[]∧Q σ H
def xm (t:TG) (u:TGs):TGs:=fun vs σ H Q=>∃ v r,vs=v :: r∧t v σ H fun σ' H'=>u r σ' H' Q
theorem t6:PGs X [] gNil:=by
 intro pins s σ H vs us Q I r h
 obtain ⟨e,h⟩:=h
 subst e
 cases r
 exact assignInOrder_nil ⟨σ,H,I,h⟩
theorem o0 {e:Expr} {es:List Expr} {t:TG} {u:TGs} (h1:PG X e t) (h2:PGs X es u)
  (hs:(assignEach (e :: es) X.env).map (·.2)=assign e X.env :: (assignEach es X.env).map (·.2):=by rfl):PGs X (e :: es) (xm t u):=by
 intro pins s σ H vs us Q I r h
 obtain ⟨v,vr,e1,h⟩:=h
 subst e1
 cases r with
 | cons r rr =>
  rw [hs]
  refine assignInOrder_cons (yT (h1 pins s σ H _ _ _ I r h) fun _ s1 ⟨σ1,H1,I1,q1⟩=>?_)
  exact h2 pins s1 σ1 H1 _ _ Q I1 rr q1
def gTup (K:PySem.W.Frag) (n:Nat) (t:TGs):TG:=fun v σ H Q=>∃ a xs,v=.ref a∧yR K H a xs∧xs.length=n∧t xs σ H Q
theorem wm {es:List Expr} {k:Nat} {t:TGs} {n:Nat} (hc:X.calm=true) (h:PGs X es t)
  (hn:(assignEach es X.env).length=n:=by rfl) (hst:(assignEach es X.env).findIdx? (·.1)=none:=by rfl):PG X (.Tuple es k pos) (gTup X.K n t):=by
 intro pins s σ H v u Q I r hw
 obtain ⟨a,xs,e1,hq,hl,hw⟩:=hw
 subst e1
 cases r
 obtain ⟨its,rv,ht,hz⟩:=I.tuple hq
 refine assign_Tuple_tuple (I.ok.hd hc) ht (by simp [hn,← hl,rv.length]) hst fun h' hx=>?_
 have I1:Inv X pins σ H { s with heap:=h' }:=I.kept (t':=s.toks) fun b o e=>hx b o (Nat.ne_of_lt (Heap.lt_size e)) e
 exact h pins _ σ H xs _ Q I1 (by simpa using rv) hw
def gSub (to ti:TE) (t:TSet):TG:=fun v σ H Q=>to σ H fun o H1=>ti σ H1 fun i H2=>t o i v H2 fun H3=>Q σ H3
theorem wM {o i:Expr} {to ti:TE} {t:TSet} (ho:PE X o to) (hi:PE X i ti) (hs:PSet X t)
    (ha:∀ v,assign (.Subscript o i pos) X.env v=(do
      let ov←holding [v] (eval o X.env)
      let iv←holding [v,ov] (eval i X.env)
      standAt pos
      holding [v,ov,iv] (setItem ov iv v)
      release [v,ov,iv] []):=by intro _;rfl):PG X (.Subscript o i pos) (gSub to ti t):=by
  intro pins s σ H v u Q I r h
  rw [ha]
  refine wpAny_bind (wpAny_holding (yT (ho pins s σ H _ I h) fun ov s1 ⟨x,H1,I1,r1,q1⟩=>?_))
  refine wpAny_bind (wpAny_holding (yT (hi pins s1 σ H1 _ I1 q1) fun iv s2 ⟨y,H2,I2,r2,q2⟩=>?_))
  refine wpAny_bind (wpAny_standAt (wpAny_bind (wpAny_holding (yT (hs pins s2 σ H2 x y v ov iv u _ I2 r1 r2 r q2) fun _ s3 ⟨H3,I3,q3⟩=>?_))))
  exact wpAny_release ⟨σ,H3,I3,q3⟩
def tAsg (te:TE) (g:TG):TS:=fun D σ H=>te σ H fun x H1=>g x σ H1 D.nx
theorem wf {tg e:Expr} {te:TE} {g:TG} (he:PE X e te) (hg:PG X tg g) (hs:swapsWithSole [tg] e pos.line X.env=pure false:=by rfl) (hw:swappedStores [tg] e X.env=pure none:=by rfl)
  (h1:(assignEach [tg] X.env).map (·.2)=[assign tg X.env]:=by rfl):PS X (.Assign [tg] e pos) (tAsg te g):=by
 intro pins s σ H D I h
 refine wpAny_Assign_stores (yT (he pins s σ H _ I h) fun v s1 ⟨x,H1,I1,r1,q1⟩=>?_) hs hw
 rw [h1]
 exact yT (hg pins s1 σ H1 x v _ I1 r1 q1) fun _ s2 q=>q
theorem dI {i:Nat} {x:Str} {e:Expr} {te:TE} {pos':Pos} (hN:X.N.Nodup) (hi:X.N[i]?=some x) (hx:Loc X.env.scope x) (he:PE X e te) (hs:swapsWith e (some (.Name x pos')) pos.line X.env=pure false:=by rfl) (hf:X.fn x=true∨X.env.scope.names.lookup x=some .local :=by walk_at "v1") :
  PS X (.Assign [.Name x pos'] e pos) (tAsg te (vv i)):=by
 intro pins s σ H D I h
 refine wpAny_Assign_Name (yT (he pins s σ H _ I h) fun v s1 ⟨y,H1,I1,r1,q1⟩=>?_) hs
 exact cu I1 hN hi hx r1 (fun s2 I2=>⟨_,H1,I2,q1⟩) hf
def tPar (i j:Nat) (ta:TA):TS:=fun D σ H=>ta σ H fun vs H1=>∃ v w,vs=[v,w]∧D.nx ((σ.set i (some v)).set j (some w)) H1
theorem wl {i j:Nat} {x y:Str} {a b:Expr} {ta:TA} {px py pt:Pos} {kt k2 pt2} (hc:X.calm=true) (hN:X.N.Nodup) (hi:X.N[i]?=some x) (hj:X.N[j]?=some y) (hij:i≠j)
  (hx:X.env.scope.names.lookup x=some .local) (hy:X.env.scope.names.lookup y=some .local) (ha:PA X [a,b] ta)
  (hw:swappedStores [.Tuple [.Name x px,.Name y py] kt pt] (.Tuple [a,b] k2 pt2) X.env=pure (some [x,y]))
  (hs:swapsWithSole [.Tuple [.Name x px,.Name y py] kt pt] (.Tuple [a,b] k2 pt2) pos.line X.env=pure false:=by rfl) :
  PS X (.Assign [.Tuple [.Name x px,.Name y py] kt pt] (.Tuple [a,b] k2 pt2) pos) (tPar i j ta):=by
 intro pins s σ H D I h
 rw [exec_Assign_arm]
 refine wpAny_bind (wpAny_standAt ?_)
 rw [hs]
 refine wpAny_bind (wpAny_pure ?_)
 rw [if_neg (by decide)]
 refine wpAny_bind (Tuple_ (yT (ha _ pins s σ H _ I h) fun us s1 ⟨vs,H1,I1,r1,q1⟩=>?_))
 obtain ⟨v,w,e1,q1⟩:=q1
 subst e1
 obtain ⟨u1,u2,rfl,rv,rw'⟩:∃ u1 u2,us=[u1,u2]∧aN v u1∧aN w u2:=by
  cases r1 with
  | cons p q =>
   cases q with
   | cons p' q' =>
    cases q'
    exact⟨_,_,rfl,p,p'⟩
 refine wpAny_newObj_type ?_ (by show 2≤sizeLine;decide)
 have I2:Inv X pins σ H1 { s1 with heap:=s1.heap.push { cls:=.type "tuple",data:=.seq [u1,u2].toArray } }:=I1.kept (t':=s1.toks) fun b o e=>Heap.get?_push_of_some _ e
 rw [hw]
 refine wpAny_bind (wpAny_pure ?_)
 show wpAny (model X.prog X.w) X.A (do rule "assign.swapped-stores";let items←unpackItems (.ref s1.heap.objs.size) 2 none;assignInOrder [fun v=>bindName X.env y v,fun v=>bindName X.env x v] items.reverse;pure Flow.next) _ _ _
 refine wpAny_bind (wpAny_rule (wpAny_bind (unpackItems_tuple (items:=#[u1,u2]) (I.ok.hd hc) (IsTup.new s1.heap _) fun h' hx'=>?_)))
 have I3:=I2.kept (h':=h') (t':=s1.toks) fun b o e=>hx' b o (Nat.ne_of_lt (Heap.lt_size e)) e
 show wpAny _ _ (assignInOrder [fun v=>bindName X.env y v,fun v=>bindName X.env x v] [u2,u1] >>= fun _=>pure Flow.next) _ _ _
 refine wpAny_bind (assignInOrder_cons (wpAny_bindName (cu I3 hN hj (.inl hy) rw' (fun s2 I4=>?_) (.inr hy))))
 refine assignInOrder_cons (wpAny_bindName (cu I4 hN hi (.inl hx) rv (fun s3 I5=>assignInOrder_nil (wpAny_pure ?_)) (.inr hx)))
 rw [List.set_comm _ _ (Ne.symm hij)] at I5
 exact⟨_,H1,I5,q1⟩
end
section
variable {X:Cx} {pos:Pos}
def wj (c:TT) (tb:TS):TS:=fun D σ H=>∃ W:Nat→St→Hp→Prop,(∃ m,W m σ H)∧∀ m σ H,W m σ H →
 c σ H fun b H1=>if b=true then ∃ N:St→Hp→Prop,(∀ σ' H',N σ' H'→∃ m',m' < m∧W m' σ' H')∧tb { D with nx:=N,ct:=N,bk:=D.nx } σ H1 else D.nx σ H1
theorem nw {c:Expr} {body:List Stmt} {tc:TT} {tb:TS} (hp:PassesOwn (model X.prog X.w) X.A X.env X.xe) (hc:PT X c tc) (hb:PSs X body tb):PS X (.While c body [] pos) (wj tc tb):=by
 intro pins s σ H D I h
 obtain ⟨W,⟨m0,w0⟩,turn⟩:=h
 refine wpAny_While (codeAny_whileLoop (fun n s'=>∃ σ' H',Inv X pins σ' H' s'∧W n σ' H') ?_ m0 ⟨σ,H,I,w0⟩)
 rintro n s1 ⟨σ1,H1,I1,w1⟩
 refine wpAny_passesOwn hp (yT (hc pins s1 σ1 H1 _ I1 (turn n σ1 H1 w1)) fun b s2 ⟨H2,I2,q2⟩=>?_)
 cases b with
 | true =>
  obtain ⟨N,hN,q2⟩:=q2
  rw [if_pos rfl]
  refine wpAny_passesOwn hp (yT (hb pins s2 σ1 H2 _ I2 q2) fun f s3 q3=>?_)
  cases f with
  | next =>
   obtain ⟨σ3,H3,I3,n3⟩:=q3
   obtain ⟨m',hm,w3⟩:=hN σ3 H3 n3
   exact⟨m',hm,σ3,H3,I3,w3⟩
  | cont =>
   obtain ⟨σ3,H3,I3,n3⟩:=q3
   obtain ⟨m',hm,w3⟩:=hN σ3 H3 n3
   exact⟨m',hm,σ3,H3,I3,w3⟩
  | brk=>exact q3
  | ret v=>exact q3
 | false =>
  rw [if_neg Bool.false_ne_true]
  exact wpAny_execs_nil ⟨σ1,H2,I2,q2⟩
end
structure It where
 go:Nat→Hp→Prop
 yld:Nat→Hp→V→Hp→Prop
 stop:Nat→Hp→Prop
def o7 (X:Cx) (pins:List (Addr×Obj)) (H:Hp) (b:Addr):Prop :=
 H b=none∧b≠X.env.locals∧b∉X.fs∧(b∈X.ex∨X.s₀.heap.objs.size≤b)∧(∀ x c,X.env.cells.lookup x=some c→c≠b)∧∀ p∈X.pn++pins,p.1≠b
theorem Inv.fpOk {X:Cx} {pins:List (Addr×Obj)} {σ:St} {H H':Hp} {s:Shared} {b:Addr} (I:Inv X pins σ H s) (hb:s.heap.objs.size≤b) (hn:H' b=none):o7 X pins H' b:=by
 refine⟨hn,Nat.ne_of_gt (Nat.lt_of_lt_of_le I.lt hb),I.nofs hb,.inr (Nat.le_trans I.sz hb),fun x c e z=>?_,fun p hp z=>?_⟩
 ·obtain ⟨v,q⟩:=I.cell x c e
  exact absurd (Nat.lt_of_lt_of_le q.lt (by rw [z];exact hb)) (Nat.lt_irrefl _)
 ·exact absurd (Nat.lt_of_lt_of_le (Heap.lt_size (I.pin p hp).1) (by rw [z];exact hb)) (Nat.lt_irrefl _)
structure Turn (P:Program) (w:World) (K:PySem.W.Frag) (tg:Expr) (J:It) (fp:List Addr) (it:Addr) (tn:Nat→Heap→Prop):Prop where
 mem:it∈fp
 obj:∀ i h,tn i h→∀ b∈fp,∃ o,h.get? b=some o∧∀ v,o.data≠.cell v
 keep:∀ i h h',tn i h→(∀ b∈fp,∀ o,h.get? b=some o→h'.get? b=some o)→tn i h'
 item:∀ (X:Cx),X.prog=P→X.w=w→X.K=K→X.calm=true→∀ (i:Nat) (pins:List (Addr×Obj)) (s:Shared) (σ:St) (H:Hp) (E:Value→Shared→Prop),Inv X pins σ H s→(∀ b∈fp,o7 X pins H b)→tn i s.heap→J.go i H →
  wpAny (model P w) X.A (pyNext (.ref it)) (fun r s1=>∃ u,r=some u ∧
   wpAny (model P w) X.A (letOwnedTupleGo tg (.ref it) u) (fun _ s2=>∃ x H',Inv X pins σ H' s2∧aN x u∧J.yld i H x H'∧tn (i + 1) s2.heap∧∀ b∈fp,H' b=none) E s1) E s
 done:∀ (X:Cx),X.prog=P→X.w=w→X.K=K→X.calm=true→∀ (i:Nat) (pins:List (Addr×Obj)) (s:Shared) (σ:St) (H:Hp) (E:Value→Shared→Prop),Inv X pins σ H s→(∀ b∈fp,o7 X pins H b)→tn i s.heap→J.stop i H →
  wpAny (model P w) X.A (pyNext (.ref it)) (fun r s1=>r=none∧Inv X pins σ H s1) E s
 self:∀ (A:Around) (i:Nat) (s:Shared) (Q:Value→Shared→Prop) (E:Value→Shared→Prop),tn i s.heap→Q (.ref it) s→wpAny (model P w) A (pyIter (.ref it)) Q E s
abbrev TI:=St→Hp→(It→Hp→Prop)→Prop
def PIE (X:Cx) (pins:List (Addr×Obj)) (σ:St) (tg:Expr) (R:It→Hp→Prop) (itv:Value) (s2:Shared):Prop :=
 ∃ (it:Addr) (fp:List Addr) (tn:Nat→Heap→Prop) (J:It) (H':Hp),itv=.ref it∧Inv X pins σ H' s2∧Turn X.prog X.w X.K tg J fp it tn∧tn 0 s2.heap∧(∀ b∈fp,o7 X pins H' b)∧R J H'
def PI (X:Cx) (tg iter:Expr) (wi:TI):Prop :=
 ∀ (pins:List (Addr×Obj)) (s:Shared) (σ:St) (H:Hp) (R:It→Hp→Prop),Inv X pins σ H s→wi σ H R →
  wpAny (model X.prog X.w) X.A (eval iter X.env) (fun v s1=>wpAny (model X.prog X.w) X.A (pyIter v) (PIE X pins σ tg R) X.xe s1) X.xe s
theorem nE {M:Model} {A:Around} {E:Value→Shared→Prop} {s:Shared} {tg:Expr} {it:Addr} {u:Value} {o:Obj} {n:String} {vs:Array Value} {Q:Unit→Shared→Prop} (ho:s.heap.get? it=some o) (hc:o.cls=.type n) (hd:o.data=.fields vs)
    (hn:["enumerate","zip","dict_itemiterator","dict_reverseitemiterator","odict_iterator","itertools.zip_longest","itertools.pairwise"].contains n=false) (hQ:Q () s):wpAny M A (letOwnedTupleGo tg (.ref it) u) Q E s:=by
  unfold letOwnedTupleGo
  cases tg<;>first
    | exact wpAny_pure hQ
    | (cases u<;>first
        | exact wpAny_pure hQ
        | (refine wpAny_bind (wpAny_load ho ?_)
           rw [hc,hd]
           show wpAny M A (if (["enumerate","zip","dict_itemiterator","dict_reverseitemiterator","odict_iterator","itertools.zip_longest","itertools.pairwise"].contains n && vs[0]? == some (rawInt _))=true then _ else _) Q E s
           rw [if_neg (by intro h;rw [hn,Bool.false_and] at h;cases h)]
           exact wpAny_pure hQ))
def Itl (K:PySem.W.Frag) (a:Addr):It :=
 ⟨fun i H=>∃ xs x,yI K H a xs∧xs[i]?=some x,fun i H x H'=>H'=H∧∀ xs,yI K H a xs→xs[i]?=some x,fun i H=>∃ xs,yI K H a xs∧xs.length≤i⟩
def Itt (K:PySem.W.Frag) (a:Addr):It :=
 ⟨fun i H=>∃ xs x,yR K H a xs∧xs[i]?=some x,fun i H x H'=>H'=H∧∀ xs,yR K H a xs→xs[i]?=some x,fun i H=>∃ xs,yR K H a xs∧xs.length≤i⟩
def Itr (lo:Int) (n:Nat):It:=⟨fun i _=>i < n,fun i H x H'=>H'=H∧x=.int (lo + i),fun i _=>n≤i⟩
theorem gQ {P:Program} {w:World} {K:PySem.W.Frag} {tg:Expr} (a it:Addr):Turn P w K tg (Itl K a) [it] it (fun i h=>h.IsListIter it a i) where
 mem:=by simp
 obj:=fun i h st b hb=>by
  have e:b=it:=by simpa using hb
  subst e
  obtain ⟨o,e,c,d⟩:=st
  exact⟨o,e,fun v z=>by rw [d] at z;cases z⟩
 keep:=fun i h h' st k=>st.at fun o e=>k it (by simp) o e
 item:=by
  intro X hP hw hK hc i pins s σ H E I hf st hg
  subst hP hw hK
  obtain ⟨xs,x,hq,hx⟩:=hg
  obtain ⟨its,rv,p,hz⟩:=I.list hq
  obtain ⟨u,hu,ru⟩:=rv.get hx
  obtain ⟨f0,f1,f2,f3,f4,f5⟩:=hf it (by simp)
  refine wpAny_pyNext_list_item st p.isList (x:=u) (by simpa using hu) fun h' st' sb=>?_
  have I1:Inv X pins σ H { s with heap:=h' }:=I.turned (t':=s.toks) (fun b o hb e=>(sb.2 b hb).trans e) f0 f1 f3 f4 f5
  obtain ⟨o,e,c,d⟩:=id st'
  exact⟨u,rfl,nE (s:={ s with heap:=h' }) e c d (by decide) ⟨x,H,I1,ru,⟨rfl,fun ys hy=>by rw [I.list_inj hy hq];exact hx⟩,st',fun b hb=>(hf b hb).1⟩⟩
 done:=by
  intro X hP hw hK hc i pins s σ H E I hf st hg
  subst hP hw hK
  obtain ⟨xs,hq,hx⟩:=hg
  obtain ⟨its,rv,p,hz⟩:=I.list hq
  obtain ⟨f0,f1,f2,f3,f4,f5⟩:=hf it (by simp)
  have hl:=rv.length
  exact wpAny_pyNext_list_end (I.ok.hd hc) st p.isList (by simp;omega) fun h' eb=>⟨rfl,I.turned (t':=s.toks) (fun b o hb e=>eb b o hb e) f0 f1 f3 f4 f5⟩
 self:=fun _ _ _ _ _ st h=>wpAny_pyIter_listiter st h
theorem fQ {P:Program} {w:World} {K:PySem.W.Frag} {tg:Expr} (a it:Addr):Turn P w K tg (Itt K a) [it] it (fun i h=>h.IsTupleIter it a i) where
 mem:=by simp
 obj:=fun i h st b hb=>by
  have e:b=it:=by simpa using hb
  subst e
  obtain ⟨o,e,c,d⟩:=st
  exact⟨o,e,fun v z=>by rw [d] at z;cases z⟩
 keep:=fun i h h' st k=>st.at fun o e=>k it (by simp) o e
 item:=by
  intro X hP hw hK hc i pins s σ H E I hf st hg
  subst hP hw hK
  obtain ⟨xs,x,hq,hx⟩:=hg
  obtain ⟨its,rv,p,hz⟩:=I.tuple hq
  obtain ⟨u,hu,ru⟩:=rv.get hx
  obtain ⟨f0,f1,f2,f3,f4,f5⟩:=hf it (by simp)
  refine wpAny_pyNext_tuple_item st (show s.heap.IsTuple a its.toArray from p) (x:=u) (by simpa using hu) fun h' st' sb=>?_
  have I1:Inv X pins σ H { s with heap:=h' }:=I.turned (t':=s.toks) (fun b o hb e=>(sb.2 b hb).trans e) f0 f1 f3 f4 f5
  obtain ⟨o,e,c,d⟩:=id st'
  exact⟨u,rfl,nE (s:={ s with heap:=h' }) e c d (by decide) ⟨x,H,I1,ru,⟨rfl,fun ys hy=>by rw [I.tuple_inj hy hq];exact hx⟩,st',fun b hb=>(hf b hb).1⟩⟩
 done:=by
  intro X hP hw hK hc i pins s σ H E I hf st hg
  subst hP hw hK
  obtain ⟨xs,hq,hx⟩:=hg
  obtain ⟨its,rv,p,hz⟩:=I.tuple hq
  obtain ⟨f0,f1,f2,f3,f4,f5⟩:=hf it (by simp)
  have hl:=rv.length
  exact wpAny_pyNext_tuple_end (I.ok.hd hc) st (show s.heap.IsTuple a its.toArray from p) (by simp;omega) fun h' eb=>⟨rfl,I.turned (t':=s.toks) (fun b o hb e=>eb b o hb e) f0 f1 f3 f4 f5⟩
 self:=fun _ _ _ _ _ st h=>wpAny_pyIter_tupleiter st h
theorem kn {P:Program} {w:World} {K:PySem.W.Frag} {tg:Expr} (it:Addr) (lo:Int) (n:Nat):Turn P w K tg (Itr lo n) [it] it (fun i h=>IsRangeIter h it (lo + (i:Nat) * 1) ((n:Int) - (i:Nat)) 1) where
 mem:=by simp
 obj:=fun i h st b hb=>by
  have e:b=it:=by simpa using hb
  subst e
  exact⟨_,st,fun v z=>by
   have z':Data.fields _=Data.cell v:=z
   cases z'⟩
 keep:=fun i h h' st k=>k it (by simp) _ st
 item:=by
  intro X hP hw hK hc i pins s σ H E I hf st hg
  subst hP hw hK
  obtain ⟨f0,f1,f2,f3,f4,f5⟩:=hf it (by simp)
  have W:=Walks.range (prog:=X.prog) (w:=X.w) (I.ok.hd hc) it lo 1 n
  refine W.item i s _ _ hg st fun v h' tk hv st' kk=>?_
  obtain ⟨t,rfl⟩:=hv
  have I1:Inv X pins σ H { s with heap:=h',toks:=tk }:=I.turned (fun b o hb e=>kk b o (by simpa using hb) e) f0 f1 f3 f4 f5
  refine⟨_,rfl,nE (s:={ s with heap:=h',toks:=tk }) (n:="range_iterator") st' rfl rfl (by decide) ⟨.int (lo + i),H,I1,⟨t,?_⟩,⟨rfl,rfl⟩,st',fun b hb=>(hf b hb).1⟩⟩
  rw [Int.mul_one]
 done:=by
  intro X hP hw hK hc i pins s σ H E I hf st hg
  subst hP hw hK
  obtain ⟨f0,f1,f2,f3,f4,f5⟩:=hf it (by simp)
  exact wpAny_pyNext_range_end (I.ok.hd hc) st (by have:n≤i:=hg;omega) fun h' eb=>⟨rfl,I.turned (t':=s.toks) (fun b o hb e=>eb b o hb e) f0 f1 f3 f4 f5⟩
 self:=fun _ _ _ _ _ st h=>wpAny_pyIter_rangeiter st h
end L2
namespace L2
open PySem PySem.Spec PyProof.Rows
section
variable {X:Cx} {tg:Expr}
def yu (K:PySem.W.Frag) (tl:TE):TI:=fun σ H R=>tl σ H fun x H1=>∃ a,x=.ref a∧(∃ xs,yI K H1 a xs)∧R (Itl K a) H1
def iTup (K:PySem.W.Frag) (tl:TE):TI:=fun σ H R=>tl σ H fun x H1=>∃ a,x=.ref a∧(∃ xs,yR K H1 a xs)∧R (Itt K a) H1
theorem kQ {l:Expr} {tl:TE} (hl:PE X l tl):PI X tg l (yu X.K tl):=by
 intro pins s σ H R I h
 refine yT (hl pins s σ H _ I h) fun v s1 ⟨x,H1,I1,r1,q1⟩=>?_
 obtain ⟨a,e,⟨xs,hq⟩,q⟩:=q1
 subst e
 cases r1
 obtain ⟨its,rv,p,hz⟩:=I1.list hq
 refine wpAny_pyIter_list p.isList ?_
 refine⟨s1.heap.objs.size,[s1.heap.objs.size],_,_,H1,rfl,I1.kept (t':=s1.toks) fun b o e=>Heap.get?_push_of_some _ e,gQ a _,⟨_,Heap.get?_push_size _ rfl,rfl,rfl⟩,fun b hb=>?_,q⟩
 have e:b=s1.heap.objs.size:=by simpa using hb
 subst e
 exact I1.fpOk (Nat.le_refl _) (I1.hok.fresh (Nat.le_refl _))
theorem qi {l:Expr} {tl:TE} (hl:PE X l tl):PI X tg l (iTup X.K tl):=by
 intro pins s σ H R I h
 refine yT (hl pins s σ H _ I h) fun v s1 ⟨x,H1,I1,r1,q1⟩=>?_
 obtain ⟨a,e,⟨xs,hq⟩,q⟩:=q1
 subst e
 cases r1
 obtain ⟨its,rv,p,hz⟩:=I1.tuple hq
 refine wpAny_pyIter_tuple (show s1.heap.IsTuple a its.toArray from p) ?_
 refine⟨s1.heap.objs.size,[s1.heap.objs.size],_,_,H1,rfl,I1.kept (t':=s1.toks) fun b o e=>Heap.get?_push_of_some _ e,fQ a _,⟨_,Heap.get?_push_size _ rfl,rfl,rfl⟩,fun b hb=>?_,q⟩
 have e:b=s1.heap.objs.size:=by simpa using hb
 subst e
 exact I1.fpOk (Nat.le_refl _) (I1.hok.fresh (Nat.le_refl _))
theorem nP {pins:List (Addr×Obj)} {σ:St} {H:Hp} {s:Shared} {R:It→Hp→Prop} {E:Value→Shared→Prop} {lo hi:Int} {t u v:Tok} {tk:Nat} (I:Inv X pins σ H s) (h1:-(2 ^ 62)≤lo) (h2:lo < 2 ^ 62) (h3:-(2 ^ 62)≤hi) (h4:hi < 2 ^ 62)
  (q:R (Itr lo (hi - lo).toNat) H):wpAny (model X.prog X.w) X.A (pyIter (.ref s.heap.objs.size)) (PIE X pins σ tg R) E { s with heap:=s.heap.push { cls:=.type "range",data:=.fields #[.int lo t,.int hi u,.int 1 v] },toks:=tk }:=by
 refine wpAny_pyIter_range (IsRange.new ..) (small_one h1 h2 h3 h4) ?_
 have I1:Inv X pins σ H { s with heap:=s.heap.push { cls:=.type "range",data:=.fields #[.int lo t,.int hi u,.int 1 v] },toks:=tk }:=I.kept fun b o e=>Heap.get?_push_of_some _ e
 refine⟨(s.heap.push { cls:=.type "range",data:=.fields #[.int lo t,.int hi u,.int 1 v] }).objs.size,[(s.heap.push { cls:=.type "range",data:=.fields #[.int lo t,.int hi u,.int 1 v] }).objs.size],_,_,H,rfl,
  I1.kept (t':=tk) fun b o e=>Heap.get?_push_of_some _ e,kn _ lo (hi - lo).toNat,?_,fun b hb=>?_,q⟩
 ·have e1:lo + ((0:Nat):Int) * 1=lo:=by simp
  have e2:(((hi - lo).toNat:Nat):Int) - ((0:Nat):Int)=Builtin.Range.rangeSize lo hi 1:=by rw [rangeSize_one];split<;>omega
  show IsRangeIter _ _ (lo + ((0:Nat):Int) * 1) ((((hi - lo).toNat:Nat):Int) - ((0:Nat):Int)) 1
  rw [e1,e2]
  exact Heap.get?_push_size _ rfl
 ·have e:b=(s.heap.push { cls:=.type "range",data:=.fields #[.int lo t,.int hi u,.int 1 v] }).objs.size:=by simpa using hb
  subst e
  exact I1.fpOk (Nat.le_refl _) (I1.hok.fresh (Nat.le_refl _))
def xT (ta:TA):TI:=fun σ H R=>ta σ H fun vs H1=>∃ j:Int,vs=[.int j]∧-(2 ^ 62)≤j∧j < 2 ^ 62∧R (Itr 0 j.toNat) H1
theorem gX {a:Expr} {ta:TA} {p pos:Pos} (hg:Gl X "range") (hm:X.mg "range"=none) (ha:PA X [a] ta) (hs:starEach [a] X.env=[(false,eval a X.env)]:=by rfl):PI X tg (.Call (.Name "range" p) [a] [] pos) (xT ta):=by
 intro pins s σ H R I h
 refine Call_ (jW I hg hm boot_range (PyProof.Rows.callWith_type1 (yT (ha pos pins s σ H _ I h) fun us s1 ⟨vs,H1,I1,r1,q1⟩=>?_) hs rfl))
 obtain ⟨j,e,q1,q2,q⟩:=q1
 subst e
 cases r1 with
 | cons r rr =>
  cases rr
  obtain ⟨t,rfl⟩:=r
  exact call_range_1 (nP I1 (by omega) (by omega) q1 q2 (by simpa using q))
def tFor (wi:TI) (g:TG) (tb:TS):TS:=fun D σ H=>wi σ H fun J H1=>∃ W:Nat→Nat→St→Hp→Prop,(∃ m,W 0 m σ H1)∧∀ i m σ H,W i m σ H →
 (J.stop i H∧D.nx σ H)∨(J.go i H∧∃ N:St→Hp→Prop,(∀ σ' H',N σ' H'→∃ m',m' < m∧W (i + 1) m' σ' H')∧∀ x H',J.yld i H x H'→g x σ H' fun σ2 H2=>tb { D with nx:=N,ct:=N,bk:=D.nx } σ2 H2)
def gL (fp:List Addr) (h:Heap):List (Addr×Obj):=fp.filterMap fun b=>(h.get? b).map fun o=>(b,o)
theorem cq {fp:List Addr} {h:Heap} {b:Addr} {o:Obj} (hb:b∈fp) (e:h.get? b=some o):(b,o)∈gL fp h:=List.mem_filterMap.mpr ⟨b,hb,by rw [e];rfl⟩
theorem l9 {fp:List Addr} {h:Heap} {p:Addr×Obj} (hp:p∈gL fp h):p.1∈fp∧h.get? p.1=some p.2:=by
 obtain ⟨b,hb,e⟩:=List.mem_filterMap.mp hp
 cases q:h.get? b with
 | none=>rw [q] at e;cases e
 | some o =>
  rw [q] at e
  have e':(b,o)=p:=Option.some.inj e
  subst e'
  exact⟨hb,q⟩
theorem Inv.pinned {pins:List (Addr×Obj)} {σ:St} {H:Hp} {s:Shared} {fp:List Addr} (I:Inv X pins σ H s) (hf:∀ b∈fp,o7 X pins H b) (ho:∀ b∈fp,∃ o,s.heap.get? b=some o∧∀ v,o.data≠.cell v):Inv X (pins++gL fp s.heap) σ H s :=
 I.pins_of fun p hp=>(List.mem_append.mp hp).elim (fun z=>I.pin p (List.mem_append_right _ z)) fun z=>by
  obtain ⟨hb,e⟩:=l9 z
  obtain ⟨f0,f1,f2,_⟩:=hf p.1 hb
  obtain ⟨o,e',d⟩:=ho p.1 hb
  rw [e] at e';cases e'
  exact⟨e,f0,f1,f2,d⟩
theorem Inv.unpinned {pins pl:List (Addr×Obj)} {σ:St} {H:Hp} {s:Shared} (I:Inv X (pins++pl) σ H s):Inv X pins σ H s:=I.pins_of fun p hp=>I.pin p (List.mem_append_right _ (List.mem_append_left _ hp))
theorem jp {iter:Expr} {body:List Stmt} {wi:TI} {g:TG} {tb:TS} {pos:Pos} (hp:PassesOwn (model X.prog X.w) X.A X.env X.xe) (hc:X.calm=true) (hi:PI X tg iter wi) (hg:PG X tg g) (hb:PSs X body tb)
  (hs:∀ x,foldedSetIterable iter X.env x=pure x:=by intro _;rfl):PS X (.For tg iter body [] pos) (tFor wi g tb):=by
 intro pins s σ H D I h
 refine wpAny_For (yT (hi pins s σ H _ I h) fun v s1 h1=>yT h1 fun itv s2 h2=>?_) hs
 obtain ⟨it,fp,tn,J,H2,e,I2,T,st2,f2,W,⟨m0,w0⟩,turn⟩:=h2
 subst e
 have stat:∀ {H':Hp},(∀ b∈fp,H' b=none)→∀ b∈fp,o7 X pins H' b:=fun hn b hb=>⟨hn b hb,(f2 b hb).2⟩
 refine codeAny_forLoop_any (fun n s'=>∃ i σ' H',Inv X pins σ' H' s'∧tn i s'.heap∧(∀ b∈fp,H' b=none)∧W i n σ' H') ?_ m0 ⟨0,σ,H2,I2,st2,fun b hb=>(f2 b hb).1,w0⟩
 rintro n s3 ⟨i,σ3,H3,I3,st3,fr3,w3⟩
 rcases turn i n σ3 H3 w3 with ⟨stop,qn⟩ | ⟨go,N,hN,step⟩
 ·refine wpAny_passesOwn hp (yT (T.done X rfl rfl rfl hc i pins s3 σ3 H3 X.xe I3 (stat fr3) st3 stop) fun r s4 ⟨hr,I4⟩=>?_)
  subst hr
  exact wpAny_execs_nil ⟨σ3,H3,I4,qn⟩
 ·refine wpAny_passesOwn hp (yT (T.item X rfl rfl rfl hc i pins s3 σ3 H3 X.xe I3 (stat fr3) st3 go) fun r s4 ⟨u,hr,h4⟩=>?_)
  subst hr
  refine wpAny_passesOwn hp (yT h4 fun _ s5 ⟨x,H5,I5,r5,y5,st5,fr5⟩=>?_)
  have I5':=I5.pinned (stat fr5) (T.obj _ _ st5)
  refine wpAny_passesOwn hp (yT (hg _ s5 σ3 H5 x u _ I5' r5 (step x H5 y5)) fun _ s6 ⟨σ6,H6,I6,q6⟩=>?_)
  refine wpAny_passesOwn hp (yT (hb _ s6 σ6 H6 _ I6 q6) fun f s7 q7=>?_)
  have again:∀ {σ7:St} {H7:Hp},Inv X (pins++gL fp s5.heap) σ7 H7 s7→N σ7 H7→∃ m,m < n∧∃ i σ' H',Inv X pins σ' H' s7∧tn i s7.heap∧(∀ b∈fp,H' b=none)∧W i m σ' H':=fun {σ7 H7} I7 n7=>by
   obtain ⟨m',hm,w7⟩:=hN σ7 H7 n7
   refine⟨m',hm,i + 1,σ7,H7,I7.unpinned,T.keep _ _ _ st5 fun b hb o e=>(I7.pin (b,o) (List.mem_append_right _ (List.mem_append_right _ (cq hb e)))).1,fun b hb=>?_,w7⟩
   obtain ⟨o,e,d⟩:=T.obj _ _ st5 b hb
   exact (I7.pin (b,o) (List.mem_append_right _ (List.mem_append_right _ (cq hb e)))).2.1
  cases f with
  | next=>obtain ⟨σ7,H7,I7,n7⟩:=q7;exact again I7 n7
  | cont=>obtain ⟨σ7,H7,I7,n7⟩:=q7;exact again I7 n7
  | brk=>obtain ⟨σ7,H7,I7,q7⟩:=q7;exact⟨σ7,H7,I7.unpinned,q7⟩
  | ret v=>obtain ⟨x7,σ7,H7,I7,r7,q7⟩:=q7;exact⟨x7,σ7,H7,I7.unpinned,r7,q7⟩
end
theorem mH {lo:Int} {n:Nat} {g:TG} {tb:TS} {D:sH} {σ:St} {H:Hp} (Pv:Nat→St→Hp→Prop) (h0:Pv 0 σ H)
  (hs:∀ i σ H,i < n→Pv i σ H→g (.int (lo + i)) σ H fun σ2 H2=>tb { D with nx:=Pv (i + 1),ct:=Pv (i + 1),bk:=D.nx } σ2 H2) (hd:∀ σ H,Pv n σ H→D.nx σ H) :
  ∃ W:Nat→Nat→St→Hp→Prop,(∃ m,W 0 m σ H)∧∀ i m σ H,W i m σ H →
   ((Itr lo n).stop i H∧D.nx σ H)∨((Itr lo n).go i H∧∃ N:St→Hp→Prop,(∀ σ' H',N σ' H'→∃ m',m' < m∧W (i + 1) m' σ' H')∧∀ x H',(Itr lo n).yld i H x H'→g x σ H' fun σ2 H2=>tb { D with nx:=N,ct:=N,bk:=D.nx } σ2 H2):=by
 refine⟨fun i m σ H=>m=n - i∧i≤n∧Pv i σ H,⟨n,by simp,Nat.zero_le _,h0⟩,?_⟩
 rintro i m σ H ⟨rfl,hi,p⟩
 by_cases hlt:i < n
 ·refine .inr ⟨hlt,Pv (i + 1),fun σ' H' p'=>⟨n - (i + 1),by omega,rfl,hlt,p'⟩,fun x H' y=>?_⟩
  obtain ⟨e,y⟩:=y
  subst e y
  exact hs i σ _ hlt p
 ·have e:i=n:=by omega
  subst e
  exact .inl ⟨Nat.le_refl _,hd σ H p⟩
end L2
namespace L2
open PySem PySem.Spec PyProof.Rows
abbrev R2:=V→V→Hp→VK→Prop
def yK (X:Cx) (f:Value→Value→Sem Value) (r:R2):Prop :=
 ∀ (pins:List (Addr×Obj)) (s:Shared) (σ:St) (H:Hp) (x y:V) (v u:Value) (Q:VK),Inv X pins σ H s→aN x v→aN y u→r x y H Q →
  wpAny (model X.prog X.w) X.A (f v u) (EP X pins σ Q) X.xe s
def UnR (X:Cx) (f:Value→Sem Value) (r:V→Hp→VK→Prop):Prop :=
 ∀ (pins:List (Addr×Obj)) (s:Shared) (σ:St) (H:Hp) (x:V) (v:Value) (Q:VK),Inv X pins σ H s→aN x v→r x H Q →
  wpAny (model X.prog X.w) X.A (f v) (EP X pins σ Q) X.xe s
def bI (X:Cx) (f:Value) (r:List V→Hp→VK→Prop):Prop :=
 ∀ (pins:List (Addr×Obj)) (s:Shared) (σ:St) (H:Hp) (xs:List V) (us:List Value) (Q:VK),Inv X pins σ H s→aV xs us→r xs H Q →
  wpAny (model X.prog X.w) X.A (call f us) (EP X pins σ Q) X.xe s
def tOp (r:R2) (ta tb:TE):TE:=fun σ H Q=>ta σ H fun x H1=>tb σ H1 fun y H2=>r x y H2 Q
def tUn (r:V→Hp→VK→Prop) (ta:TE):TE:=fun σ H Q=>ta σ H fun x H1=>r x H1 Q
def rI (C:Int→Int→Prop) (g:Int→Int→V):R2:=fun x y H Q=>∃ i j,x=.int i∧y=.int j∧C i j∧Q (g i j) H
def rI0 (g:Int→Int→V):R2:=fun x y H Q=>∃ i j,x=.int i∧y=.int j∧Q (g i j) H
def rU (g:Int→V):V→Hp→VK→Prop:=fun x H Q=>∃ i,x=.int i∧Q (g i) H
section
variable {X:Cx} {a b c:Expr} {ta tb tc:TE} {pos:Pos}
theorem binT (ha:PE X a ta) (hb:PE X b tb) {pins:List (Addr×Obj)} {s:Shared} {σ:St} {H:Hp} {R:V→V→Hp→Prop} (I:Inv X pins σ H s)
  (h:ta σ H fun x H1=>tb σ H1 fun y H2=>R x y H2) {Q:Value→Shared→Prop} {f:Value→Value→Sem Value}
  (hf:∀ v u s2 x y H2,Inv X pins σ H2 s2→aN x v→aN y u→R x y H2→wpAny (model X.prog X.w) X.A (f v u) Q X.xe s2) :
  wpAny (model X.prog X.w) X.A (eval a X.env) (fun v s₁=>wpAny (model X.prog X.w) X.A (eval b X.env) (fun u s₂=>wpAny (model X.prog X.w) X.A (f v u) Q X.xe s₂) X.xe s₁) X.xe s:=by
 refine yT (ha pins s σ H _ I h) fun v s1 ⟨x,H1,I1,r1,q1⟩=>?_
 refine yT (hb pins s1 σ H1 _ I1 q1) fun u s2 ⟨y,H2,I2,r2,q2⟩=>?_
 exact hf v u s2 x y H2 I2 r1 r2 q2
theorem yc {op:Operator} {r:R2} (ho:yK X (binaryOp op) r) (ha:PE X a ta) (hb:PE X b tb):PE X (.BinOp a op b pos) (tOp r ta tb):=by
 intro pins s σ H Q I h
 exact wpAny_BinOp (binT ha hb I h fun v u s2 x y H2 I2 rx ry q=>ho pins s2 σ H2 x y v u Q I2 rx ry q)
theorem xa {op:UnaryOp} {r:V→Hp→VK→Prop} (ho:UnR X (unaryOp op) r) (ha:PE X a ta):PE X (.UnaryOp op a pos) (tUn r ta):=by
 intro pins s σ H Q I h
 exact UnaryOp_ (yT (ha pins s σ H _ I h) fun v s1 ⟨x,H1,I1,r1,q1⟩=>ho pins s1 σ H1 x v Q I1 r1 q1)
theorem opI {f:Value→Value→Sem Value} {C:Int→Int→Prop} {g:Int→Int→Int}
  (rule:∀ (i j:Int) (t u:Tok) (s:Shared) (Q:Value→Shared→Prop) (E:Value→Shared→Prop),C i j→Q (.int (g i j) s.toks) { s with toks:=s.toks + 1 }→wpAny (model X.prog X.w) X.A (f (.int i t) (.int j u)) Q E s) :
  yK X f (rI C fun i j=>.int (g i j)):=by
 intro pins s σ H x y v u Q I rx ry h
 obtain ⟨i,j,rfl,rfl,hc,q⟩:=h
 obtain ⟨t,rfl⟩:=rx
 obtain ⟨t',rfl⟩:=ry
 exact rule i j t t' s _ _ hc ⟨.int (g i j),H,I.tok _,⟨_,rfl⟩,q⟩
theorem pF {f:Value→Value→Sem Value} {g:Int→Int→Int}
  (rule:∀ (i j:Int) (t u:Tok) (s:Shared) (Q:Value→Shared→Prop) (E:Value→Shared→Prop),Q (.int (g i j) s.toks) { s with toks:=s.toks + 1 }→wpAny (model X.prog X.w) X.A (f (.int i t) (.int j u)) Q E s) :
  yK X f (rI0 fun i j=>.int (g i j)):=by
 intro pins s σ H x y v u Q I rx ry h
 obtain ⟨i,j,rfl,rfl,q⟩:=h
 obtain ⟨t,rfl⟩:=rx
 obtain ⟨t',rfl⟩:=ry
 exact rule i j t t' s _ _ ⟨.int (g i j),H,I.tok _,⟨_,rfl⟩,q⟩
theorem opB0 {f:Value→Value→Sem Value} {g:Int→Int→Bool}
  (rule:∀ (i j:Int) (t u:Tok) (s:Shared) (Q:Value→Shared→Prop) (E:Value→Shared→Prop),Q (.bool (g i j)) s→wpAny (model X.prog X.w) X.A (f (.int i t) (.int j u)) Q E s) :
  yK X f (rI0 fun i j=>.bl (g i j)):=by
 intro pins s σ H x y v u Q I rx ry h
 obtain ⟨i,j,rfl,rfl,q⟩:=h
 obtain ⟨t,rfl⟩:=rx
 obtain ⟨t',rfl⟩:=ry
 exact rule i j t t' s _ _ ⟨.bl (g i j),H,I,rfl,q⟩
def CPow (i j:Int):Prop:=0≤j∧j≤1000000∧i.natAbs < 2 ^ 64
def CMul (i j:Int):Prop:=(-(2 ^ 64) < i∧i < 2 ^ 64)∨(-(2 ^ 64) < j∧j < 2 ^ 64)
theorem CMul.ok {i j:Int} (h:CMul i j):IntMulOk i j:=by
 rcases h with ⟨h1,h2⟩ | ⟨h1,h2⟩
 ·exact .of_left (intBits_le_64 h1 h2)
 ·exact .of_right (intBits_le_64 h1 h2)
theorem ut:yK X (binaryOp .Add) (rI0 fun i j=>.int (i + j)):=pF fun _ _ _ _ _ _ _ q=>add_int q
theorem ve:yK X (binaryOp .Sub) (rI0 fun i j=>.int (i - j)):=pF fun _ _ _ _ _ _ _ q=>sub_int q
theorem r9:yK X (binaryOp .Mod) (rI (fun _ j=>j≠0) fun i j=>.int (i.fmod j)):=opI fun _ _ _ _ _ _ _ hc q=>mod_int' hc q
theorem uu:yK X (binaryOp .Pow) (rI CPow fun i j=>.int (i ^ j.toNat)):=opI fun _ _ _ _ _ _ _ hc q=>pow_int_small hc.1 hc.2.1 hc.2.2 q
theorem unI {f:Value→Sem Value} {g:Int→Int}
  (rule:∀ (i:Int) (t:Tok) (s:Shared) (Q:Value→Shared→Prop) (E:Value→Shared→Prop),Q (.int (g i) s.toks) { s with toks:=s.toks + 1 }→wpAny (model X.prog X.w) X.A (f (.int i t)) Q E s) :
  UnR X f (rU fun i=>.int (g i)):=by
 intro pins s σ H x v Q I rx h
 obtain ⟨i,rfl,q⟩:=h
 obtain ⟨t,rfl⟩:=rx
 exact rule i t s _ _ ⟨.int (g i),H,I.tok _,⟨_,rfl⟩,q⟩
theorem vT:UnR X (unaryOp .USub) (rU fun i=>.int (-i)):=unI fun _ _ _ _ _ q=>neg_int q
end
def scal:V→V→Bool
 | .non,.non=>true | .non,.int _=>true | .int _,.non=>true | .non,.bl _=>true | .bl _,.non=>true | .non,.str _=>true | .str _,.non=>true
 | .int _,.int _=>true | .bl _,.bl _=>true | .str _,.str _=>true | .byt _,.byt _=>true
 | .int _,.str _=>true | .str _,.int _=>true | .bl _,.str _=>true | .str _,.bl _=>true
 | _,_=>false
def rEq:R2:=fun x y H Q=>scal x y=true∧Q (.bl (decide (x=y))) H
def rNe:R2:=fun x y H Q=>scal x y=true∧Q (.bl (!decide (x=y))) H
theorem iV {i j:Int}:decide (V.int i=V.int j)=(i == j):=by
 rw [Bool.eq_iff_iff]
 simp
theorem lh {i j:Bool}:decide (V.bl i=V.bl j)=(i == j):=by
 rw [Bool.eq_iff_iff]
 simp
theorem jo {i j:Str}:decide (V.str i=V.str j)=(i == j):=by
 rw [Bool.eq_iff_iff]
 simp
theorem m7 {i j:Array UInt8}:decide (V.byt i=V.byt j)=(i.toList == j.toList):=by
 rw [Bool.eq_iff_iff]
 cases i
 cases j
 simp
section
variable {X:Cx} {a b c:Expr} {ta tb tc:TE} {pos:Pos}
theorem az {pins:List (Addr×Obj)} {σ:St} {H:Hp} {s:Shared} {Q:VK} {k k':Bool} (I:Inv X pins σ H s) (q:Q (.bl k) H) (e:k=k'):EP X pins σ Q (.bool k') s:=by
 subst e
 exact⟨.bl k,H,I,rfl,q⟩
theorem uc:yK X (compareOp .Eq) rEq:=by
 intro pins s σ H x y v u Q I rx ry h
 obtain ⟨hs,q⟩:=h
 cases x with
 | non =>
  cases rx
  cases y with
  | non=>cases ry;exact PySem.EqNone.eq_none_none (az I q (by simp))
  | bl j=>cases ry;exact PySem.EqNone.eq_none_bool (az I q (by simp))
  | int j=>obtain ⟨t',rfl⟩:=ry;exact PySem.EqNone.eq_none_int (az I q (by simp))
  | str j=>obtain ⟨t',rfl⟩:=ry;exact PySem.EqNone.eq_none_str (az I q (by simp))
  | _=>exact absurd (show false=true from hs) Bool.false_ne_true
 | bl i =>
  cases rx
  cases y with
  | non=>cases ry;exact PySem.EqNone.eq_bool_none (az I q (by simp))
  | bl j=>cases ry;exact eq_bool (az I q lh)
  | str j=>obtain ⟨t',rfl⟩:=ry;exact PySem.EqMixed.eq_bool_str (az I q (by simp))
  | _=>exact absurd (show false=true from hs) Bool.false_ne_true
 | int i =>
  obtain ⟨t,rfl⟩:=rx
  cases y with
  | non=>cases ry;exact PySem.EqNone.eq_int_none (az I q (by simp))
  | int j=>obtain ⟨t',rfl⟩:=ry;exact eq_int (az I q iV)
  | str j=>obtain ⟨t',rfl⟩:=ry;exact PySem.EqMixed.eq_int_str (az I q (by simp))
  | _=>exact absurd (show false=true from hs) Bool.false_ne_true
 | str i =>
  obtain ⟨t,rfl⟩:=rx
  cases y with
  | non=>cases ry;exact PySem.EqNone.eq_str_none (az I q (by simp))
  | bl j=>cases ry;exact PySem.EqMixed.eq_str_bool (az I q (by simp))
  | int j=>obtain ⟨t',rfl⟩:=ry;exact PySem.EqMixed.eq_str_int (az I q (by simp))
  | str j=>obtain ⟨t',rfl⟩:=ry;exact eq_str (az I q jo)
  | _=>exact absurd (show false=true from hs) Bool.false_ne_true
 | byt i =>
  obtain ⟨t,rfl⟩:=rx
  cases y with
  | byt j=>obtain ⟨t',rfl⟩:=ry;exact PySem.W.eq_bytes (az I q m7)
  | _=>exact absurd (show false=true from hs) Bool.false_ne_true
 | _=>cases y<;>exact absurd (show false=true from hs) Bool.false_ne_true
theorem sG:yK X (compareOp .NotEq) rNe:=by
 intro pins s σ H x y v u Q I rx ry h
 obtain ⟨hs,q⟩:=h
 cases x with
 | non =>
  cases rx
  cases y with
  | non=>cases ry;exact PySem.EqNone.ne_none_none (az I q (by simp))
  | bl j=>cases ry;exact PySem.EqNone.ne_none_bool (az I q (by simp))
  | int j=>obtain ⟨t',rfl⟩:=ry;exact PySem.EqNone.ne_none_int (az I q (by simp))
  | str j=>obtain ⟨t',rfl⟩:=ry;exact PySem.EqNone.ne_none_str (az I q (by simp))
  | _=>exact absurd (show false=true from hs) Bool.false_ne_true
 | bl i =>
  cases rx
  cases y with
  | non=>cases ry;exact PySem.EqNone.ne_bool_none (az I q (by simp))
  | bl j=>cases ry;exact ne_bool (az I q (congrArg not lh))
  | str j=>obtain ⟨t',rfl⟩:=ry;exact PySem.EqMixed.ne_bool_str (az I q (by simp))
  | _=>exact absurd (show false=true from hs) Bool.false_ne_true
 | int i =>
  obtain ⟨t,rfl⟩:=rx
  cases y with
  | non=>cases ry;exact PySem.EqNone.ne_int_none (az I q (by simp))
  | int j=>obtain ⟨t',rfl⟩:=ry;exact ne_int (az I q (congrArg not iV))
  | str j=>obtain ⟨t',rfl⟩:=ry;exact PySem.EqMixed.ne_int_str (az I q (by simp))
  | _=>exact absurd (show false=true from hs) Bool.false_ne_true
 | str i =>
  obtain ⟨t,rfl⟩:=rx
  cases y with
  | non=>cases ry;exact PySem.EqNone.ne_str_none (az I q (by simp))
  | bl j=>cases ry;exact PySem.EqMixed.ne_str_bool (az I q (by simp))
  | int j=>obtain ⟨t',rfl⟩:=ry;exact PySem.EqMixed.ne_str_int (az I q (by simp))
  | str j=>obtain ⟨t',rfl⟩:=ry;exact ne_str (az I q (congrArg not jo))
  | _=>exact absurd (show false=true from hs) Bool.false_ne_true
 | byt i =>
  obtain ⟨t,rfl⟩:=rx
  cases y with
  | byt j=>obtain ⟨t',rfl⟩:=ry;exact PySem.W.ne_bytes (az I q (congrArg not m7))
  | _=>exact absurd (show false=true from hs) Bool.false_ne_true
 | _=>cases y<;>exact absurd (show false=true from hs) Bool.false_ne_true
theorem yj:yK X (compareOp .Lt) (rI0 fun i j=>.bl (decide (i < j))):=opB0 fun _ _ _ _ _ _ _ q=>lt_int q
theorem xc:yK X (compareOp .Gt) (rI0 fun i j=>.bl (decide (j < i))):=opB0 fun _ _ _ _ _ _ _ q=>gt_int q
theorem yh:yK X (compareOp .GtE) (rI0 fun i j=>.bl (decide (j≤i))):=opB0 fun _ _ _ _ _ _ _ q=>ge_int q
theorem uj:yK X (compareOp .Is) (fun x y H Q=>y=.non∧Q (.bl (decide (x=.non))) H):=by
 intro pins s σ H x y v u Q I rx ry h
 obtain ⟨rfl,q⟩:=h
 cases ry
 refine is_none_gen (az I q ?_)
 cases x<;>first
  | (cases rx;rfl)
  | (obtain ⟨t,rfl⟩:=rx;rfl)
theorem yK.or {f:Value→Value→Sem Value} {r r':R2} (h:yK X f r) (h':yK X f r'):yK X f (fun x y H Q=>r x y H Q∨r' x y H Q):=by
 intro pins s σ H x y v u Q I rx ry q
 rcases q with q | q
 ·exact h pins s σ H x y v u Q I rx ry q
 ·exact h' pins s σ H x y v u Q I rx ry q
theorem aH (b:Expr) {op:CmpOp} (h:op≠.In:=by decide) (h2:op≠.NotIn:=by decide):behindInMarks op b=false:=by
 have e1:(op == CmpOp.In)=false:=by cases op<;>first | rfl | exact absurd rfl h
 have e2:(op == CmpOp.NotIn)=false:=by cases op<;>first | rfl | exact absurd rfl h2
 cases b<;>simp [behindInMarks,e1,e2]
theorem tf {op:CmpOp} {r:R2} (ho:yK X (compareOp op) r) (ha:PE X a ta) (hb:PE X b tb) (hm:behindInMarks op b=false):PE X (.Compare a [op] [b] pos) (tOp r ta tb):=by
 intro pins s σ H Q I h
 exact wpAny_Compare1 (binT ha hb I h fun v u s2 x y H2 I2 rx ry q=>ho pins s2 σ H2 x y v u Q I2 rx ry q) hm
def xp (t:TE):TT:=fun σ H Q=>t σ H fun x H'=>∃ k,x=.bl k∧Q k H'
theorem sQ {op:CmpOp} {r:R2} (ho:yK X (compareOp op) r) (ha:PE X a ta) (hb:PE X b tb) (hm:behindInMarks op b=false):PT X (.Compare a [op] [b] pos) (xp (tOp r ta tb)):=by
 intro pins s σ H Q I h
 refine wpAny_isTrue_Compare1 (yT (ha pins s σ H _ I h) fun v s1 ⟨x,H1,I1,r1,q1⟩=>yT (hb pins s1 σ H1 _ I1 q1) fun u s2 ⟨y,H2,I2,r2,q2⟩ =>
  yT (ho pins s2 σ H2 x y v u _ I2 r1 r2 q2) fun c s3 ⟨z,H3,I3,r3,k,e,q3⟩=>?_) hm
 subst e
 cases r3
 exact wpAny_truthy_bool ⟨H3,I3,q3⟩
theorem hV:(sizeLine:Nat) < 2 ^ 63:=by rw [sizeLine_eq];decide
theorem fK {x:V} {us:List Value} (r:aV [x] us):∃ u,us=[u]∧aN x u:=by
 cases r with
 | cons r1 r2=>cases r2;exact⟨_,rfl,r1⟩
theorem rH {x y:V} {us:List Value} (r:aV [x,y] us):∃ u w',us=[u,w']∧aN x u∧aN y w':=by
 cases r with
 | cons r1 r2 =>
  cases r2 with
  | cons r3 r4=>cases r4;exact⟨_,_,rfl,r1,r3⟩
theorem nB:bI X (.builtin "abs") (fun xs H Q=>∃ i,xs=[.int i]∧Q (.int (if i < 0 then -i else i)) H):=by
 intro pins s σ H xs us Q I r h
 obtain ⟨i,rfl,q⟩:=h
 obtain ⟨u,rfl,t,rfl⟩:=fK r
 exact call_abs_int fun u tk=>⟨.int (if i < 0 then -i else i),H,I.tok _,⟨_,rfl⟩,q⟩
theorem ly:bI X (.type "int") (fun xs H Q=>(∃ i,xs=[.int i]∧Q (.int i) H)∨∃ k,xs=[.bl k]∧Q (.int (if k then 1 else 0)) H):=by
 intro pins s σ H xs us Q I r h
 rcases h with ⟨i,rfl,q⟩ | ⟨k,rfl,q⟩
 ·obtain ⟨u,rfl,t,rfl⟩:=fK r
  exact call_int_int ⟨.int i,H,I,⟨_,rfl⟩,q⟩
 ·obtain ⟨u,rfl,r1⟩:=fK r
  cases r1
  exact call_int_bool ⟨.int (if k then 1 else 0),H,I.tok _,⟨_,rfl⟩,q⟩
end
end L2
namespace L2
open PySem PySem.Spec PyProof.Rows
theorem lj {h:Heap} {dx:Addr} {mA:Str→Option Value} (n:h.Ns1 dx mA):∃ od,h.get? dx=some od∧∀ name,PySem.W.lookIn name od=some (mA name):=by
 obtain ⟨o,es,ep,ho,hd,hk,_,hm⟩:=n
 refine⟨o,ho,fun name=>?_⟩
 have e:=hm name
 unfold nsFind findBy at e
 rw [← Array.find?_toList] at e
 unfold PySem.W.lookIn
 rw [hd]
 dsimp only
 split
 ·rename_i y q
  rw [q] at e
  exact congrArg some e
 ·rename_i q
  rw [q] at e
  have a:es.toList.any (·.refKey)=false:=by
   rw [List.any_eq_false]
   intro y hy
   obtain ⟨z,t,hkey⟩:=hk y (Array.mem_toList_iff.mp hy)
   simp [DictEntry.refKey,hkey]
  have a':¬ es.toList.any (·.refKey)=true:=by rw [a];exact Bool.false_ne_true
  rw [if_neg a']
  exact congrArg some e
section
variable {prog:Program} {w:World} {A:Around} {E:Value→Shared→Prop} {s:Shared} {K:PySem.W.Frag} {x dx C f:Addr} {mA:Str→Option Value} {name:Str} {v:Value}
end
theorem jG.some_of {v:V} {o:Option Value} (r:jG (some v) o):∃ u,o=some u∧aN v u:=by
 cases o with
 | none=>exact (show False from r).elim
 | some u=>exact⟨u,rfl,r⟩
theorem nh {v:V} {u:Value} (r:aN v u):PySem.W.handedIn u=true:=by
 cases v with
 | non=>cases (show u=Value.none from r);rfl
 | bl b=>cases (show u=Value.bool b from r);rfl
 | int i=>obtain ⟨t,e⟩:=(show ∃ t,u=Value.int i t from r);cases e;rfl
 | str x=>obtain ⟨t,e⟩:=(show ∃ t,u=Value.str x t from r);cases e;rfl
 | byt b=>obtain ⟨t,e⟩:=(show ∃ t,u=Value.bytes b t from r);cases e;rfl
 | flt b=>obtain ⟨t,e⟩:=(show ∃ t,u=Value.float b t from r);cases e;rfl
 | ref a=>cases (show u=Value.ref a from r);rfl
 | ty n=>cases (show u=Value.type n from r);rfl
section
variable {P:Program} {w:World} {H H':Hp} {h h':Heap} {a C dx:Addr} {fs fs':List (Str×V)}
end
section
variable {X:Cx} {pins:List (Addr×Obj)} {σ:St} {H:Hp} {s:Shared} {a C dx:Addr} {fs:List (Str×V)} {f:Str} {v:V} {A:Around} {E:Value→Shared→Prop}
theorem tG {prog:Program} {w:World} {env:Env} {e:Expr} {f:Str} {pos:Pos} {s:Shared} {Q:Value→Shared→Prop} (hb:attributeBase e f env (eval e env)=eval e env)
  (h:wpAny (model prog w) A (eval e env) (fun o s₁=>wpAny (model prog w) A (getAttr o f true) Q E s₁) E s):wpAny (model prog w) A (eval (.Attribute e f pos) env) Q E s :=
 Attribute_any_ h (by rw [arm_eval_Attribute,hb])
end
section
variable {X:Cx} {o e value:Expr} {f:Str} {pos pos' tpos:Pos} {ta tv:TE}
end
section
variable {X:Cx} {pins:List (Addr×Obj)} {σ:St} {H:Hp} {s:Shared} {A:Around} {E:Value→Shared→Prop} {Q:Value→Shared→Prop} {c:Value} {b:Bool}
end
end L2
namespace L2
open PySem PySem.Spec PyProof.Rows
structure bP (k:Nat) (A:Around):Prop where
 hd:A.handled=none
 dp:A.depth + 3 * k + 5 < recursionLimit
 un:A.units + 16 * k + 200 < cLine
theorem bP.mono {j k:Nat} {A:Around} (r:bP k A) (h:j≤k):bP j A:=⟨r.hd,by have:=r.dp;omega,by have:=r.un;omega⟩
theorem bP.deeper {k:Nat} {A:Around} (r:bP (k + 1) A) (env:Env):bP k (A.deeper env) :=
 ⟨r.hd,by have:=r.dp;show A.depth + 1 + 3 * k + 5 < _;omega,by have:=r.un;show A.units + 3 + 16 * k + 200 < _;omega⟩
theorem kj {A:Around} {C:Addr} {us:List Value} {kw:List (Str×Value)}:(A.under (.builtin "type.__call__" ⟨.ref C :: us,kw⟩)).depth=A.depth + 1:=by
 first | rfl | simp [Around.under,Code.weight,Code.isCreation,Code.isGuard,Code.isCaller,Code.frames,Code.isFrame,guardIds]
theorem j4 {A:Around} {C:Addr} {us:List Value} {kw:List (Str×Value)}:(A.under (.builtin "type.__call__" ⟨.ref C :: us,kw⟩)).units=A.units + 1:=by
 first | rfl | simp [Around.under,Code.cUnits,Code.frames,Code.isFrame]
theorem bP.make {k:Nat} {A:Around} (r:bP (k + 1) A) (C:Addr) (us:List Value) (kw:List (Str×Value)):bP k (A.under (.builtin "type.__call__" ⟨.ref C :: us,kw⟩)) :=
 ⟨r.hd,by have:=r.dp;rw [kj];omega,by have:=r.un;rw [j4];omega⟩
theorem bP.depth {k:Nat} {A:Around} (r:bP k A):A.depth < recursionLimit:=by have:=r.dp;omega
theorem bP.units {k:Nat} {A:Around} (r:bP k A):A.units + 64 < cLine:=by have:=r.un;omega
def tNil:TA:=fun _ H Q=>Q [] H
def mU (ta:TE) (tr:TA):TA:=fun σ H Q=>ta σ H fun x H1=>tr σ H1 fun xs H2=>Q (x :: xs) H2
section
variable {X:Cx} {e:Expr} {es:List Expr} {te:TE} {t:TA} {pos:Pos}
theorem bN:PA X [] tNil:=fun _ _ _ _ H Q I h=>Calls.spliced_nil ⟨[],H,I,.nil,h⟩
theorem aA (ha:PE X e te) (hr:PA X es t) (hs:starEach (e :: es) X.env=(false,eval e X.env) :: starEach es X.env:=by rfl):PA X (e :: es) (mU te t):=by
 intro pos pins s σ H Q I h
 rw [hs]
 show wpAny _ _ (spliced ((false,eval e X.env) :: backTo pos (starEach es X.env))) _ _ s
 refine Calls.spliced_cons (yT (ha pins s σ H _ I h) fun u s1 ⟨x,H1,I1,r1,q1⟩=>?_)
 exact yT (hr pos pins s1 σ H1 _ I1 q1) fun us s2 ⟨xs,H2,I2,r2,q2⟩=>⟨x :: xs,H2,I2,.cons r1 r2,q2⟩
def tTup (t:TA):TE:=fun σ H Q=>t σ H fun xs H1=>xs.length≤sizeLine∧∀ p,H1 p=none→Q (.ref p) (yV H1 p (.tup xs))
def tLst (t:TA):TE:=fun σ H Q=>t σ H fun xs H1=>xs.length≤sizeLine∧∀ p,H1 p=none→Q (.ref p) (yV H1 p (.lst xs))
theorem pK {x1} (h:PA X es t):PE X (.Tuple es x1 pos) (tTup t):=by
 intro pins s σ H Q I hq
 refine wpAny_Tuple_spliced (yT (h pos pins s σ H _ I hq) fun us s1 ⟨xs,H1,I1,r,z,q⟩=>⟨by rw [← r.length];exact z,?_⟩)
 have hf:H1 s1.heap.objs.size=none:=I1.hok.fresh (Nat.le_refl _)
 refine⟨.ref s1.heap.objs.size,yV H1 s1.heap.objs.size (.tup xs),I1.laid (t':=s1.toks) (fun b u e=>Heap.get?_push_of_some _ e) (Nat.le_refl _) ?_,rfl,q _ hf⟩
 exact⟨z,us,r,⟨_,Heap.get?_push_size _ rfl,rfl,_,rfl⟩⟩
theorem lT (h:PA X es t):PE X (.List es pos) (tLst t):=by
 intro pins s σ H Q I hq
 refine wpAny_List_spliced (yT (h pos pins s σ H _ I hq) fun us s1 ⟨xs,H1,I1,r,z,q⟩=>⟨by rw [← r.length];exact z,?_⟩)
 have hf:H1 s1.heap.objs.size=none:=I1.hok.fresh (Nat.le_refl _)
 refine⟨.ref s1.heap.objs.size,yV H1 s1.heap.objs.size (.lst xs),I1.laid (t':=s1.toks) (fun b u e=>Heap.get?_push_of_some _ e) (Nat.le_refl _) ?_,rfl,q _ hf⟩
 exact⟨z,us,0,r,Heap.get?_push_size _ rfl⟩
end
abbrev Sp:=List V→Hp→VK→XK→Prop
abbrev CXT:=List Env→Hp→Shared→XK→Value→Shared→Prop
structure sC (P:Program) (w:World) (K:PySem.W.Frag) (mg:Str→Option Value) (base:Heap) (A:Around) (outer:List Env) (s:Shared) (H:Hp):Prop where
 frames:A.frames=some outer
 mod:Mod K mg base
 bs:∀ b o,base.get? b=some o→s.heap.get? b=some o∧H b=none
 bsz:base.objs.size≤s.heap.objs.size
 funs:s.heap.FunFrames base outer
 frf:∀ b∈frs outer,H b=none
 hok:yO P w H s.heap
 bare:AllBare s.gens
def CE (outer:List Env) (P:Program) (w:World) (H:Hp) (s:Shared) (Q:VK) (u:Value) (s':Shared):Prop :=
 ∃ v H',s'.os=s.os∧AllBare s'.gens∧Un (frs outer) [] H H' s.heap s'.heap∧yO P w H' s'.heap∧aN v u∧Q v H'
def CR (CX:CXT) (outer:List Env) (P:Program) (w:World) (H:Hp) (s:Shared) (Q:VK) (E:XK) (r:Result) (s':Shared):Prop :=
 match r with
 | .ok (.ret u)=>CE outer P w H s Q u s'
 | .ok _=>False
 | .error e=>CX outer H s E e s'
structure c8 (P:Program) (w:World) (K:PySem.W.Frag) (mg:Str→Option Value) (base:Heap) (CX:CXT) (k:Nat) (f:Addr) (fd:FuncData) (ps:List Str) (sp:Sp):Prop where
 len:∀ vs H Q E,sp vs H Q E→vs.length=ps.length
 run:∀ (A:Around) (outer:List Env) (s:Shared) (H:Hp) (args:Args) (us:List Value) (vs:List V) (Q:VK) (E:XK),bP k A→sC P w K mg base A outer s H→BindsTo s fd args (ps.zip us)→aV vs us→sp vs H Q E →
  codeAny (model P w) A (.call (.ref f) args) (CR CX outer P w H s Q E) s
theorem c8.mono {P:Program} {w:World} {K:PySem.W.Frag} {mg:Str→Option Value} {base:Heap} {CX:CXT} {j k:Nat} {f:Addr} {fd:FuncData} {ps:List Str} {sp:Sp} (F:c8 P w K mg base CX j f fd ps sp) (h:j≤k) :
  c8 P w K mg base CX k f fd ps sp:=⟨F.len,fun A outer s H args us vs Q E hr=>F.run A outer s H args us vs Q E (hr.mono h)⟩
theorem c8.imp {P:Program} {w:World} {K:PySem.W.Frag} {mg:Str→Option Value} {base:Heap} {CX:CXT} {k:Nat} {f:Addr} {fd:FuncData} {ps:List Str} {sp sp':Sp} (F:c8 P w K mg base CX k f fd ps sp)
  (h:∀ vs H Q E,sp' vs H Q E→sp vs H Q E):c8 P w K mg base CX k f fd ps sp' :=
 ⟨fun vs H Q E q=>F.len vs H Q E (h _ _ _ _ q),fun A outer s H args us vs Q E hr he hb hv hs=>F.run A outer s H args us vs Q E hr he hb hv (h _ _ _ _ hs)⟩
theorem sC.make {P:Program} {w:World} {K:PySem.W.Frag} {mg:Str→Option Value} {base:Heap} {A:Around} {outer:List Env} {s:Shared} {H:Hp} (e:sC P w K mg base A outer s H) (C:Addr) (us:List Value) (kw:List (Str×Value)) :
  sC P w K mg base (A.under (.builtin "type.__call__" ⟨.ref C :: us,kw⟩)) outer s H:=⟨by first | exact e.frames | (simpa [Around.under,Code.envs,Code.isFrame,pushEnvs] using e.frames),e.mod,e.bs,e.bsz,e.funs,e.frf,e.hok,e.bare⟩
section
variable {X:Cx} {pins:List (Addr×Obj)} {σ:St} {H:Hp} {s s':Shared}
theorem Inv.env0 (I:Inv X pins σ H s):sC X.prog X.w X.K X.mg X.base X.A X.stack s H :=
 ⟨I.ok.frames,I.ok.mod,I.bs,Nat.le_trans I.ok.bsz I.sz,I.stack,I.stkFree,I.hok,I.bare⟩
theorem Inv.after {Q:VK} {u:Value} (I:Inv X pins σ H s) (h:CE X.stack X.prog X.w H s Q u s'):EP X pins σ Q u s':=by
 obtain ⟨v,H',os,bare,un,hok,r,q⟩:=h
 obtain ⟨hh,g,d,t,os'⟩:=s'
 obtain rfl:os'=s.os:=os
 exact⟨v,H',I.call (h':=hh) (g':=g) (d':=d) (t':=t) (ch:=[]) un hok bare (fun b z=>absurd z (by simp)),r,q⟩
end
def rK (sp:Sp) (dvs:List V) (E:XK) (t:TA):TE:=fun σ H Q=>t σ H fun vs H1=>sp (vs++dvs) H1 Q E
def cT (K:PySem.W.Frag) (fd:FuncData) (ps:List Str) (ds:List Value):Prop :=
 ∀ (s:Shared) (us:List Value),K.In s.heap→(us++ds).length=ps.length→BindsTo s fd ⟨us,[]⟩ (ps.zip (us++ds))
theorem cT.all {K:PySem.W.Frag} {fd:FuncData} {ps:List Str} (h:∀ us:List Value,us.length=ps.length→bindArgs fd ⟨us,[]⟩=pure (ps.zip us)):cT K fd ps []:=fun s us _ hl=>by
 rw [List.append_nil] at hl ⊢
 exact .of_eq (h us hl)
def js (CX:CXT) (X:Cx) (E:XK):Prop:=∀ (pins:List (Addr×Obj)) (σ:St) (H:Hp) (s:Shared) (e:Value) (s':Shared),Inv X pins σ H s→CX X.stack H s E e s'→X.xe e s'
section
variable {X:Cx} {CX:CXT} {k:Nat} {f C:Addr} {fd:FuncData} {ps:List Str} {sp:Sp} {dvs:List V} {ds:List Value} {E:XK} {x m:Str} {p pos apos:Pos} {e o:Expr} {es:List Expr} {ta:TE} {t:TA}
theorem vO {pins:List (Addr×Obj)} {σ:St} {H:Hp} {s:Shared} {Q:VK} {us:List Value} {vs:List V} (F:c8 X.prog X.w X.K X.mg X.base CX k f fd ps sp) (hr:bP k X.A) (hb:cT X.K fd ps ds) (hd:aV dvs ds) (hx:js CX X E)
  (I:Inv X pins σ H s) (r:aV vs us) (h:sp (vs++dvs) H Q E):wpAny (model X.prog X.w) X.A (call (.ref f) us) (EP X pins σ Q) X.xe s:=by
 have r2:aV (vs++dvs) (us++ds):=r.append hd
 have hl:(us++ds).length=ps.length:=by rw [← r2.length];exact F.len _ _ _ _ h
 refine wpAny_call (codeAny_mono (F.run X.A X.stack s H ⟨us,[]⟩ (us++ds) (vs++dvs) Q E hr I.env0 (hb s us I.kIn hl) r2 h) fun r s' hq=>?_)
 cases r with
 | error e=>exact hx pins σ H s e s' I hq
 | ok fl =>
  cases fl with
  | ret u=>exact I.after hq
  | next=>exact False.elim hq
  | brk=>exact False.elim hq
  | cont=>exact False.elim hq
theorem ff (F:c8 X.prog X.w X.K X.mg X.base CX k f fd ps sp) (hr:bP k X.A) (hg:Gl X x) (hm:X.mg x=some (.ref f)) (hk:PySem.W.keepIn X.K (.ref f)=true) (hb:cT X.K fd ps ds) (hd:aV dvs ds) (hx:js CX X E)
  (ha:PA X (e :: es) t) (hdb:(x == ("__debug__":Str))=false:=by decide) (he:starEach (e :: es) X.env=(false,eval e X.env) :: starEach es X.env:=by rfl) (hpl:(backTo pos (starEach es X.env)).any (·.1)=false:=by rfl) :
  PE X (.Call (.Name x p) (e :: es) [] pos) (rK sp dvs E t):=by
 intro pins s σ H Q I h
 refine wpAny_Call_Name_kw (eQ I hg hm ?_ hdb)
 refine PySem.W.callWith_K (h₀:=X.base) I.ok.mod.kin hk (yT (ha pos pins s σ H _ I h) fun us s1 ⟨vs,H1,I1,r,q⟩=>⟨I1.kIn,?_⟩) he hpl
 exact vO F hr hb hd hx I1 r q
end
section
variable {X:Cx} {CX:CXT} {k:Nat} {f C:Addr} {fd:FuncData} {ps ks:List Str} {sp:Sp} {E:XK} {x m:Str} {p pos apos kpos:Pos} {e o:Expr} {es:List Expr} {kws:List Keyword} {te ta:TE} {t tk:TA} {nm:Option Str}
variable {g:List Value→List Value→List Value} {gV:List V→List V→List V}
end
structure au (N P:List Str) (sc:Scope):Prop where
 kind:sc.kind=.function
 co:sc.isCoroutine=false
 gen:sc.isGenerator=false
 nd:N.Nodup
 pre:N.take P.length=P
 par:∀ x∈P,sc.names.lookup x=some .local∨sc.names.lookup x=some .cell
 nofree:∀ y∈sc.names,y.2≠.free
theorem gJ {kindOf:Str→Option NameKind} {x:Str}:∀ {binds:List (Str×Value)} {m:Str→Option Value},(∀ v,(x,v)∉binds)→bindL kindOf binds m x=m x
 | [],_,_=>rfl
 | (n,v) :: r,m,h=>by
  unfold bindL
  rw [gJ fun w hw=>h w (List.mem_cons_of_mem _ hw)]
  split
  ·have:x≠n:=by rintro rfl;exact h v List.mem_cons_self
   simp [this]
  ·rfl
theorem hG {kindOf:Str→Option NameKind} {x:Str}:∀ {binds:List (Str×Value)} {m:Str→Option Value},(∀ v,(x,v)∉binds)→bindC kindOf binds m x=m x
 | [],_,_=>rfl
 | (n,v) :: r,m,h=>by
  unfold bindC
  rw [hG fun w hw=>h w (List.mem_cons_of_mem _ hw)]
  split
  ·rfl
  ·have:x≠n:=by rintro rfl;exact h v List.mem_cons_self
   simp [this]
theorem g8 {kindOf:Str→Option NameKind} {x:Str} {v:Value}:∀ {P:List Str} {vs:List Value} {i:Nat} {m:Str→Option Value},P.Nodup→P[i]?=some x→vs[i]?=some v→kindOf x=some .local →
  bindL kindOf (P.zip vs) m x=some v
 | [],_,_,_,_,h,_,_=>by simp at h
 | _ :: _,[],_,_,_,_,h,_=>by simp at h
 | p :: P,w :: vs,0,m,nd,h1,h2,hk=>by
  simp at h1 h2;subst h1;subst h2
  show bindL kindOf ((p,w) :: P.zip vs) m p=_
  unfold bindL
  rw [gJ fun v hv=>(List.nodup_cons.mp nd).1 (List.of_mem_zip hv).1,if_pos hk]
  simp
 | p :: P,w :: vs,i + 1,m,nd,h1,h2,hk=>by
  show bindL kindOf ((p,w) :: P.zip vs) m x=_
  unfold bindL
  exact g8 (i:=i) (List.nodup_cons.mp nd).2 (by simpa using h1) (by simpa using h2) hk
theorem gN {kindOf:Str→Option NameKind} {x:Str} {v:Value}:∀ {P:List Str} {vs:List Value} {i:Nat} {m:Str→Option Value},P.Nodup→P[i]?=some x→vs[i]?=some v→kindOf x≠some .local →
  bindC kindOf (P.zip vs) m x=some v
 | [],_,_,_,_,h,_,_=>by simp at h
 | _ :: _,[],_,_,_,_,h,_=>by simp at h
 | p :: P,w :: vs,0,m,nd,h1,h2,hk=>by
  simp at h1 h2;subst h1;subst h2
  show bindC kindOf ((p,w) :: P.zip vs) m p=_
  unfold bindC
  rw [hG fun v hv=>(List.nodup_cons.mp nd).1 (List.of_mem_zip hv).1,if_neg hk]
  simp
 | p :: P,w :: vs,i + 1,m,nd,h1,h2,hk=>by
  show bindC kindOf ((p,w) :: P.zip vs) m x=_
  unfold bindC
  exact gN (i:=i) (List.nodup_cons.mp nd).2 (by simpa using h1) (by simpa using h2) hk
def start (N:List Str) (vs:List V):St:=vs.map some++List.replicate (N.length - vs.length) none
def iB (CX:CXT) (P:Program) (w:World) (K:PySem.W.Frag) (mg:Str→Option Value) (base:Heap) (N:List Str) (qual:Str) (scope:Scope) (f:Addr) (cd:Value) (A:Around) (outer:List Env) (s:Shared) (H:Hp) (E:XK):Cx where
 prog:=P
 w:=w
 K:=K
 mg:=mg
 base:=base
 A:=A.deeper (envOfC qual scope s.heap.objs.size f cd)
 N:=N
 s₀:=s
 H₀:=H
 env:=envOfC qual scope s.heap.objs.size f cd
 outer:=outer
 stack:=envOfC qual scope s.heap.objs.size f cd :: outer
 ex:=[]
 calm:=true
 fn:=fun _=>true
 pn:=[]
 xe:=fun e s'=>wpAny (model P w) (A.deeper (envOfC qual scope s.heap.objs.size f cd)) (leaving (envOfC qual scope s.heap.objs.size f cd) e) (fun _ s''=>CX outer H s E e s'') (fun e' s''=>CX outer H s E e' s'') s'
theorem gj {sc:Scope} {n:Nat} {x:Str} (h:sc.names.lookup x=some .cell):∃ c,(cellsFrom n sc.names []).lookup x=some c:=by
 have q:=PySem.W.cellsFrom_some sc.names n [] (.inl h)
 exact Option.isSome_iff_exists.mp q
theorem lS {CX:CXT} {P:Program} {w:World} {K:PySem.W.Frag} {mg:Str→Option Value} {base:Heap} {N ps:List Str} {qual:Str} {scope:Scope} {f:Addr} {cd:Value} {A:Around} {outer:List Env} {s s1:Shared} {H:Hp} {E:XK} {us:List Value} {vs:List V}
  (S:au N ps scope) (hd:A.handled=none) (e0:sC P w K mg base A outer s H) (hl:vs.length=ps.length) (r:aV vs us)
  (x:InCallC s s.heap.objs.size (bindL (envOfC qual scope s.heap.objs.size f cd).kindOf (ps.zip us) fun _=>none) (cellsFrom (s.heap.objs.size + 1) scope.names []) (bindC (envOfC qual scope s.heap.objs.size f cd).kindOf (ps.zip us) fun _=>none) s1) :
  Inv (iB CX P w K mg base N qual scope f cd A outer s H E) [] (start N vs) H s1:=by
 have hpl:ps.length≤N.length:=by have:=congrArg List.length S.pre;rw [List.length_take] at this;omega
 obtain ⟨h1,tk,rfl,hk⟩:=x.done
 have noA:∀ b:Addr,b∉(iB CX P w K mg base N qual scope f cd A outer s H E).ex:=fun b z=>absurd (show b∈([]:List Addr) from z) (by simp)
 refine⟨⟨e0.mod,S.kind,rfl,rfl,Nat.le_refl _,fun y z c h1 h2=>?_,fun y hy=>?_,fun y c _ h=>?_,fun _=>hd,Around.frames_deeper e0.frames,.inr ⟨rfl,rfl⟩,fun b z=>absurd z (noA b),e0.bs,e0.bsz,fun b _ _=>noA b,fun b z=>absurd z (noA b),e0.funs,e0.frf⟩,
  rfl,e0.bare,Un.kept hk,⟨_,x.toInCall.ns,fun i y v h1 h2 h3=>?_⟩,fun y c h=>⟨_,x.cell y c h⟩,e0.hok.fresh (Nat.le_refl _),fun y c h=>?_,fun p hp=>absurd (show p∈([]:List (Addr×Obj)) from hp) (by simp),e0.hok.kept hk,?_⟩
 ·exact name_of_addr x.apart (PySem.mem_of_lookup h1) (PySem.mem_of_lookup h2)
 ·have hy:scope.names.lookup y=some .cell∨scope.names.lookup y=some .free:=hy
  rcases hy with hy | hy
  ·exact gj hy
  ·exact absurd rfl (S.nofree _ (PySem.mem_of_lookup hy))
 ·exact Nat.le_of_lt (x.above y c (PySem.mem_of_lookup h))
 ·have hi:i < vs.length:=by
   unfold start at h2
   by_cases hi:i < vs.length
   ·exact hi
   ·rw [List.getElem?_append_right (by simpa using hi)] at h2
    rw [List.getElem?_replicate] at h2
    split at h2<;>cases h2
  have ha:vs[i]?=some v:=by
   unfold start at h2
   rw [List.getElem?_append_left (by simpa using hi),List.getElem?_map] at h2
   cases e:vs[i]? with
   | none=>rw [e] at h2;cases h2
   | some a=>rw [e] at h2;cases h2;rfl
  obtain ⟨u,hu,rv⟩:=r.get ha
  have hp:ps[i]?=some y:=by
   rw [← S.pre,List.getElem?_take_of_lt (by omega)];exact h1
  have ndP:ps.Nodup:=by rw [← S.pre];exact S.nd.sublist (List.take_sublist _ _)
  refine⟨u,rv,?_⟩
  rcases S.par y (List.mem_of_getElem? hp) with k | k
  ·exact .inl ⟨k,g8 ndP hp hu k⟩
  ·obtain ⟨c,e⟩:=gj (n:=s.heap.objs.size + 1) k
   refine .inr ⟨.inl k,c,e,?_⟩
   have q:=x.cell y c e
   rw [gN ndP hp hu (by show scope.names.lookup y≠_;rw [k];decide)] at q
   exact q
 ·exact e0.hok.fresh (Nat.le_of_lt (x.above y c (PySem.mem_of_lookup h)))
 ·unfold start
  show _=N.length
  rw [List.length_append,List.length_map,List.length_replicate]
  omega
theorem vA {CX:CXT} {P:Program} {w:World} {K:PySem.W.Frag} {mg:Str→Option Value} {base:Heap} {k:Nat} {f:Addr} {name qual:Str} {params:Arguments} {body:List Stmt} {scope:Scope} {dV kV doc pm cdv ct oc:Value} {an od:Option Addr}
    {osl:Array (Option Value)} {N ps:List Str} {sp:Sp} (lk:K.lookup f=some ⟨oc,od,.func (PySem.W.fnOf name qual params body scope dV kV doc pm an cdv ct),osl⟩) (hcd:PySem.W.codeIn K cdv qual=true) (S:au N ps scope)
    (len:∀ vs H Q E,sp vs H Q E→vs.length=ps.length)
    (hbody:∀ (A:Around) (outer:List Env) (s:Shared) (H:Hp) (vs:List V) (Q:VK) (E:XK),bP k (A.deeper (envOfC qual scope s.heap.objs.size f cdv))→sp vs H Q E →
      ∃ t,PSs (iB CX P w K mg base N qual scope f cdv A outer s H E) body t∧t { nx:=fun _ H'=>Q .non H',rt:=Q } (start N vs) H) :
    c8 P w K mg base CX (k + 1) f (PySem.W.fnOf name qual params body scope dV kV doc pm an cdv ct) ps sp:=by
  refine⟨len,fun A outer s H args us vs Q E hr e0 hb r hsp=>?_⟩
  have hl:=len _ _ _ _ hsp
  have KX:K.In s.heap:=e0.mod.kin.keeps fun b o e=>(e0.bs b o e).1
  have lim:s.heap.NoLimit:=e0.mod.nolimit.keeps fun b o e=>(e0.bs b o e).1
  have hkind:∀ y∈ps.zip us,scope.names.lookup y.1=some .local∨(scope.names.lookup y.1=some .cell∧((cellsFrom (s.heap.objs.size + 1) scope.names []).lookup y.1).isSome=true):=fun ⟨n,v⟩ hy=>by
    rcases S.par n (List.of_mem_zip hy).1 with q | q
    · exact .inl q
    · exact .inr ⟨q,PySem.W.cellsFrom_some _ _ _ (.inl q)⟩
  refine codeAny_call_function hr.depth (KX _ _ lk) rfl S.co S.gen rfl (PySem.W.codeRec_of KX hcd) (hb _ _ _ _ ?_)
  refine wpAny_newFunctionEnv_cells S.kind hkind fun env he s1 x=>?_
  subst he
  refine⟨lim.keeps x.toInCall.keep,codeAny_func ?_⟩
  obtain ⟨t,ht,hq⟩:=hbody A outer s H vs Q E (hr.deeper _) hsp
  have I:Inv (iB CX P w K mg base N qual scope f cdv A outer s H E) [] (start N vs) H s1:=lS S hr.hd e0 hl r x
  refine wpAny_mono (ht [] s1 (start N vs) H _ I hq) (fun fl s' hs=>?_) fun e s' hs=>hs
  have fin:∀ {σ':St} {H':Hp} {v:V} {u:Value},Inv (iB CX P w K mg base N qual scope f cdv A outer s H E) [] σ' H' s'→aN v u→Q v H'→CE outer P w H s Q u s' :=
    fun {σ' H' v u} J rv q=>⟨v,H',J.os,J.bare,J.base,J.hok,rv,q⟩
  cases fl with
  | ret u =>
    obtain ⟨v,σ',H',J,rv,q⟩:=hs
    exact fin J rv q
  | next =>
    obtain ⟨σ',H',J,q⟩:=hs
    exact fin (v:=V.non) (u:=Value.none) J rfl q
  | brk =>
    obtain ⟨_,_,_,q⟩:=hs
    exact False.elim q
  | cont =>
    obtain ⟨_,_,_,q⟩:=hs
    exact False.elim q
end L2
namespace L2
open PySem PySem.Spec PyProof.Rows
section
variable {X:Cx} {x:Str} {p pos:Pos} {e:Expr} {es:List Expr} {t:TA} {id T:String} {r:List V→Hp→VK→Prop}
def tCB (r:List V→Hp→VK→Prop) (t:TA):TE:=fun σ H Q=>t σ H fun vs H1=>r vs H1 Q
theorem cL (hc:bI X (.builtin id) r) (hg:Gl X x) (hm:X.mg x=none) (hv:bootBuiltins x=some (.builtin id)) (ha:PA X (e :: es) t) (hn:x≠"__name__":=by decide) (hdb:(x == ("__debug__":Str))=false:=by decide)
  (he:starEach (e :: es) X.env=(false,eval e X.env) :: starEach es X.env:=by rfl) (hpl:(backTo pos (starEach es X.env)).any (·.1)=false:=by rfl):PE X (.Call (.Name x p) (e :: es) [] pos) (tCB r t):=by
 intro pins s σ H Q I h
 refine wpAny_Call_Name_kw (jW I hg hm hv ?_ hn hdb)
 exact PyProof.Rows.callWith_builtin1 (yT (ha pos pins s σ H _ I h) fun us s1 ⟨vs,H1,I1,r1,q1⟩=>hc pins s1 σ H1 vs us Q I1 r1 q1) he hpl
theorem io (hc:bI X (.type T) r) (hg:Gl X x) (hm:X.mg x=none) (hv:bootBuiltins x=some (.type T)) (ha:PA X (e :: es) t) (hn:x≠"__name__":=by decide) (hdb:(x == ("__debug__":Str))=false:=by decide)
  (he:starEach (e :: es) X.env=(false,eval e X.env) :: starEach es X.env:=by rfl) (hpl:(backTo pos (starEach es X.env)).any (·.1)=false:=by rfl):PE X (.Call (.Name x p) (e :: es) [] pos) (tCB r t):=by
 intro pins s σ H Q I h
 refine wpAny_Call_Name_kw (jW I hg hm hv ?_ hn hdb)
 exact PyProof.Rows.callWith_type1 (yT (ha pos pins s σ H _ I h) fun us s1 ⟨vs,H1,I1,r1,q1⟩=>hc pins s1 σ H1 vs us Q I1 r1 q1) he hpl
end
end L2
namespace HT
open PySem PyProof.Rows
section
open PySem.SeqAt
open PySem.AutoSeq1 (wpAny_loadPart')
open PySem.MeetsSeq PySem.MeetsSeq2 PySem.MeetsSeq3
end
section
variable {prog:Program} {w:World} {A:Around} {E:Value→Shared→Prop} {s:Shared}
theorem cat_tup {t b:Addr} {vs ws:List Value} {Q:Value→Shared→Prop} (ht:IsTup s.heap t vs.toArray) (hb:IsTup s.heap b ws.toArray) (hv:vs≠[])
  (h1:ws=[]→Q (.ref t) s) (h2:ws≠[]→Q (.ref s.heap.objs.size) { s with heap:=s.heap.push { cls:=.type "tuple",data:=.seq (vs++ws).toArray } })
  (hsz:vs.length + ws.length≤sizeLine):wpAny (model prog w) A (binaryOp .Add (.ref t) (.ref b)) Q E s:=by
 obtain ⟨⟨cls,dd,data,sl⟩,ho,hc,n,hd⟩:=id ht
 obtain ⟨⟨cls2,dd2,data2,sl2⟩,ho2,hc2,n2,hd2⟩:=id hb
 simp only at hc hd hc2 hd2
 subst hc hd hc2 hd2
 have e:vs.toArray++ws.toArray=(vs++ws).toArray:=by simp
 by_cases hw:ws=[]
 ·exact concat_meets ⟨_,ho,rfl⟩ ⟨_,ho2,rfl⟩ noFill_tuple_add seq_tuple_add PySem.F.slot_tuple_add PySem.F.entry_tuple_add (PySem.F.args_tuple_add_2 _ _)
   (tuple_addW1 t b vs.toArray ws.toArray n n2 dd dd2 sl sl2 (by simpa using hv) (by simp [hw])) ⟨ho,ho2,h1 hw⟩
 ·refine concat_meets ⟨_,ho,rfl⟩ ⟨_,ho2,rfl⟩ noFill_tuple_add seq_tuple_add PySem.F.slot_tuple_add PySem.F.entry_tuple_add (PySem.F.args_tuple_add_2 _ _)
   (tuple_addW2 t b vs.toArray ws.toArray n n2 dd dd2 sl sl2 (by simpa using hv) (by simpa using hw) (by rw [List.size_toArray,List.size_toArray];exact hsz)) ⟨ho,ho2,?_⟩
  rw [e]
  exact h2 hw
def sIx (n d:Nat):Option Int→Nat
 | none=>d
 | some v=>if v < 0 then (v + (n:Int)).toNat else min v.toNat n
theorem sIx_none (n d:Nat):sIx n d none=d:=rfl
theorem sIx_nat (n d k:Nat):sIx n d (some (k:Int))=min k n:=by
 show (if (k:Int) < 0 then ((k:Int) + (n:Int)).toNat else min (k:Int).toNat n)=min k n
 rw [if_neg (by omega),Int.toNat_natCast]
theorem vN (n d:Nat) (hd:d≤n) (o:Option Int):sIx n d o≤n:=by
 cases o with
 | none=>exact hd
 | some v =>
  show (if v < 0 then (v + (n:Int)).toNat else min v.toNat n)≤n
  by_cases hv:v < 0
  ·rw [if_pos hv];omega
  ·rw [if_neg hv];exact Nat.min_le_right _ _
theorem lP (v:Int) (n d:Nat):(if v < 0 then max (v + (n:Int)) 0 else min v (n:Int))=((sIx n d (some v):Nat):Int):=by
 show (if v < 0 then max (v + (n:Int)) 0 else min v (n:Int))=(((if v < 0 then (v + (n:Int)).toNat else min v.toNat n):Nat):Int)
 by_cases hv:v < 0
 ·simp only [if_pos hv];omega
 ·simp only [if_neg hv];omega
theorem jZ (lo hi:Option Int) (n:Nat):Builtin.Slice.sliceAdjust lo hi 1 (n:Int)=(((sIx n 0 lo:Nat):Int),((sIx n n hi:Nat):Int)):=by
 have h1:¬ ((1:Int) < 0):=by omega
 unfold Builtin.Slice.sliceAdjust
 simp only [h1,if_false]
 refine Prod.ext ?_ ?_
 ·cases lo with
  | none=>rfl
  | some v=>exact lP v n 0
 ·cases hi with
  | none=>rfl
  | some v=>exact lP v n n
theorem j6 (i j:Nat):Builtin.Slice.slicePlaces (i:Int) (j:Int) 1=j - i:=by
 unfold Builtin.Slice.slicePlaces
 have h1:(1:Int) > 0:=by omega
 simp only [h1,if_true,Int.ediv_one]
 split<;>omega
theorem fV {v:Value} {o:Option Int} {Q:Option Int→Shared→Prop} (p:IsPart v o) (h:Q o s):wpAny (model prog w) A (Builtin.Slice.slicePartIndex v) Q E s:=by
 cases p with
 | none=>exact slicePart_none h
 | int i t=>exact slicePart_int h
theorem dO {sl:Addr} {vl vu:Value} {lo hi:Option Int} {n:Nat} {Q:Int×Int×Nat→Shared→Prop} (hs:s.heap.IsSliceOf sl vl vu .none) (pl:IsPart vl lo) (pu:IsPart vu hi)
  (h:Q (((sIx n 0 lo:Nat):Int),1,sIx n n hi - sIx n 0 lo) s):wpAny (model prog w) A (Builtin.Slice.sliceApplied (.ref sl) (pure (n:Int))) Q E s:=by
 obtain ⟨os,hos,hcs,hds⟩:=id hs
 unfold Builtin.Slice.sliceApplied Builtin.Slice.sliceFields
 refine wpAny_bind (wpAny_bind (wpAny_field hos hds (x:=vl) rfl (wpAny_bind (wpAny_field hos hds (x:=vu) rfl (wpAny_bind (wpAny_field hos hds (x:=.none) rfl (wpAny_pure ?_)))))))
 refine wpAny_bind (slicePart_none ?_)
 show wpAny _ _ (if ((1:Int) == 0)=true then _ else _) _ _ s
 rw [if_neg (by decide)]
 refine wpAny_bind (fV pl (wpAny_bind (fV pu (wpAny_bind (wpAny_pure ?_)))))
 show wpAny _ _ (match Builtin.Slice.sliceAdjust lo hi 1 (n:Int) with | (lo,hi)=>pure (lo,(1:Int),Builtin.Slice.slicePlaces lo hi 1)) _ _ s
 rw [jZ lo hi n]
 show wpAny _ _ (pure (((sIx n 0 lo:Nat):Int),(1:Int),Builtin.Slice.slicePlaces ((sIx n 0 lo:Nat):Int) ((sIx n n hi:Nat):Int) 1)) _ _ s
 rw [j6]
 exact wpAny_pure h
theorem og (xs:Array Value) (i k:Nat):((List.range k).filterMap fun (m:Nat)=>xs[((i:Int) + (m:Int) * 1).toNat]?).toArray=((xs.toList.drop i).take k).toArray:=by
 have e:(fun (m:Nat)=>xs[((i:Int) + (m:Int) * 1).toNat]?)=fun m=>xs[i + m]?:=by
  funext m
  have:((i:Int) + (m:Int) * 1).toNat=i + m:=by omega
  rw [this]
 rw [e]
 have:=pick_run xs i k
 rw [List.filterMap_map] at this
 have e2:((fun x=>xs[x]?) ∘ fun x=>i + x)=fun m=>xs[i + m]?:=rfl
 rw [e2] at this
 rw [this]
theorem getItem_tuple_cut {t sl:Addr} {items:Array Value} {vl vu:Value} {lo hi:Option Int} {Q:Value→Shared→Prop} (ht:IsTup s.heap t items) (hs:s.heap.IsSliceOf sl vl vu .none) (pl:IsPart vl lo) (pu:IsPart vu hi)
  (hw:¬ (sIx items.size 0 lo=0∧sIx items.size items.size hi=items.size))
  (h:Q (.ref s.heap.objs.size) { s with heap:=s.heap.push { cls:=.type "tuple",data:=.seq ((items.toList.drop (sIx items.size 0 lo)).take (sIx items.size items.size hi - sIx items.size 0 lo)).toArray } })
  (hsz:items.size≤sizeLine):wpAny (model prog w) A (getItem (.ref t) (.ref sl)) Q E s:=by
 have htake:sizeOk (.seq ((items.toList.drop (sIx items.size 0 lo)).take (sIx items.size items.size hi - sIx items.size 0 lo)).toArray):=by
  show ((items.toList.drop (sIx items.size 0 lo)).take (sIx items.size items.size hi - sIx items.size 0 lo)).toArray.size≤sizeLine
  rw [List.size_toArray,List.length_take,List.length_drop,Array.length_toList]
  omega
 have hj:sIx items.size items.size hi≤items.size:=vN _ _ (Nat.le_refl _) hi
 obtain ⟨os,hos,hcs,hds⟩:=id hs
 have hTs:s.TypeIs (.ref sl) "slice":=⟨os,hos,hcs⟩
 unfold getItem
 try with_reducible refine wpAny_holding ?_
 first | refine wpAny_bind (wpAny_pure ?_) | skip
 refine wpAny_bind (wpAny_sequenceKey ht.typeIs (by decide) ?_)
 refine wpAny_bind (wpAny_callSpecial?_slot (name:=Str.ofString "__getitem__") ht.typeIs PyProof.Rows.slot_tuple_getitem
  (wpAny_call_entry PyProof.Rows.slot_tuple_getitem ht.typeIs entry_tuple_getitem ?_ (args_tuple_getitem _ _)))
 show wpAny _ _ (Builtin.Tuple.tupleItemsOf (.ref t) >>= _) _ _ s
 refine wpAny_bind (tupleItemsOf_ ht ?_)
 refine wpAny_bind (wpAny_typeOf hTs ?_)
 rw [if_pos (by decide)]
 refine wpAny_bind (dO hs pl pu ?_)
 have hno:¬ ((((sIx items.size 0 lo:Nat):Int) == 0 && (1:Int) == 1 && (sIx items.size items.size hi - sIx items.size 0 lo) == items.size)=true):=by
  intro q
  rw [Bool.and_eq_true,Bool.and_eq_true] at q
  have q1:((sIx items.size 0 lo:Nat):Int)=0:=eq_of_beq q.1.1
  have q2:sIx items.size items.size hi - sIx items.size 0 lo=items.size:=eq_of_beq q.2
  exact hw ⟨by omega,by omega⟩
 show wpAny _ _ (if (((sIx items.size 0 lo:Nat):Int) == 0 && (1:Int) == 1 && (sIx items.size items.size hi - sIx items.size 0 lo) == items.size)=true then _ else _) _ _ s
 rw [if_neg hno,og]
 first
  | exact wpAny_bind (m:=Builtin.Tuple.tupleExact _) (wpAny_newObj_type (wpAny_pure ⟨_,rfl,wpAny_pure h⟩) htake)
  | exact wpAny_bind (m:=Builtin.Tuple.tupleExact _) (wpAny_newObj_type (wpAny_bind (wpAny_pure (wpAny_pure ⟨_,rfl,wpAny_pure h⟩))) htake)
  | exact wpAny_bind (wpAny_bind (m:=Builtin.Tuple.tupleExact _) (wpAny_newObj_type (wpAny_pure (wpAny_pure ⟨_,rfl,wpAny_pure h⟩)) htake))
  | exact wpAny_bind (wpAny_bind (m:=Builtin.Tuple.tupleExact _) (wpAny_newObj_type (wpAny_pure ⟨_,rfl,wpAny_pure h⟩) htake))
end
end HT
namespace L2
open PySem PySem.Spec PyProof.Rows
abbrev TO:=St→Hp→(Option Int→Hp→Prop)→Prop
def PO (X:Cx) (e:Option Expr) (t:TO):Prop :=
 ∀ (pins:List (Addr×Obj)) (s:Shared) (σ:St) (H:Hp) (Q:Option Int→Hp→Prop),Inv X pins σ H s→t σ H Q →
  wpAny (model X.prog X.w) X.A (evalPart e X.env) (fun u s'=>∃ o H',Inv X pins σ H' s'∧IsPart u o∧Q o H') X.xe s
def rC:TO:=fun _ H Q=>Q none H
def xw (t:TE):TO:=fun σ H Q=>t σ H fun x H1=>∃ i,x=.int i∧Q (some i) H1
section
variable {X:Cx} {e:Expr} {te:TE} {lo hi:Option Expr} {tl th:TO} {pos p2:Pos}
theorem sZ:PO X none rC:=by
 intro pins s σ H Q I h
 rw [evalPart_none]
 exact wpAny_pure ⟨none,H,I,.none,h⟩
theorem rX (h:PE X e te):PO X (some e) (xw te):=by
 intro pins s σ H Q I hw
 rw [evalPart_some]
 refine yT (h pins s σ H _ I hw) fun u s1 ⟨x,H1,I1,r1,q1⟩=>?_
 obtain ⟨i,rfl,q⟩:=q1
 obtain ⟨t,rfl⟩:=r1
 exact⟨some i,H1,I1,.int i t,q⟩
def SlR (X:Cx) (r:V→Option Int→Option Int→Hp→VK→Prop):Prop :=
 ∀ (pins:List (Addr×Obj)) (s:Shared) (σ:St) (H:Hp) (x:V) (v vl vu:Value) (lo hi:Option Int) (sl:Addr) (Q:VK),Inv X pins σ H s→aN x v→s.heap.IsSliceOf sl vl vu .none→IsPart vl lo→IsPart vu hi→r x lo hi H Q →
  ∃ T id,typeLookup (.type T) "__getitem__"=pure (some (.builtin id))∧s.TypeIs v T∧wpAny (model X.prog X.w) X.A (getItem v (.ref sl)) (EP X pins σ Q) X.xe s
theorem SlR.or {r r':V→Option Int→Option Int→Hp→VK→Prop} (h:SlR X r) (h':SlR X r'):SlR X (fun x lo hi H Q=>r x lo hi H Q∨r' x lo hi H Q):=by
 intro pins s σ H x v vl vu lo hi sl Q I rx hs pl pu q
 rcases q with q | q
 ·exact h pins s σ H x v vl vu lo hi sl Q I rx hs pl pu q
 ·exact h' pins s σ H x v vl vu lo hi sl Q I rx hs pl pu q
def tSl (r:V→Option Int→Option Int→Hp→VK→Prop) (te:TE) (tl th:TO):TE:=fun σ H Q=>te σ H fun x H1=>tl σ H1 fun l H2=>th σ H2 fun u H3=>r x l u H3 Q
theorem pf {r:V→Option Int→Option Int→Hp→VK→Prop} (hr:SlR X r) (he:PE X e te) (hl:PO X lo tl) (hu:PO X hi th):PE X (.Subscript e (.Slice lo hi none p2) pos) (tSl r te tl th):=by
 intro pins s σ H Q I h
 refine Subscript_ (yT (he pins s σ H _ I h) fun v s1 ⟨x,H1,I1,r1,q1⟩=>?_)
 refine wpAny_Slice (yT (hl pins s1 σ H1 _ I1 q1) fun vl s2 ⟨l,H2,I2,pl,q2⟩=>yT (hu pins s2 σ H2 _ I2 q2) fun vu s3 ⟨u,H3,I3,pu,q3⟩=>?_)
 rw [evalPart_none]
 refine wpAny_pure ?_
 have I4:Inv X pins σ H3 { s3 with heap:=s3.heap.push { cls:=.type "slice",data:=.fields #[vl,vu,.none] } }:=I3.kept (t':=s3.toks) fun b ob q=>Heap.get?_push_of_some _ q
 obtain ⟨T,id,hT,ht,hg⟩:=hr pins { s3 with heap:=s3.heap.push { cls:=.type "slice",data:=.fields #[vl,vu,.none] } } σ H3 x v vl vu l u s3.heap.objs.size Q I4 r1 (Heap.IsSliceOf.new ..) pl pu q3
 show wpAny (model X.prog X.w) X.A (subscriptTail e (.Slice lo hi none p2) v (.ref s3.heap.objs.size)) (EP X pins σ Q) X.xe { s3 with heap:=s3.heap.push { cls:=.type "slice",data:=.fields #[vl,vu,.none] } }
 exact tail_any (ops:=[.ref s3.heap.objs.size,v]) ht hT hg (by with_unfolding_all rfl)
def mL (xs:List V) (lo hi:Option Int):List V:=(xs.drop (HT.sIx xs.length 0 lo)).take (HT.sIx xs.length xs.length hi - HT.sIx xs.length 0 lo)
theorem eY (xs:List V) (lo hi:Option Int):(mL xs lo hi).length≤xs.length:=by
 unfold mL
 rw [List.length_take,List.length_drop]
 omega
def rSlT (K:PySem.W.Frag):V→Option Int→Option Int→Hp→VK→Prop:=fun x lo hi H Q=>∃ a xs,x=.ref a∧yR K H a xs ∧
 ¬ (HT.sIx xs.length 0 lo=0∧HT.sIx xs.length xs.length hi=xs.length)∧∀ p,H p=none→Q (.ref p) (yV H p (.tup (mL xs lo hi)))
theorem wk:SlR X (rSlT X.K):=by
 intro pins s σ H x v vl vu lo hi sl Q I rx hs pl pu h
 obtain ⟨a,xs,rfl,hx,hw,q⟩:=h
 cases rx
 obtain ⟨its,r,ht,hz⟩:=I.tuple hx
 have hlen:its.toArray.size=xs.length:=by rw [List.size_toArray];exact r.length.symm
 refine⟨"tuple",_,PyProof.Rows.slot_tuple_getitem.lookup,ht.typeIs,?_⟩
 refine HT.getItem_tuple_cut ht hs pl pu (by rw [hlen];exact hw) ?_ (by rw [hlen];exact hz)
 rw [hlen]
 refine⟨.ref s.heap.objs.size,_,I.laid (t':=s.toks) (o:=.tup (mL xs lo hi)) (fun b ob q=>Heap.get?_push_of_some _ q) (Nat.le_refl _) ?_,rfl,q _ (I.hok.fresh (Nat.le_refl _))⟩
 exact⟨Nat.le_trans (eY xs lo hi) hz,_,(r.drop (HT.sIx xs.length 0 lo)).take (HT.sIx xs.length xs.length hi - HT.sIx xs.length 0 lo),IsTup.new _ _⟩
def wV (K:PySem.W.Frag):R2:=fun x y H Q=>∃ a b xs ys,x=.ref a∧y=.ref b∧yR K H a xs∧yR K H b ys∧xs≠[]∧xs.length + ys.length≤sizeLine ∧
 (ys=[]→Q (.ref a) H)∧(ys≠[]→∀ p,H p=none→Q (.ref p) (yV H p (.tup (xs++ys))))
theorem aV.nil_iff {xs:List V} {us:List Value} (r:aV xs us):us=[]↔xs=[]:=by
 cases r with
 | nil=>simp
 | cons _ _=>simp
theorem qR:yK X (binaryOp .Add) (wV X.K):=by
 intro pins s σ H x y v u Q I rx ry h
 obtain ⟨a,b,xs,ys,rfl,rfl,ha,hb,hx,hz,q1,q2⟩:=h
 cases rx
 cases ry
 obtain ⟨its,r1,p1,_⟩:=I.tuple ha
 obtain ⟨its2,r2,p2,_⟩:=I.tuple hb
 refine HT.cat_tup p1 p2 (fun z=>hx (r1.nil_iff.mp z)) (fun z=>⟨.ref a,H,I,rfl,q1 (r2.nil_iff.mp z)⟩) (fun z=>?_) (by rw [← r1.length,← r2.length];exact hz)
 refine⟨.ref s.heap.objs.size,_,I.laid (t':=s.toks) (o:=.tup (xs++ys)) (fun b ob q=>Heap.get?_push_of_some _ q) (Nat.le_refl _) ?_,rfl,q2 (fun w=>z (r2.nil_iff.mpr w)) _ (I.hok.fresh (Nat.le_refl _))⟩
 exact⟨by rw [List.length_append];exact hz,_,r1.append r2,IsTup.new _ _⟩
end
end L2
namespace L2
open PySem PySem.Spec PyProof.Rows
def ixN (n:Nat) (i:Int):Option Nat:=if 0≤i then (if i < n then some i.toNat else none) else if -(n:Int)≤i then some (i + n).toNat else none
def yN {α:Type} (xs:List α) (i:Int):Option α:=(ixN xs.length i).bind fun j=>xs[j]?
theorem lp {n:Nat} {i:Int} {j:Nat} (h:ixN n i=some j):seqIndex? i n=some j∧j < n∧-(n:Int)≤i∧i < n:=by
 unfold ixN at h
 by_cases h0:0≤i
 ·rw [if_pos h0] at h
  by_cases h1:i < n
  ·rw [if_pos h1] at h
   have e:i.toNat=j:=Option.some.inj h
   exact⟨by rw [seqIndex_of h0 h1,e],by omega,by omega,h1⟩
  ·rw [if_neg h1] at h;cases h
 ·rw [if_neg h0] at h
  by_cases h1:-(n:Int)≤i
  ·rw [if_pos h1] at h
   have e:(i + n).toNat=j:=Option.some.inj h
   exact⟨by rw [seqIndex_neg (by omega) h1,e],by omega,h1,by omega⟩
  ·rw [if_neg h1] at h;cases h
theorem i5 {α:Type} {xs:List α} {i:Int} {v:α} (h:yN xs i=some v):∃ j,seqIndex? i xs.length=some j∧xs[j]?=some v∧j < xs.length∧-(xs.length:Int)≤i∧i < xs.length:=by
 unfold yN at h
 cases e:ixN xs.length i with
 | none=>rw [e] at h;cases h
 | some j =>
  rw [e] at h
  obtain ⟨h1,h2,h3,h4⟩:=lp e
  exact⟨j,h1,h,h2,h3,h4⟩
theorem oR {α:Type} (xs:List α) (v:α):yN (xs++[v]) (-1)=some v:=by
 have hl:(xs++[v]).length=xs.length + 1:=by simp
 have e:ixN (xs++[v]).length (-1)=some xs.length:=by
  unfold ixN
  rw [hl,if_neg (by decide),if_pos (by omega)]
  congr 1
  omega
 unfold yN
 rw [e]
 show (xs++[v])[xs.length]?=some v
 simp
def jj (b:Expr):Prop:=∀ o i,subscripted b false o i=operate [o,i] (getItem o i)
def IxR (X:Cx) (r:R2):Prop :=
 ∀ (value slice:Expr) (pins:List (Addr×Obj)) (s:Shared) (σ:St) (H:Hp) (x y:V) (v u:Value) (Q:VK),Inv X pins σ H s→aN x v→aN y u→r x y H Q →
  subscripted slice false v u=operate [v,u] (getItem v u)→wpAny (model X.prog X.w) X.A (subscriptTail value slice v u) (EP X pins σ Q) X.xe s
def MtR (X:Cx) (id:String) (r:V→List V→Hp→VK→Prop):Prop :=
 ∀ (pins:List (Addr×Obj)) (s:Shared) (σ:St) (H:Hp) (x:V) (xs:List V) (v:Value) (us:List Value) (Q:VK),Inv X pins σ H s→aN x v→aV xs us→r x xs H Q →
  wpAny (model X.prog X.w) X.A (call (.builtin id) (v :: us)) (EP X pins σ Q) X.xe s
section
variable {X:Cx} {a b:Expr} {ta tb:TE} {pos:Pos}
theorem IxR.or {r r':R2} (h:IxR X r) (h':IxR X r'):IxR X (fun x y H Q=>r x y H Q∨r' x y H Q):=by
 intro value slice pins s σ H x y v u Q I rx ry q hs
 rcases q with q | q
 ·exact h value slice pins s σ H x y v u Q I rx ry q hs
 ·exact h' value slice pins s σ H x y v u Q I rx ry q hs
theorem wa {r:R2} (hr:IxR X r) (ha:PE X a ta) (hb:PE X b tb) (hs:jj b):PE X (.Subscript a b pos) (tOp r ta tb):=by
 intro pins s σ H Q I h
 exact Subscript_ (binT ha hb I h fun v u s2 x y H2 I2 rx ry q=>hr a b pins s2 σ H2 x y v u Q I2 rx ry q (hs _ _))
def rIxL (K:PySem.W.Frag):R2:=fun x y H Q=>∃ p xs i v,x=.ref p∧y=.int i∧yI K H p xs∧yN xs i=some v∧Q v H
def rIxT (K:PySem.W.Frag):R2:=fun x y H Q=>∃ p xs i v,x=.ref p∧y=.int i∧yR K H p xs∧yN xs i=some v∧Q v H
def rIxS:R2:=fun x y H Q=>∃ z i c,x=.str z∧y=.int i∧z.length≤sizeLine∧yN z.cps.toList i=some c∧Q (.str ⟨#[c]⟩) H
theorem ma:IxR X (rIxL X.K):=by
 intro value slice pins s σ H x y v u Q I rx ry h hs
 obtain ⟨p,xs,i,z,rfl,rfl,hq,he,q⟩:=h
 cases rx
 obtain ⟨t,rfl⟩:=ry
 obtain ⟨its,r,pl,hz⟩:=I.list hq
 obtain ⟨j,h1,h2,h3,h4,h5⟩:=i5 he
 obtain ⟨w,ew,rw'⟩:=r.get h2
 have hl:=r.length
 have hn:=hV
 have fin:EP X pins σ Q w s:=⟨z,H,I,rw',q⟩
 by_cases h0:0≤i
 ·have hj:i.toNat=j:=by
   rw [seqIndex_of h0 h5] at h1
   exact Option.some.inj h1
  exact item_listR pl.isList h0 (by omega) (by rw [hj];simpa using ew) fin hs
 ·have hj:(i + (its.toArray.size:Int)).toNat=j:=by
   rw [seqIndex_neg (by omega) h4] at h1
   rw [List.size_toArray,← hl]
   exact Option.some.inj h1
  exact subscriptTail_builtinR (x:=w) pl.isList.typeIs slot_list_getitem.lookup
   (wpAny_getItem_list_neg (Q:=fun r s'=>r=w∧EP X pins σ Q r s') pl.isList (by omega) (by rw [List.size_toArray]<;>omega) (by omega) (by rw [hj];simpa using ew) ⟨rfl,fin⟩) hs
theorem vi:IxR X (rIxT X.K):=by
 intro value slice pins s σ H x y v u Q I rx ry h hs
 obtain ⟨p,xs,i,z,rfl,rfl,hq,he,q⟩:=h
 cases rx
 obtain ⟨t,rfl⟩:=ry
 obtain ⟨its,r,pl,hz⟩:=I.tuple hq
 obtain ⟨j,h1,h2,h3,h4,h5⟩:=i5 he
 obtain ⟨w,ew,rw'⟩:=r.get h2
 have hl:=r.length
 have hn:=hV
 have fin:EP X pins σ Q w s:=⟨z,H,I,rw',q⟩
 exact subscriptTail_builtinR (x:=w) pl.typeIs slot_tuple_getitem.lookup
  (getItem_tuple (j:=j) (Q:=fun r s'=>r=w∧EP X pins σ Q r s') pl (by omega) (by omega) (by rw [List.size_toArray,← hl];exact h1) (by simpa using ew) ⟨rfl,fin⟩) hs
theorem uR:IxR X rIxS:=by
 intro value slice pins s σ H x y v u Q I rx ry h hs
 obtain ⟨z,i,c,rfl,rfl,hz,he,q⟩:=h
 obtain ⟨t,rfl⟩:=rx
 obtain ⟨t',rfl⟩:=ry
 obtain ⟨j,h1,h2,h3,h4,h5⟩:=i5 he
 have hl:z.cps.toList.length=z.length:=by simp [Str.length]
 rw [hl] at h1 h4 h5
 have hn:=hV
 exact tail_any (typeIs_str s z t) slot_str_getitem.lookup (getItem_str (c:=c) (by
  have e1:decide (i < -(2 ^ 63:Int))=false:=decide_eq_false (by omega)
  have e2:decide (i ≥ 2 ^ 63)=false:=decide_eq_false (by omega)
  rw [e1,e2,Bool.or_false]) (by rw [h1];simpa using h2) ⟨.str ⟨#[c]⟩,H,I.tok _,⟨_,rfl⟩,q⟩) hs
def rIx (K:PySem.W.Frag):R2:=fun x y H Q=>rIxL K x y H Q∨rIxT K x y H Q∨rIxS x y H Q
theorem v6:IxR X (rIx X.K):=ma.or (vi.or uR)
theorem kr (its:List Value) (n j:Nat) (u:Value):Obj.mapSeq (·.setIfInBounds j u) { cls:=.type "list",data:=.seq its.toArray n }={ cls:=.type "list",data:=.seq (its.set j u).toArray n }:=by
 simp [Obj.mapSeq]
theorem Inv.lst {pins:List (Addr×Obj)} {σ:St} {H:Hp} {s:Shared} {p:Addr} {xs:List V} (I:Inv X pins σ H s) (h:H p=some (.lst xs)) :
  ∃ (its:List Value) (n:Nat),aV xs its∧s.heap.get? p=some { cls:=.type "list",data:=.seq its.toArray n }∧xs.length≤sizeLine:=by
 obtain ⟨z,its,n,r,e⟩:=I.hok p _ h
 exact⟨its,n,r,e,z⟩
theorem Inv.lstUpd {pins:List (Addr×Obj)} {σ:St} {H:Hp} {s:Shared} {p:Addr} {xs ys:List V} {its its':List Value} {n n':Nat} {f:Obj→Obj} (I:Inv X pins σ H s) (h:H p=some (.lst xs))
  (ho:s.heap.get? p=some { cls:=.type "list",data:=.seq its.toArray n }) (hf:f { cls:=.type "list",data:=.seq its.toArray n }={ cls:=.type "list",data:=.seq its'.toArray n' }) (r:aV ys its') (hz:ys.length≤sizeLine) (t:Nat) :
  Inv X pins σ (yV H p (.lst ys)) { s with heap:=s.heap.update p f,toks:=t }:=by
 have e:(s.heap.update p f).get? p=some { cls:=.type "list",data:=.seq its'.toArray n' }:=by
  rw [Heap.get?_update_self f ho (by rw [hf]<;>rfl),hf]
 refine I.write (x:=p) (e:=p) (by rw [h];trivial) (.inl rfl) (fun b u hb q=>(Heap.get?_update_other _ _ (Ne.symm hb)).trans q) ⟨_,e⟩ ?_
 exact⟨hz,its',n',r,e⟩
def yB:V→V→V→Hp→(Hp→Prop)→Prop:=fun o i v H Q=>∃ p xs k j,o=.ref p∧i=.int k∧H p=some (.lst xs)∧ixN xs.length k=some j∧Q (yV H p (.lst (xs.set j v)))
theorem oG:PSet X yB:=by
 intro pins s σ H o i v ov iv u Q I ro ri rv h
 obtain ⟨p,xs,k,j,rfl,rfl,hp,hj,q⟩:=h
 cases ro
 obtain ⟨t,rfl⟩:=ri
 obtain ⟨its,n,r,ho,hz⟩:=I.lst hp
 obtain ⟨h1,h2,h3,h4⟩:=lp hj
 have hl:=r.length
 have hn:=hV
 have I':Inv X pins σ (yV H p (.lst (xs.set j v))) { s with heap:=s.heap.update p (Obj.mapSeq (·.setIfInBounds j u)) } :=
  I.lstUpd hp ho (kr its n j u) (r.set rv j) (by rw [List.length_set];exact hz) s.toks
 by_cases h0:0≤k
 ·have hk:k.toNat=j:=by
   rw [seqIndex_of h0 h4] at h1
   exact Option.some.inj h1
  exact PySem.W.ki_setAt ho h0 (by omega) (by rw [List.size_toArray,← hl];exact h4) (by rw [hk];exact⟨_,I',q⟩)
 ·have hk:(k + (its.toArray.size:Int)).toNat=j:=by
   rw [seqIndex_neg (by omega) h3] at h1
   rw [List.size_toArray,← hl]
   exact Option.some.inj h1
  exact PySem.W.ki_setBack ho (by omega) (by rw [List.size_toArray,← hl];exact h3) (by omega) (by rw [hk];exact⟨_,I',q⟩)
theorem gO (lo hi:Option Int) (n:Nat):(sliceBounds lo hi none n).1=((HT.sIx n 0 lo:Nat):Int)∧(sliceBounds lo hi none n).2.1=((HT.sIx n n hi:Nat):Int)∧(sliceBounds lo hi none n).2.2=1:=by
 refine⟨?_,?_,rfl⟩
 ·cases lo with
  | none=>simp [sliceBounds,HT.sIx]
  | some i =>
   simp only [sliceBounds,HT.sIx,Option.getD_none,show (1:Int) > 0 by decide,if_true]
   by_cases h:i < 0
   ·simp only [h,if_true]<;>omega
   ·simp only [h,if_false]<;>omega
 ·cases hi with
  | none=>simp [sliceBounds,HT.sIx]
  | some i =>
   simp only [sliceBounds,HT.sIx,Option.getD_none,show (1:Int) > 0 by decide,if_true]
   by_cases h:i < 0
   ·simp only [h,if_true]<;>omega
   ·simp only [h,if_false]<;>omega
theorem gf (its:List Value) (lo hi:Option Int):slicePick its.toArray lo hi none=((its.drop (HT.sIx its.length 0 lo)).take (HT.sIx its.length its.length hi - HT.sIx its.length 0 lo)).toArray:=by
 obtain ⟨h1,h2,h3⟩:=gO lo hi its.toArray.size
 unfold slicePick
 rw [h1,h2,h3]
 simp only [sliceRange_one,pick_run,List.size_toArray]<;>rfl
def rSlL (K:PySem.W.Frag):V→Option Int→Option Int→Hp→VK→Prop:=fun x lo hi H Q=>∃ a xs,x=.ref a∧yI K H a xs∧∀ p,H p=none→Q (.ref p) (yV H p (.lst (mL xs lo hi)))
theorem rD:SlR X (rSlL X.K):=by
 intro pins s σ H x v vl vu lo hi sl Q I rx hs pl pu h
 obtain ⟨a,xs,rfl,hx,q⟩:=h
 cases rx
 obtain ⟨its,r,ht,hz⟩:=I.list hx
 have hlen:=r.length
 refine⟨"list",_,slot_list_getitem.lookup,ht.isList.typeIs,?_⟩
 refine wpAny_getItem_list_slice ht.isList hs pl pu .none (by simp) ?_ (by rw [List.size_toArray]<;>omega)
 rw [gf,← hlen]
 refine⟨.ref s.heap.objs.size,_,I.laid (t':=s.toks) (o:=.lst (mL xs lo hi)) (fun b ob q=>Heap.get?_push_of_some _ q) (Nat.le_refl _) ?_,rfl,q _ (I.hok.fresh (Nat.le_refl _))⟩
 exact⟨Nat.le_trans (eY xs lo hi) hz,_,0,(r.drop (HT.sIx xs.length 0 lo)).take (HT.sIx xs.length xs.length hi - HT.sIx xs.length 0 lo),Heap.get?_push_size _ rfl⟩
def uv:V→Bool
 | .non=>true
 | .bl _=>true
 | .int _=>true
 | .str _=>true
 | _=>false
def eqV:V→V→Bool
 | .non,.non=>true
 | .bl a,.bl b=>a == b
 | .bl a,.int b=>(if a then 1 else 0) == b
 | .int a,.bl b=>a == (if b then 1 else 0)
 | .int a,.int b=>a == b
 | .str a,.str b=>a == b
 | _,_=>false
theorem jT {A:Around} {s:Shared} {y x:V} {u v:Value} (ry:aN y u) (rx:aN x v) (fy:uv y=true) (fx:uv x=true):SeqAt.EqAt A s u v (eqV y x):=by
 cases y with
 | non =>
  cases ry
  cases x with
  | non=>cases rx;exact SeqAt.EqAt.same _
  | bl b=>cases rx;exact SeqAt.EqAt.none_bool b
  | int b=>obtain ⟨t,rfl⟩:=rx;exact SeqAt.EqAt.none_int b t
  | str b=>obtain ⟨t,rfl⟩:=rx;exact SeqAt.EqAt.none_str b t
  | _=>exact absurd (show false=true from fx) Bool.false_ne_true
 | bl a =>
  cases ry
  cases x with
  | non=>cases rx;exact SeqAt.EqAt.bool_none a
  | bl b=>cases rx;exact SeqAt.EqAt.bool_bool a b
  | int b=>obtain ⟨t,rfl⟩:=rx;exact SeqAt.EqAt.bool_int a b t
  | str b=>obtain ⟨t,rfl⟩:=rx;exact SeqAt.EqAt.bool_str a b t
  | _=>exact absurd (show false=true from fx) Bool.false_ne_true
 | int a =>
  obtain ⟨t',rfl⟩:=ry
  cases x with
  | non=>cases rx;exact SeqAt.EqAt.int_none a t'
  | bl b=>cases rx;exact SeqAt.EqAt.int_bool a t' b
  | int b=>obtain ⟨t,rfl⟩:=rx;exact SeqAt.EqAt.int_int a t' b t
  | str b=>obtain ⟨t,rfl⟩:=rx;exact SeqAt.EqAt.int_str a t' b t
  | _=>exact absurd (show false=true from fx) Bool.false_ne_true
 | str a =>
  obtain ⟨t',rfl⟩:=ry
  cases x with
  | non=>cases rx;exact SeqAt.EqAt.str_none a t'
  | bl b=>cases rx;exact SeqAt.EqAt.str_bool a t' b
  | int b=>obtain ⟨t,rfl⟩:=rx;exact SeqAt.EqAt.str_int a t' b t
  | str b=>obtain ⟨t,rfl⟩:=rx;exact SeqAt.EqAt.str_str a t' b t
  | _=>exact absurd (show false=true from fx) Bool.false_ne_true
 | _=>exact absurd (show false=true from fy) Bool.false_ne_true
theorem dN:bI X (.builtin "len") (fun xs H Q=>∃ p ys,xs=[.ref p]∧(yI X.K H p ys∨yR X.K H p ys)∧Q (.int ys.length) H):=by
 intro pins s σ H xs us Q I r h
 obtain ⟨p,ys,rfl,hq,q⟩:=h
 obtain ⟨u,rfl,rx⟩:=fK r
 cases rx
 have hn:=hV
 rcases hq with hq | hq
 ·obtain ⟨its,r',pl,hz⟩:=I.list hq
  have hlen:=r'.length
  exact Calls.call_len_list pl.isList (by simp only [List.size_toArray]<;>omega) ⟨.int ys.length,H,I.tok _,⟨s.toks + 1,by rw [List.size_toArray,hlen]⟩,q⟩
 ·obtain ⟨its,r',pl,hz⟩:=I.tuple hq
  have hlen:=r'.length
  exact len_tuple pl (by simp only [List.size_toArray]<;>omega) ⟨.int ys.length,H,I.tok _,⟨s.toks + 1,by rw [List.size_toArray,hlen]⟩,q⟩
theorem gE:bI X (.type "tuple") (fun xs H Q=>∃ p ys,xs=[.ref p]∧((yI X.K H p ys∧∀ l,H l=none→Q (.ref l) (yV H l (.tup ys)))∨(yR X.K H p ys∧Q (.ref p) H))):=by
 intro pins s σ H xs us Q I r h
 obtain ⟨p,ys,rfl,h⟩:=h
 obtain ⟨u,rfl,rx⟩:=fK r
 cases rx
 rcases h with ⟨hq,q⟩ | ⟨hq,q⟩
 ·obtain ⟨its,r',pl,hz⟩:=I.list hq
  have hlen:=r'.length
  refine call_tuple_list pl.isList (fun h' kp=>?_) (by simp only [List.size_toArray]<;>omega)
  have I1:Inv X pins σ H { s with heap:=h' }:=I.kept (t':=s.toks) kp
  have I2:Inv X pins σ (yV H h'.objs.size (.tup ys)) { s with heap:=h'.push { cls:=.type "tuple",data:=.seq its.toArray } } :=
   I1.laid (t':=s.toks) (fun b o e=>Heap.get?_push_of_some _ e) (Nat.le_refl _) (show bd X.prog X.w _ _ _ (.tup ys) from ⟨hz,its,r',IsTup.new _ _⟩)
  exact⟨.ref h'.objs.size,_,I2,rfl,q _ (I1.hok.fresh (Nat.le_refl _))⟩
 ·obtain ⟨its,r',pl,hz⟩:=I.tuple hq
  exact call_tuple_same pl ⟨.ref p,H,I,rfl,q⟩
def tyV (K:PySem.W.Frag) (T:String) (x:V) (H:Hp):Prop:=match x with
 | .str _=>T="str"
 | .int _=>T="int"
 | .ref p=>(T="list"∧∃ xs,yI K H p xs)∨(T="tuple"∧∃ o,K.lookup p=some o∧o.cls=.type "tuple"∧o.dict=none) ∨
   (T="dict"∧((∃ kvs,H p=some (.dK kvs))∨∃ kvs,H p=some (.dT kvs)))∨(T="set"∧∃ S n,H p=some (.set S n))
 | _=>False
theorem pp {pins:List (Addr×Obj)} {σ:St} {H:Hp} {s:Shared} {T:String} {x:V} {v:Value} (I:Inv X pins σ H s) (r:aN x v) (ty:tyV X.K T x H) :
  s.TypeIs v T∧∀ a,v=.ref a→∃ ob,s.heap.get? a=some ob∧ob.dict=none:=by
 cases x with
 | str z =>
  obtain ⟨t,rfl⟩:=r
  cases (show T="str" from ty)
  exact⟨typeIs_str s z t,fun _ e=>nomatch e⟩
 | int i =>
  obtain ⟨t,rfl⟩:=r
  cases (show T="int" from ty)
  exact⟨typeIs_int s i t,fun _ e=>nomatch e⟩
 | ref p =>
  cases r
  rcases ty with ⟨rfl,xs,hq⟩ | ⟨rfl,o,hk,hc,hd⟩ | ⟨rfl,hk⟩ | ⟨rfl,S,n,hk⟩
  ·obtain ⟨its,_,pl,_⟩:=I.list hq
   refine⟨pl.isList.typeIs,fun a e=>?_⟩
   cases e
   obtain ⟨o,n,e,c,hd,_⟩:=pl
   exact⟨o,e,hd⟩
  ·refine⟨⟨o,I.kIn p o hk,hc⟩,fun a e=>?_⟩
   cases e
   exact⟨o,I.kIn _ o hk,hd⟩
  ·have z:∃ o,s.heap.get? p=some o∧o.ExactDict:=by
    rcases hk with ⟨kvs,hk⟩ | ⟨kvs,hk⟩
    ·obtain ⟨_,_,_,_,o,_,_,e,ex,_⟩:=I.hok p _ hk
     exact⟨o,e,ex⟩
    ·obtain ⟨_,_,_,_,o,_,_,e,ex,_⟩:=I.hok p _ hk
     exact⟨o,e,ex⟩
   obtain ⟨o,e,ex⟩:=z
   refine⟨⟨o,e,ex.1⟩,fun a e2=>?_⟩
   cases e2
   exact⟨o,e,ex.2.1⟩
  ·obtain ⟨o,_,_,_,e,ex,_⟩:=I.hok p _ hk
   refine⟨⟨o,e,ex.1⟩,fun a e2=>?_⟩
   cases e2
   exact⟨o,e,ex.2.1⟩
 | _=>exact False.elim ty
def tBM0 (K:PySem.W.Frag) (T:String) (r:V→List V→Hp→VK→Prop) (to:TE):TE:=fun σ H Q=>to σ H fun x H1=>tyV K T x H1∧r x [] H1 Q
def tBM (K:PySem.W.Frag) (T:String) (r:V→List V→Hp→VK→Prop) (to:TE) (t:TA):TE:=fun σ H Q=>to σ H fun x H1=>tyV K T x H1∧t σ H1 fun xs H2=>r x xs H2 Q
variable {o e:Expr} {es:List Expr} {to:TE} {t:TA} {name:Str} {apos cpos:Pos} {T id:String} {r:V→List V→Hp→VK→Prop}
theorem ul (pa:PlainAttrs T) (slot:Slot T name id) (hty:typeOf (.builtin id)=pure (.type "method_descriptor")) (hm:MtR X id r) (ho:PE X o to)
  (hbase:attributeBase o name X.env (eval o X.env)=eval o X.env:=by rfl) (hline:(apos.endLine == cpos.line)=true:=by rfl):PE X (.Call (.Attribute o name apos) [] [] cpos) (tBM0 X.K T r to):=by
 intro pins s σ H Q I h
 refine wpAny_Call_method0_late hbase hline (yT (ho pins s σ H _ I h) fun v s1 ⟨x,H1,I1,r1,ty,q1⟩=>?_)
 obtain ⟨h1,h2⟩:=pp I1 r1 ty
 exact⟨T,id,pa,slot,hty,h1,h2,Calls.callWith_builtin rfl (PySem.evalArgs_none (hm pins s1 σ H1 x [] v [] Q I1 r1 .nil q1))⟩
theorem yp (pa:PlainAttrs T) (slot:Slot T name id) (hty:typeOf (.builtin id)=pure (.type "method_descriptor")) (hm:MtR X id r) (ho:PE X o to) (ha:PA X (e :: es) t)
    (hbase:attributeBase o name X.env (eval o X.env)=eval o X.env:=by rfl)
    (hfew:((backTo cpos (starEach (e :: es) X.env)).all (fun x=>!x.1) && (backToKw cpos (keywordEach [] X.env)).all (fun x=>x.1.isSome)
      && decide ((e :: es).length + ([]:List Keyword).length + (if ([]:List Keyword).isEmpty then 0 else 1) < 30))=true:=by rfl)
    (hline:(apos.endLine == cpos.line)=true:=by rfl) (hs:starEach (e :: es) X.env=(false,eval e X.env) :: starEach es X.env:=by rfl) (hplain:(backTo cpos (starEach es X.env)).any (·.1)=false:=by rfl) :
    PE X (.Call (.Attribute o name apos) (e :: es) [] cpos) (tBM X.K T r to t):=by
  intro pins s σ H Q I h
  refine wpAny_Call_method_late hbase hfew hline rfl (yT (ho pins s σ H _ I h) fun v s1 ⟨x,H1,I1,r1,ty,q1⟩=>?_)
  obtain ⟨h1,h2⟩:=pp I1 r1 ty
  refine⟨T,id,pa,slot,hty,h1,h2,?_⟩
  have hA:=ha cpos pins s1 σ H1 _ I1 q1
  rw [hs] at hA ⊢
  refine Calls.callWith_builtin (by show (false || (backTo cpos (starEach es X.env)).any (·.1))=false;rw [hplain]<;>rfl) (Calls.evalArgs_plain ?_)
  exact yT hA fun us s2 ⟨vs,H2,I2,r2,q2⟩=>hm pins s2 σ H2 x vs v us Q I2 r1 r2 q2
end
end L2
namespace L2
open PySem PySem.Spec PyProof.Rows
def MtM (X:Cx) (id:String) (r:V→List V→Hp→VK→Prop):Prop :=
 ∀ (pins:List (Addr×Obj)) (s:Shared) (σ:St) (H:Hp) (x:V) (xs:List V) (v:Value) (us:List Value) (Q:VK),Inv X pins σ H s→aN x v→aV xs us→r x xs H Q →
  wpAny (model X.prog X.w) X.A (call (.builtin id) (v :: us)) (EP X pins σ Q) X.xe s
theorem aV.one:∀ {x:V} {us:List Value},aV [x] us→∃ u,us=[u]∧aN x u
 | _,_,.cons r .nil=>⟨_,rfl,r⟩
theorem aV.zero:∀ {us:List Value},aV [] us→us=[]
 | _,.nil=>rfl
theorem aV.dropLast {xs:List V} {us:List Value} (h:aV xs us):aV xs.dropLast us.dropLast:=by
 induction h with
 | nil=>exact .nil
 | cons r t ih =>
  cases t with
  | nil=>exact .nil
  | cons q t'=>exact .cons r ih
theorem kC {α:Type} (l:List α):l.eraseIdx (l.length - 1)=l.dropLast:=by
 induction l with
 | nil=>rfl
 | cons a r ih =>
  cases r with
  | nil=>rfl
  | cons b r =>
   have e:(a :: b :: r).length - 1=((b :: r).length - 1) + 1:=by
    have h1:(a :: b :: r).length=r.length + 2:=rfl
    have h2:(b :: r).length=r.length + 1:=rfl
    omega
   rw [e,List.eraseIdx_cons_succ,ih]
   all_goals rfl
section
variable {X:Cx} {pins:List (Addr×Obj)} {σ:St} {H:Hp} {s:Shared} {l b:Addr} {xs ys zs:List V}
theorem Inv.lset {its its':List Value} {n:Nat} {f:Array Value→Array Value} {t':Nat} (I:Inv X pins σ H s) (hH:H l=some (.lst xs))
  (e:s.heap.get? l=some { cls:=.type "list",data:=.seq its.toArray n }) (hf:f its.toArray=its'.toArray) (hv:aV ys its') (hz:ys.length≤sizeLine) :
  Inv X pins σ (yV H l (.lst ys)) { s with heap:=s.heap.update l (Obj.mapSeq f),toks:=t' }:=by
 have q:=PySem.IsL.update e f
 rw [hf] at q
 refine I.write (x:=l) (e:=l) (by rw [hH];exact trivial) (.inl rfl) (fun b' u hb hu=>(Heap.get?_update_other s.heap (Obj.mapSeq f) (Ne.symm hb)).trans hu) ⟨_,q⟩ ?_
 exact⟨hz,its',_,hv,q⟩
theorem Inv.lnew {its:List Value} {t':Nat} (I:Inv X pins σ H s) (hv:aV ys its) (hz:ys.length≤sizeLine) :
  Inv X pins σ (yV H s.heap.objs.size (.lst ys)) { s with heap:=s.heap.push { cls:=.type "list",data:=.seq its.toArray },toks:=t' } :=
 I.laid (fun _ _ q=>Heap.get?_push_of_some _ q) (Nat.le_refl _) ⟨hz,its,0,hv,Heap.get?_push_size _ rfl⟩
theorem Inv.fresh (I:Inv X pins σ H s):H s.heap.objs.size=none:=I.hok.fresh (Nat.le_refl _)
theorem Inv.lstM (I:Inv X pins σ H s) (hH:H l=some (.lst xs)):xs.length≤sizeLine∧∃ (its:List Value) (n:Nat),aV xs its∧xs.length=its.length∧s.heap.get? l=some { cls:=.type "list",data:=.seq its.toArray n }:=by
 obtain ⟨z,its,n,r,e⟩:=I.hok l _ hH
 exact⟨z,its,n,r,r.length,e⟩
theorem pc {n:Nat} (h:n≤sizeLine):Builtin.List.listTooLong n=false:=by
 unfold Builtin.List.listTooLong
 exact decide_eq_false (by omega)
end
section
variable {X:Cx}
def tH:V→List V→Hp→VK→Prop:=fun x vs H Q=>∃ l xs y,x=.ref l∧vs=[y]∧H l=some (.lst xs)∧xs.length < sizeLine∧Q .non (yV H l (.lst (xs++[y])))
theorem gT:MtM X "list.append" tH:=by
 intro pins s σ H x vs v us Q I rx rv h
 obtain ⟨l,xs,y,rfl,rfl,hH,hz,q⟩:=h
 cases rx
 obtain ⟨u,rfl,ru⟩:=rv.one
 obtain ⟨z,its,n,r,hl,e⟩:=I.lstM hH
 refine call_meets F.slot_list_append ⟨_,e,rfl⟩ F.entry_list_append (F.args_list_append_2 _ _) (PySem.list_append l its.toArray n u (by rw [List.size_toArray];omega)) ⟨e,?_⟩
 refine⟨.non,_,I.lset (its':=its++[u]) hH e (by simp) (r.append (.cons ru .nil)) ?_,rfl,q⟩
 rw [List.length_append,List.length_singleton]
 omega
def tj:V→List V→Hp→VK→Prop:=fun x vs H Q=>∃ l b xs zs,x=.ref l∧vs=[.ref b]∧H l=some (.lst xs)∧H b=some (.lst zs)∧xs.length + zs.length≤sizeLine∧Q .non (yV H l (.lst (xs++zs)))
theorem mt_extend:MtM X "list.extend" tj:=by
 intro pins s σ H x vs v us Q I rx rv h
 obtain ⟨l,b,xs,zs,rfl,rfl,hH,hB,hz,q⟩:=h
 cases rx
 obtain ⟨u,rfl,ru⟩:=rv.one
 cases ru
 obtain ⟨z,its,n,r,hl,e⟩:=I.lstM hH
 obtain ⟨z2,its2,n2,r2,hl2,e2⟩:=I.lstM hB
 have hsz:its.toArray.size + its2.toArray.size≤sizeLine:=by rw [List.size_toArray,List.size_toArray];omega
 have hlong:¬ (!its.toArray.isEmpty && Builtin.List.listTooLong (its.toArray.size + its2.toArray.size))=true:=by
  rw [pc hsz,Bool.and_false]
  exact Bool.false_ne_true
 refine call_meets F.slot_list_extend ⟨_,e,rfl⟩ F.entry_list_extend (F.args_list_extend_2 _ _)
  (AutoSeq1.list_extend_list_list_0 l its.toArray n b its2.toArray n2 hlong (by rw [List.size_toArray];omega) (by omega)) ⟨e,e2,?_⟩
 refine⟨.non,_,I.lset (its':=its++its2) hH e (by simp) (r.append r2) ?_,rfl,q⟩
 rw [List.length_append]
 omega
def rPop:V→List V→Hp→VK→Prop:=fun x vs H Q=>∃ l xs y,x=.ref l∧vs=[]∧H l=some (.lst xs)∧xs[xs.length - 1]?=some y∧Q y (yV H l (.lst xs.dropLast))
theorem uK:MtM X "list.pop" rPop:=by
 intro pins s σ H x vs v us Q I rx rv h
 obtain ⟨l,xs,y,rfl,rfl,hH,hy,q⟩:=h
 cases rx
 have hus:=rv.zero
 subst hus
 obtain ⟨z,its,n,r,hl,e⟩:=I.lstM hH
 obtain ⟨u,hu,ru⟩:=r.get hy
 have hy':its.toArray[its.toArray.size - 1]?=some u:=by
  show its.toArray[its.length - 1]?=some u
  rw [← Array.getElem?_toList,← hl]
  exact hu
 refine call_meets F.slot_list_pop ⟨_,e,rfl⟩ F.entry_list_pop (F.args_list_pop_1 _) (MeetsSeq.list_pop_last l its.toArray n u hy' (by rw [List.size_toArray];omega)) ⟨e,?_⟩
 refine⟨y,_,I.lset (its':=its.dropLast) hH e ?_ r.dropLast ?_,ru,q⟩
 ·show its.toArray.eraseIdxIfInBounds (its.toArray.size - 1)=its.dropLast.toArray
  rw [List.size_toArray,List.eraseIdxIfInBounds_toArray,kC]
 ·rw [List.length_dropLast]
  omega
def rCat:R2:=fun x y H Q=>∃ l b xs zs,x=.ref l∧y=.ref b∧H l=some (.lst xs)∧H b=some (.lst zs)∧xs.length + zs.length≤sizeLine∧∀ p,H p=none→Q (.ref p) (yV H p (.lst (xs++zs)))
theorem wC:yK X (binaryOp .Add) rCat:=by
 intro pins s σ H x y v u Q I rx ry h
 obtain ⟨l,b,xs,zs,rfl,rfl,hH,hB,hz,q⟩:=h
 cases rx
 cases ry
 obtain ⟨z,its,n,r,hl,e⟩:=I.lstM hH
 obtain ⟨z2,its2,n2,r2,hl2,e2⟩:=I.lstM hB
 refine PySem.P.add_list e e2 ?_ (by rw [List.size_toArray,List.size_toArray];omega)
 have ea:its.toArray++its2.toArray=(its++its2).toArray:=by simp
 rw [ea]
 exact⟨.ref _,_,I.lnew (t':=s.toks) (r.append r2) (by rw [List.length_append];omega),rfl,q _ I.fresh⟩
end
section
variable {prog:Program} {w:World} {A:Around} {E:Value→Shared→Prop} {s:Shared}
set_option maxRecDepth 100000 in
end
section
variable {X:Cx}
end
end L2
namespace L2
open PySem PySem.Spec PyProof.Rows
section
variable {κ:Type} [DecidableEq κ]
def jV (kvs:List (κ×V)) (k:κ):Option V:=(kvs.find? fun kv=>decide (kv.1=k)).map (·.2)
def g6 (kvs:List (κ×V)) (k:κ) (v:V):List (κ×V) :=
 if (kvs.any fun kv=>decide (kv.1=k))=true then kvs.map (fun kv=>if kv.1=k then (kv.1,v) else kv) else kvs++[(k,v)]
def wv (kvs:List (κ×V)) (k:κ):List (κ×V):=kvs.filter fun kv=>decide (kv.1≠k)
theorem d6 {p:κ×V} {r:List (κ×V)} {k:κ} (e:p.1=k):jV (p :: r) k=some p.2:=by simp [jV,List.find?_cons,e]
theorem d3 {p:κ×V} {r:List (κ×V)} {k:κ} (e:¬ p.1=k):jV (p :: r) k=jV r k:=by simp [jV,List.find?_cons,e]
theorem jv (k:κ):∀ kvs:List (κ×V),(kvs.any fun kv=>decide (kv.1=k))=(jV kvs k).isSome
 | []=>rfl
 | p :: r=>by
  rw [List.any_cons]
  by_cases e:p.1=k
  ·simp only [d6 e,decide_eq_true e,Bool.true_or,Option.isSome_some]
  ·rw [d3 e,decide_eq_false e,Bool.false_or];exact jv k r
theorem cD (kvs:List (κ×V)) (k:κ) (v:V):(g6 kvs k v).length≤kvs.length + 1:=by
 unfold g6
 split
 ·rw [List.length_map];omega
 ·rw [List.length_append,List.length_cons,List.length_nil];omega
theorem jG.isSome_eq {o:Option V} {u:Option Value} (r:jG o u):o.isSome=u.isSome:=by
 cases o with
 | none=>cases u with
  | none=>rfl
  | some _=>exact (show False from r).elim
 | some _=>cases u with
  | none=>exact (show False from r).elim
  | some _=>rfl
theorem jG.getD {o:Option V} {u:Option Value} {d:V} {d':Value} (r:jG o u) (rd:aN d d'):aN (o.getD d) (u.getD d'):=by
 cases o with
 | none=>cases u with
  | none=>exact rd
  | some _=>exact (show False from r).elim
 | some _=>cases u with
  | none=>exact (show False from r).elim
  | some _=>exact r
theorem KV.val {kvs:List (κ×V)} {vs:List (κ×Value)} (r:KV kvs vs) (k:κ):jG (jV kvs k) (valueAt vs k):=by
 unfold KV at r
 induction r with
 | nil=>exact True.intro
 | @cons p q ps qs h t ih =>
  obtain ⟨h1,h2⟩:=h
  by_cases e:p.1=k
  ·have e':q.1=k:=h1.symm.trans e
   have b:valueAt (q :: qs) k=some q.2:=by simp [valueAt,List.find?_cons,e']
   rw [d6 e,b];exact h2
  ·have e':¬ q.1=k:=fun z=>e (h1.trans z)
   have b:valueAt (q :: qs) k=valueAt qs k:=by simp [valueAt,List.find?_cons,e']
   rw [d3 e,b];exact ih
theorem KV.any {kvs:List (κ×V)} {vs:List (κ×Value)} (r:KV kvs vs) (k:κ):(kvs.any fun kv=>decide (kv.1=k))=vs.any fun kv=>decide (kv.1=k):=by
 unfold KV at r
 induction r with
 | nil=>rfl
 | cons h t ih=>rw [List.any_cons,List.any_cons,ih,h.1]
theorem KV.repl {kvs:List (κ×V)} {vs:List (κ×Value)} (r:KV kvs vs) (k:κ) {y:V} {u:Value} (ry:aN y u) :
  KV (kvs.map fun kv=>if kv.1=k then (kv.1,y) else kv) (vs.map fun kv=>if kv.1=k then (kv.1,u) else kv):=by
 unfold KV at r ⊢
 induction r with
 | nil=>exact .nil
 | @cons p q ps qs h t ih =>
  rw [List.map_cons,List.map_cons]
  refine .cons ?_ ih
  obtain ⟨h1,h2⟩:=h
  by_cases e:p.1=k
  ·rw [if_pos e,if_pos (h1.symm.trans e)];exact⟨h1,ry⟩
  ·rw [if_neg e,if_neg (fun z=>e (h1.trans z))];exact⟨h1,h2⟩
theorem KV.put {kvs:List (κ×V)} {vs:List (κ×Value)} (r:KV kvs vs) (k:κ) {y:V} {u:Value} (ry:aN y u):KV (g6 kvs k y) (stored vs k u):=by
 unfold g6 stored
 rw [r.any k]
 by_cases e:(vs.any fun kv=>decide (kv.1=k))=true
 ·rw [if_pos e,if_pos e];exact r.repl k ry
 ·rw [if_neg e,if_neg e];exact Paired.snoc r ⟨rfl,ry⟩
theorem KV.drop {kvs:List (κ×V)} {vs:List (κ×Value)} (r:KV kvs vs) (k:κ):KV (wv kvs k) (without vs k):=by
 unfold KV at r ⊢
 unfold wv without
 induction r with
 | nil=>exact .nil
 | @cons p q ps qs h t ih =>
  obtain ⟨h1,h2⟩:=h
  rw [List.filter_cons,List.filter_cons]
  by_cases e:p.1=k
  ·have a:¬ decide (p.1≠k)=true:=by simp [e]
   have b:¬ decide (q.1≠k)=true:=by simp [h1.symm.trans e]
   rw [if_neg a,if_neg b];exact ih
  ·have e':¬ q.1=k:=fun z=>e (h1.trans z)
   have a:decide (p.1≠k)=true:=by simp [e]
   have b:decide (q.1≠k)=true:=by simp [e']
   rw [if_pos a,if_pos b];exact .cons ⟨h1,h2⟩ ih
theorem KV.keys {kvs:List (κ×V)} {vs:List (κ×Value)} (r:KV kvs vs):kvs.map (·.1)=vs.map (·.1):=by
 unfold KV at r
 induction r with
 | nil=>rfl
 | cons h t ih=>rw [List.map_cons,List.map_cons,ih,h.1]
theorem KV.length {kvs:List (κ×V)} {vs:List (κ×Value)} (r:KV kvs vs):kvs.length=vs.length:=Paired.length r
end
theorem kf {P:Program} {w:World} {k:yL} {u:Value} (r:aN (kV k) u):(aL P w).is k u=true:=by
 cases k with
 | inl i=>obtain ⟨t,e⟩:=(show ∃ t,u=Value.int i t from r);subst e;exact iP P w i t
 | inr x=>obtain ⟨t,e⟩:=(show ∃ t,u=Value.str x t from r);subst e;exact iR P w x t
theorem gZ {P:Program} {w:World}:∀ {ks:List yL} {us:List Value},aV (ks.map kV) us→ItemsAre (aL P w) ks us
 | [],_,r=>by rw [List.map_nil] at r;cases r;exact .nil
 | k :: ks,_,r=>by
  rw [List.map_cons] at r
  cases r with
  | cons h t=>exact .cons (kf h) (gZ t)
abbrev KT (H:Hp):List (List yL×V)→List (List yL×Addr×Value)→Prop:=Paired fun p q=>p.1=q.1∧H q.2.1=some (.tup (p.1.map kV))∧aN p.2 q.2.2
theorem KT.val {H:Hp} {kvs:List (List yL×V)} {xs:List (List yL×Addr×Value)} (r:KT H kvs xs) (k:List yL):jG (jV kvs k) ((atKey xs k).map (·.2)):=by
 induction r with
 | nil=>exact True.intro
 | @cons p q ps qs h t ih =>
  obtain ⟨h1,_,h2⟩:=h
  by_cases e:p.1=k
  ·have e':q.1=k:=h1.symm.trans e
   have b:atKey (q :: qs) k=some q.2:=by simp [atKey,List.find?_cons,e']
   rw [d6 e,b];exact h2
  ·have e':¬ q.1=k:=fun z=>e (h1.trans z)
   have b:atKey (q :: qs) k=atKey qs k:=by simp [atKey,List.find?_cons,e']
   rw [d3 e,b];exact ih
theorem KT.repl {H:Hp} {kvs:List (List yL×V)} {xs:List (List yL×Addr×Value)} (r:KT H kvs xs) (k:List yL) {y:V} {u:Value} (ry:aN y u) :
  KT H (kvs.map fun kv=>if kv.1=k then (kv.1,y) else kv) (xs.map (putAt k u)):=by
 induction r with
 | nil=>exact .nil
 | @cons p q ps qs h t ih =>
  rw [List.map_cons,List.map_cons]
  refine .cons ?_ ih
  obtain ⟨h1,h2,h3⟩:=h
  unfold putAt
  by_cases e:p.1=k
  ·rw [if_pos e,if_pos (h1.symm.trans e)];exact⟨h1,h2,ry⟩
  ·rw [if_neg e,if_neg (fun z=>e (h1.trans z))];exact⟨h1,h2,h3⟩
theorem KT.put {H:Hp} {kvs:List (List yL×V)} {xs:List (List yL×Addr×Value)} (r:KT H kvs xs) (k:List yL) {b:Addr} {y:V} {u:Value} (hb:H b=some (.tup (k.map kV))) (ry:aN y u) :
  KT H (g6 kvs k y) (storedH xs k b u):=by
 have e:(kvs.any fun kv=>decide (kv.1=k))=(atKey xs k).isSome:=by
  rw [jv,(r.val k).isSome_eq,Option.isSome_map]
 unfold g6 storedH
 rw [e]
 by_cases q:(atKey xs k).isSome=true
 ·rw [if_pos q,if_pos q];exact r.repl k ry
 ·rw [if_neg q,if_neg q];exact Paired.snoc r ⟨rfl,hb,ry⟩
theorem KT.keeps {H H':Hp} {kvs:List (List yL×V)} {xs:List (List yL×Addr×Value)} (r:KT H kvs xs) (ht:∀ b ys,H b=some (.tup ys)→H' b=some (.tup ys)):KT H' kvs xs :=
 Paired.mapP r fun _ _ z=>⟨z.1,ht _ _ z.2.1,z.2.2⟩
section
variable {P:Program} {w:World} {H:Hp} {h:Heap} {a:Addr}
theorem wQ {u:HO} (ok:yO P w H h) (e:Rd H a u):bd P w H h a u:=e.ok ok
theorem kd {kvs:List (yL×V)} (ok:yO P w H h) (e:Rd H a (.dK kvs)):kvs.length≤sizeLine∧(a == sysModules)=false∧∃ vs,KV kvs vs∧h.DictOf (aL P w) a vs :=
 show bd P w H h a (.dK kvs) from wQ ok e
theorem ki {kvs:List (yL×V)} (ok:yO P w H h) (e:H a=some (.dK kvs)):kvs.length≤sizeLine∧(a == sysModules)=false∧∃ vs,KV kvs vs∧h.DictOf (aL P w) a vs:=kd ok (.inl e)
theorem gI {ks:List yL} (ok:yO P w H h) (e:H a=some (.tup (ks.map kV))):(tupleKind (aL P w)).is h ks a:=by
 obtain ⟨_,its,r,o,h1,h2,n,h3⟩:=(show bd P w H h a (.tup (ks.map kV)) from ok a _ e)
 exact⟨o,its.toArray,n,h1,h2,h3,by simpa using gZ r⟩
theorem kP {kvs:List (List yL×V)} (ok:yO P w H h) (e:Rd H a (.dT kvs)):kvs.length≤sizeLine∧(a == sysModules)=false ∧
  ∃ xs,KT H kvs xs∧h.DictOfH (tupleKind (aL P w)) a xs:=by
 obtain ⟨z,y,xs,r,o,es,ep,h1,h2,h3,h4,h5⟩:=(show bd P w H h a (.dT kvs) from wQ ok e)
 refine⟨z,y,xs,r,o,es,ep,h1,h2,h3,h4,fun x hx=>?_,h5⟩
 have all:∀ {l:List (List yL×V)} {m:List (List yL×Addr×Value)},KT H l m→∀ x∈m,(tupleKind (aL P w)).is h x.1 x.2.1:=by
  intro l m q
  induction q with
  | nil=>intro x hx;exact nomatch hx
  | @cons p q ps qs hq t ih =>
   intro x hx
   rcases List.mem_cons.mp hx with e | hx
   ·subst e
    exact gI ok (by rw [← hq.1];exact hq.2.1)
   ·exact ih x hx
 exact all r x hx
theorem yx {kvs:List (List yL×V)} (ok:yO P w H h) (e:H a=some (.dT kvs)):kvs.length≤sizeLine∧(a == sysModules)=false ∧
  ∃ xs,KT H kvs xs∧h.DictOfH (tupleKind (aL P w)) a xs:=kP ok (.inl e)
end
def mn (H:Hp) (a:Addr) (y:V) (r:Option V):Prop :=
 (∃ kvs k,Rd H a (.dK kvs)∧y=kV k∧r=jV kvs k)∨∃ kvs k b,Rd H a (.dT kvs)∧y=.ref b∧H b=some (.tup (k.map kV))∧r=jV kvs k
def DPut (H:Hp) (a:Addr) (y v:V) (H':Hp):Prop :=
 (∃ kvs k,H a=some (.dK kvs)∧y=kV k∧kvs.length < sizeLine∧H'=yV H a (.dK (g6 kvs k v))) ∨
 ∃ kvs k b,H a=some (.dT kvs)∧y=.ref b∧H b=some (.tup (k.map kV))∧kvs.length < sizeLine∧H'=yV H a (.dT (g6 kvs k v))
theorem mn.k {H:Hp} {a:Addr} {kvs:List (yL×V)} {k:yL} (e:H a=some (.dK kvs)):mn H a (kV k) (jV kvs k):=.inl ⟨kvs,k,.inl e,rfl,rfl⟩
theorem DPut.k {H:Hp} {a:Addr} {kvs:List (yL×V)} {k:yL} {v:V} (e:H a=some (.dK kvs)) (hl:kvs.length < sizeLine):DPut H a (kV k) v (yV H a (.dK (g6 kvs k v))):=.inl ⟨kvs,k,e,rfl,hl,rfl⟩
section
variable {X:Cx} {pins:List (Addr×Obj)} {σ:St} {H:Hp} {s:Shared} {a:Addr} {y v:V} {u r:Value} {o:Option V} {A:Around} {E:Value→Shared→Prop}
theorem Inv.big (I:Inv X pins σ H s):sysModules < s.heap.objs.size:=by
 have h:mainGlobals < s.heap.objs.size:=(I.mod.glob.keeps I.bk).lt
 exact Nat.lt_trans (by decide) h
theorem lU {Q:Value→Shared→Prop} (hu:A.units + 1 < cLine) (I:Inv X pins σ H s) (g:mn H a y (some v)) (ry:aN y u) (h:∀ w' s',Inv X pins σ H s'→aN v w'→Q w' s') :
  wpAny (model X.prog X.w) A (getItem (.ref a) u) Q E s:=by
 rcases g with ⟨kvs,k,e,ey,l⟩ | ⟨kvs,k,b,e,ey,eb,l⟩
 ·subst ey
  obtain ⟨z,hd,vs,rel,dd⟩:=kd I.hok e
  obtain ⟨w',hw,rw'⟩:=jG.some_of (v:=v) (o:=valueAt vs k) (by rw [l];exact rel.val k)
  exact wpAny_getItem_of (kf ry) dd.mapOf hw (h w' _ (I.tok _) rw')
 ·subst ey
  cases (show u=Value.ref b from ry)
  obtain ⟨z,hd,xs,rel,dd⟩:=kP I.hok e
  obtain ⟨w',hw,rw'⟩:=jG.some_of (v:=v) (o:=(atKey xs k).map (·.2)) (by rw [l];exact rel.val k)
  obtain ⟨p,hp,hp2⟩:=Option.map_eq_some_iff.mp hw
  refine wpAny_getItem_heap (tupleKind_room_in1 hu) (gI I.hok eb) dd hp ?_
  rw [hp2]
  exact h w' _ (I.tok _) rw'
theorem d_in {Q:Value→Shared→Prop} (hu:A.units + 1 < cLine) (I:Inv X pins σ H s) (g:mn H a y o) (ry:aN y u) (h:∀ s',Inv X pins σ H s'→Q (.bool o.isSome) s') :
  wpAny (model X.prog X.w) A (compareOp .In u (.ref a)) Q E s:=by
 rcases g with ⟨kvs,k,e,ey,l⟩ | ⟨kvs,k,b,e,ey,eb,l⟩
 ·subst ey
  obtain ⟨z,hd,vs,rel,dd⟩:=kd I.hok e
  refine wpAny_in_of (kf ry) hd dd.mapOf ?_
  rw [← (rel.val k).isSome_eq,← l]
  exact h _ (I.tok _)
 ·subst ey
  cases (show u=Value.ref b from ry)
  obtain ⟨z,hd,xs,rel,dd⟩:=kP I.hok e
  refine wpAny_in_heap (tupleKind_room_in1 hu) (gI I.hok eb) hd dd ?_
  have q:=(rel.val k).isSome_eq
  rw [Option.isSome_map] at q
  rw [← q,← l]
  exact h _ (I.tok _)
theorem r8 {Q:Value→Shared→Prop} (hu:A.units + 1 < cLine) (I:Inv X pins σ H s) (g:mn H a y o) (ry:aN y u) (h:∀ s',Inv X pins σ H s'→Q (.bool (!o.isSome)) s') :
  wpAny (model X.prog X.w) A (compareOp .NotIn u (.ref a)) Q E s:=by
 rcases g with ⟨kvs,k,e,ey,l⟩ | ⟨kvs,k,b,e,ey,eb,l⟩
 ·subst ey
  obtain ⟨z,hd,vs,rel,dd⟩:=kd I.hok e
  refine wpAny_notIn_of (kf ry) hd dd.mapOf ?_
  rw [← (rel.val k).isSome_eq,← l]
  exact h _ (I.tok _)
 ·subst ey
  cases (show u=Value.ref b from ry)
  obtain ⟨z,hd,xs,rel,dd⟩:=kP I.hok e
  refine wpAny_notIn_heap (tupleKind_room_in1 hu) (gI I.hok eb) hd dd ?_
  have q:=(rel.val k).isSome_eq
  rw [Option.isSome_map] at q
  rw [← q,← l]
  exact h _ (I.tok _)
theorem jk {h':Heap} {t':Nat} {ob:HO} (I:Inv X pins σ H s) (mu:Mut (H a)) (hs:Heap.SameBut a s.heap h') (he:∃ q,h'.get? a=some q) (new:bd X.prog X.w (yV H a ob) h' a ob) :
  Inv X pins σ (yV H a ob) { s with heap:=h',toks:=t' } :=
 I.write (x:=a) (e:=a) mu (.inl rfl) (fun b q hb z=>(hs.2 b hb).trans z) he new
theorem lB {P:Program} {w:World} {H':Hp} {h':Heap} {kvs:List (yL×V)} {vs:List (yL×Value)} (z:kvs.length≤sizeLine) (hd:(a == sysModules)=false) (rel:KV kvs vs) (dd:h'.DictOf (aL P w) a vs) :
  bd P w H' h' a (.dK kvs):=⟨z,hd,vs,rel,dd⟩
theorem lO {H':Hp} {Q:Unit→Shared→Prop} (hu:A.units + 1 < cLine) (I:Inv X pins σ H s) (g:DPut H a y v H') (ry:aN y u) (rv:aN v r) (h:∀ s',Inv X pins σ H' s'→Q () s') :
  wpAny (model X.prog X.w) A (setItem (.ref a) u r) Q E s:=by
 rcases g with ⟨kvs,k,e,ey,l,eH⟩ | ⟨kvs,k,b,e,ey,eb,l,eH⟩
 ·subst ey eH
  obtain ⟨z,hd,vs,rel,dd⟩:=ki I.hok e
  have hz:vs.length≤sizeLine:=by rw [← rel.length];exact z
  have hl:(g6 kvs k v).length≤sizeLine:=by have:=cD kvs k v;omega
  refine wpAny_setItem_pairs (hsz:=hz) (kf ry) dd fun h' dd' hs=>h _ ?_
  have he:∃ q,h'.get? a=some q:=let ⟨q,_,_,hq,_⟩:=dd';⟨q,hq⟩
  exact jk I (by rw [e];exact True.intro) hs he (lB hl hd (rel.put k rv) dd')
 ·subst ey eH
  cases (show u=Value.ref b from ry)
  obtain ⟨z,hd,xs,rel,dd⟩:=yx I.hok e
  have hz:xs.length≤sizeLine:=by rw [← Paired.length rel];exact z
  have hl:(g6 kvs k v).length≤sizeLine:=by have:=cD kvs k v;omega
  refine wpAny_setItem_heap (hsz:=hz) (tupleKind_room_in1 hu) (gI I.hok eb) dd fun h' dd' hs=>h _ ?_
  obtain ⟨q,es,ep,hq,h2,h3,h4,_,h5⟩:=dd'
  refine jk I (by rw [e];exact True.intro) hs ⟨q,hq⟩ ⟨hl,hd,_,(rel.put k eb rv).keeps fun c ys ec=>?_,q,es,ep,hq,h2,h3,h4,h5⟩
  rw [ar (yn ec e (fun z=>nomatch z))]
  exact ec
end
section
variable {X:Cx} {pins:List (Addr×Obj)} {σ:St} {H:Hp} {s:Shared} {a:Addr} {kvs:List (yL×V)} {k:yL} {u:Value} {A:Around} {E:Value→Shared→Prop}
end
def NoSl (i:Expr):Prop:=∀ ov iv,subscripted i false ov iv=operate [ov,iv] (getItem ov iv)
theorem tP {prog:Program} {w:World} {A:Around} {E:Value→Shared→Prop} {s:Shared} {env:Env} {value slice:Expr} {pos:Pos} {T id:String} {Q:Value→Shared→Prop}
  (hl:typeLookup (.type T) "__getitem__"=pure (some (.builtin id))) (hs:NoSl slice)
  (h:wpAny (model prog w) A (eval value env) (fun o s₁=>wpAny (model prog w) A (eval slice env) (fun i s₂=>s₂.TypeIs o T∧wpAny (model prog w) A (getItem o i) Q E s₂) E s₁) E s) :
  wpAny (model prog w) A (eval (.Subscript value slice pos) env) Q E s:=by
 refine Subscript_ (wpAny_mono h (fun o s₁ h₁=>wpAny_mono h₁ (fun i s₂ h₂=>?_) fun _ _ x=>x) fun _ _ x=>x)
 obtain ⟨hT,h₂⟩:=h₂
 unfold subscriptTail
 refine wpAny_bind ?_
 rw [getitemInPython_of_ne hT.not_modules]
 refine wpAny_bind (wpAny_specialOf hT hl ?_)
 have fin:wpAny (model prog w) A (subscripted slice false o i) (fun r s₃=>wpAny (model prog w) A (letTemporaryGo value o r >>= fun _=>pure r) Q E s₃) E s₂:=by
  rw [hs o i]
  exact wpAny_operating (wpAny_mono h₂ (fun r s₃ h₃=>wpAny_bind (wpAny_letTemporaryGo (wpAny_pure h₃))) fun _ _ x=>x)
 first
  | exact wpAny_pure (wpAny_bind fin)
  | exact wpAny_bind (wpAny_pure (wpAny_bind fin))
  | exact wpAny_bind fin
theorem ji {X:Cx} {pins:List (Addr×Obj)} {σ:St} {H:Hp} {s:Shared} {a:Addr} {y:V} {o:Option V} (I:Inv X pins σ H s) (g:mn H a y o):s.TypeIs (.ref a) "dict":=by
 rcases g with ⟨kvs,k,e,_,_⟩ | ⟨kvs,k,b,e,_,_,_⟩
 ·obtain ⟨_,_,vs,_,dd⟩:=kd I.hok e
  exact dd.typeIs
 ·obtain ⟨_,_,xs,_,dd⟩:=kP I.hok e
  exact dd.typeIs
def xD (td ty:TE):TE:=fun σ H Q=>td σ H fun x H1=>ty σ H1 fun y H2=>∃ a v,x=.ref a∧mn H2 a y (some v)∧Q v H2
def xV (td ty tv:TE):TS:=fun D σ H=>tv σ H fun v H1=>td σ H1 fun x H2=>ty σ H2 fun y H3=>∃ a H4,x=.ref a∧DPut H3 a y v H4∧D.nx σ H4
section
variable {X:Cx} {o i e value:Expr} {pos pos' tpos:Pos} {td ty tv:TE}
theorem sj (hu:X.A.units + 1 < cLine) (ho:PE X o td) (hi:PE X i ty) (hs:NoSl i):PE X (.Subscript o i pos) (xD td ty):=by
 intro pins s σ H Q I h
 refine tP PySem.F.slot_dict_getitem.lookup hs (yT (ho pins s σ H _ I h) fun u s1 ⟨x,H1,I1,rx,q1⟩=>yT (hi pins s1 σ H1 _ I1 q1) fun iv s2 ⟨y,H2,I2,ry,a,v,ex,g,q2⟩=>?_)
 subst ex
 obtain rfl:u=Value.ref a:=rx
 exact⟨ji I2 g,lU hu I2 g ry fun w' s3 I3 rw'=>⟨v,H2,I3,rw',q2⟩⟩
theorem rT (hu:X.A.units + 1 < cLine) (ho:PE X o td) (hi:PE X i ty) (hv:PE X value tv) (hs:swapsWith value (some (.Subscript o i pos')) pos.line X.env=pure false) :
  PS X (.Assign [.Subscript o i pos'] value pos) (xV td ty tv):=by
 intro pins s σ H D I h
 refine wpAny_Assign_Subscript (yT (hv pins s σ H _ I h) fun r s1 ⟨v,H1,I1,rv,q1⟩=>yT (ho pins s1 σ H1 _ I1 q1) fun u s2 ⟨x,H2,I2,rx,q2⟩=>yT (hi pins s2 σ H2 _ I2 q2) fun iv s3 ⟨y,H3,I3,ry,a,H4,ex,g,q3⟩=>?_) hs
 subst ex
 obtain rfl:u=Value.ref a:=rx
 exact lO hu I3 g ry rv fun s4 I4=>⟨σ,H4,I4,q3⟩
end
theorem jB {P:Program} {w:World} {H:Hp} (h:Heap) (hb:sysModules < h.objs.size):bd P w H (h.push { cls:=.type "dict",data:=.dict #[] }) h.objs.size (.dK []) :=
 ⟨Nat.zero_le _,beq_eq_false_iff_ne.mpr (Ne.symm (Nat.ne_of_lt hb)),[],.nil,Heap.DictOf.new h⟩
def vp:TE:=fun _ H Q=>∀ p,H p=none→Q (.ref p) (yV H p (.dK []))
section
variable {X:Cx} {pos:Pos}
theorem nC:PE X (.Dict [] [] pos) vp:=fun pins s σ H Q I h =>
 wpAny_Dict_empty ⟨.ref s.heap.objs.size,_,I.laid (a:=s.heap.objs.size) (o:=.dK []) (t':=s.toks) (fun _ _ q=>Heap.get?_push_of_some _ q) (Nat.le_refl _) (jB s.heap I.big),rfl,h _ (I.hok.fresh (Nat.le_refl _))⟩
end
def mo:List (TE×TE)→St→Hp→(List (V×V)→Hp→Prop)→Prop
 | [],_,H,Q=>Q [] H
 | (tk,tv) :: r,σ,H,Q=>tk σ H fun x H1=>tv σ H1 fun y H2=>mo r σ H2 fun ps H3=>Q ((x,y) :: ps) H3
abbrev VV:List (V×V)→List (Value×Value)→Prop:=Paired fun p q=>aN p.1 q.1∧aN p.2 q.2
def PPs (X:Cx) (pos:Pos) (keys:List (Option Expr)) (values:List Expr) (trs:List (TE×TE)):Prop :=
 ∀ (pins:List (Addr×Obj)) (s:Shared) (σ:St) (H:Hp) (Q:List (V×V)→Hp→Prop),Inv X pins σ H s→mo trs σ H Q →
  wpAny (model X.prog X.w) X.A (evalPairs (pairTrees keys values X.env pos)) (fun vs s'=>∃ ps H',Inv X pins σ H' s'∧VV ps vs∧Q ps H') X.xe s
theorem r6 {X:Cx} {pos:Pos}:PPs X pos [] [] []:=fun pins s σ H Q I h=>pairTrees_nil_walk ⟨[],H,I,.nil,h⟩
theorem pi {X:Cx} {pos:Pos} {k v:Expr} {ks:List (Option Expr)} {vs:List Expr} {tk tv:TE} {trs:List (TE×TE)} (hk:PE X k tk) (hv:PE X v tv) (hr:PPs X pos ks vs trs) :
  PPs X pos (some k :: ks) (v :: vs) ((tk,tv) :: trs):=fun pins s σ H Q I h =>
 pairTrees_cons_walk (yT (hk pins s σ H _ I h) fun u s1 ⟨x,H1,I1,rx,q1⟩=>yT (hv pins s1 σ H1 _ I1 q1) fun w2 s2 ⟨y,H2,I2,ry,q2⟩ =>
  yT (hr pins s2 σ H2 _ I2 q2) fun ws s3 ⟨ps,H3,I3,rel,q3⟩=>⟨(x,y) :: ps,H3,I3,.cons ⟨rx,ry⟩ rel,q3⟩)
def fR (kvs more:List (yL×V)):List (yL×V):=more.foldl (fun acc kv=>g6 acc kv.1 kv.2) kvs
theorem KV.merge:∀ {more:List (yL×V)} {rs:List (yL×Value)} {kvs:List (yL×V)} {vs:List (yL×Value)},KV more rs→KV kvs vs→KV (fR kvs more) (merged vs rs):=by
 intro more rs kvs vs r
 unfold KV at r
 induction r generalizing kvs vs with
 | nil=>intro q;exact q
 | @cons p q ps qs h t ih =>
  intro r0
  have e:KV (g6 kvs p.1 p.2) (stored vs q.1 q.2):=by
   have:=r0.put p.1 h.2
   rw [← h.1];exact this
  exact ih e
theorem cO:∀ (more kvs:List (yL×V)),(fR kvs more).length≤kvs.length + more.length
 | [],kvs=>by show kvs.length≤kvs.length + 0;omega
 | p :: r,kvs=>by
  have h1:=cO r (g6 kvs p.1 p.2)
  have h2:=cD kvs p.1 p.2
  show (fR (g6 kvs p.1 p.2) r).length≤_
  rw [List.length_cons];omega
theorem fM {P:Program} {w:World}:∀ {kvs:List (yL×V)} {ws:List (Value×Value)},VV (kvs.map fun kv=>(kV kv.1,kv.2)) ws→∃ rs,Carries (aL P w) ws rs∧KV kvs rs
 | [],_,r=>by rw [List.map_nil] at r;cases r;exact⟨[],True.intro,.nil⟩
 | p :: kvs,_,r=>by
  rw [List.map_cons] at r
  cases r with
  | @cons a b as bs h t =>
   obtain ⟨rs,c,q⟩:=fM (P:=P) (w:=w) t
   obtain ⟨b1,b2⟩:=b
   exact⟨(p.1,b2) :: rs,⟨kf h.1,rfl,c⟩,.cons ⟨rfl,h.2⟩ q⟩
def xS (trs:List (TE×TE)):TE:=fun σ H Q=>∀ p,H p=none→mo trs σ (yV H p (.dK [])) fun ps H2=>H2 p=some (.dK [])∧∃ kvs:List (yL×V),ps=kvs.map (fun kv=>(kV kv.1,kv.2))∧kvs.length≤15∧Q (.ref p) (yV H2 p (.dK (fR [] kvs)))
theorem t3 {X:Cx} {pos:Pos} {keys:List (Option Expr)} {values:List Expr} {trs:List (TE×TE)} (h:PPs X pos keys values trs) (hall:keys.all (·.isSome)=true) (hl:keys.length=values.length) (h0:keys≠[])
  (h15:keys.length≤15):PE X (.Dict keys values pos) (xS trs):=by
 intro pins s σ H Q I q
 have hn:=I.hok.fresh (Nat.le_refl s.heap.objs.size)
 have I1:=I.laid (a:=s.heap.objs.size) (o:=.dK []) (h':=s.heap.push { cls:=.type "dict",data:=.dict #[] }) (t':=s.toks) (fun _ _ q=>Heap.get?_push_of_some _ q) (Nat.le_refl _) (jB s.heap I.big)
 refine wpAny_Dict_walk (knd:=aL X.prog X.w) hall hl h0 h15 (yT (h pins _ σ _ _ I1 (q _ hn)) fun ws s2 ⟨ps,H2,I2,rel,e,kvs,ep,lk,q2⟩=>?_)
 subst ep
 obtain ⟨rs,c,rk⟩:=fM (P:=X.prog) (w:=X.w) rel
 obtain ⟨z,hd,vs0,r0,dd⟩:=ki I2.hok e
 cases r0
 refine⟨rs,c,dd,fun h' dd' hs=>⟨.ref s.heap.objs.size,_,?_,rfl,q2⟩⟩
 have hz:(fR [] kvs).length≤sizeLine:=by
  have h1:=cO kvs []
  rw [List.length_nil] at h1
  rw [sizeLine_eq];omega
 have he:∃ q,h'.get? s.heap.objs.size=some q:=let ⟨q,_,_,hq,_⟩:=dd';⟨q,hq⟩
 exact jk I2 (by rw [e];exact True.intro) hs he (lB hz hd (rk.merge .nil) dd')
section
variable {X:Cx} {pins:List (Addr×Obj)} {σ:St} {H:Hp} {s:Shared} {a:Addr} {y d:V} {u r:Value} {o:Option V} {A:Around} {E:Value→Shared→Prop}
end
section
variable {X:Cx} {o e f:Expr} {apos cpos:Pos} {td ty tx:TE}
end
section
variable {X:Cx} {pins:List (Addr×Obj)} {σ:St} {H:Hp} {s:Shared} {a:Addr} {kvs:List (yL×V)} {A:Around} {E:Value→Shared→Prop}
end
section
variable {X:Cx} {pins:List (Addr×Obj)} {σ:St} {H:Hp} {s:Shared} {a:Addr} {y:V} {u:Value} {A:Around} {E:Value→Shared→Prop}
end
end L2
namespace Att
open PySem PySem.W PySem.Calls PyProof.Rows
theorem d9 {P:Params} {h:Heap}:∀ (ns:List Int) (vs:List Value),WellAll P h vs (ns.map WData.int)→IntsAre vs ns:=by
 intro ns
 induction ns with
 | nil =>
  intro vs w
  rw [List.map_nil] at w
  cases w
  exact .nil
 | cons n ns ih =>
  intro vs w
  rw [List.map_cons] at w
  cases w with
  | cons a b =>
   cases a
   exact .cons _ _ (ih _ b)
theorem script_of {l:OpenLaw} {n:Nat} (hn:l.most=some n) {P:Params} {h:Heap} {args:List WData} {vals:List Value}
  (hpre:l.row.toRowW.claim.pre args=true) (hwl:WellAll P h vals args) :
  ∃ a vs ns,vals=[Value.ref a]∧args=[WData.list (ns.map WData.int)]∧h.get? a=some { cls:=.type "list",data:=.seq vs.toArray }∧IntsAre vs ns∧ns.length≤n:=by
 have hsh:WShape.hasAll [] args [.list .int]=true:=(pre_splitW hpre).1
 have hc:l.pre.holds [] { args:=args }=true:=(pre_splitW hpre).2
 obtain ⟨d,r,rfl,h1,h2⟩:=hasAllW_cons hsh
 obtain rfl:=hasAllW_nil h2
 obtain ⟨xs,rfl,h3⟩:=hasW_list h1
 obtain ⟨ns,rfl⟩:=items_int h3
 have hlen:ns.length≤n:=by
  unfold OpenLaw.pre at hc
  have h4:(WTm.not (.lt (.lit (.int (n:Int))) (.len (.arg 0)))).holds [] { args:=[.list (ns.map .int)] }=true:=by
   have h4:=(holds_andW hc).1
   rw [hn] at h4
   exact h4
  have h5:=condW_of h4 (w_not (w_lt w_lit (w_len_list (w_arg rfl))))
  rw [List.length_map] at h5
  refine Nat.le_of_not_lt fun q=>?_
  have q':(n:Int) < ((ns.length:Nat):Int):=by omega
  first
   | (rw [decide_eq_true q'] at h5;exact absurd h5 (by decide))
   | (simp at h5;omega)
 cases hwl with
 | cons w1 w2 =>
  cases w2
  cases w1 with
  | list ho hall=>exact⟨_,_,ns,rfl,rfl,ho,d9 ns _ hall,hlen⟩
theorem post_true (l:OpenLaw) (args:List WData):l.row.toRowW.claim.post args (.bool true) args=true :=
 postW_of (r:=l.row.toRowW) (X:=(true == true))
  (show WShape.has [] (.bool true) .bool=true by first | rfl | decide | simp [WShape.has,WShape.arms,WShape.armsAll])
  (show (WTm.eq .res (.lit (.bool true))).value [] { args:=args,res:=some (.bool true),after:=args }=some (.bool (true == true)) from w_eq_bool (w_res rfl) w_lit) rfl
section
variable {prog:Program} {w:World} {A:Around} {E:Value→Shared→Prop} {s:Shared} {K:Frag}
end
end Att
namespace L2
open PySem PySem.Spec PyProof.Rows
theorem g7:∀ {vs:List Value} {ns:List Int},IntsAre vs ns→aV (ns.map V.int) vs
 | _,_,.nil=>.nil
 | _,_,.cons n t h=>.cons ⟨t,rfl⟩ (g7 h)
def Only (H:Hp):Prop:=∀ b,H b=none∨∃ o xs,H b=some (.frz o (.lst xs))
theorem nZ {P:Program} {w:World} {K:PySem.W.Frag} {mg mb:Str→Option Value} {CX:CXT} {k:Nat} {fa a:Addr} {fd:FuncData} {x:Str} {sp:Sp} {s₁:Shared} {vs:List Value} {ns:List Int}
  (KX:K.In s₁.heap) (hns:s₁.heap.Ns mainGlobals mg) (hb:s₁.heap.Ns builtinsNs mb) (hbb:∀ x:Str,x≠"__name__"→mb x=bootBuiltins x) (hlim:s₁.heap.NoLimit) (hg:s₁.gens=#[])
  (ha:s₁.heap.get? a=some { cls:=.type "list",data:=.seq vs.toArray }) (hi:IntsAre vs ns) (hl:ns.length≤sizeLine) (hr:bP k callerA)
  (F:∀ base:Heap,K.In base→base.Ns mainGlobals mg→c8 P w K mg base CX k fa fd [x] sp) (hbind:∀ (s:Shared) (u:Value),BindsTo s fd ⟨[u],[]⟩ [(x,u)])
  (hsp:∀ H:Hp,Only H→yI K H a (ns.map V.int)→sp [.ref a] H (fun v _=>v=.bl true) fun _ _ _=>False)
  (hCX:∀ H e s',CX [] H s₁ (fun _ _ _=>False) e s'→False) :
  codeAny (model P w) callerA (.call (.ref fa) ⟨[.ref a],[]⟩) (fun r s'=>r=.ok (.ret (.bool true))∧OldK s₁.heap s'.heap∧s'.os=s₁.os∧AllBare s'.gens) s₁:=by
 have rv:=g7 hi
 have lenV:=hi.length
 have core:∀ H:Hp,Only H→yI K H a (ns.map V.int)→yO P w H s₁.heap→(∀ b,H b≠none→b=a)→(H a≠none→K.lookup a=none) →
   codeAny (model P w) callerA (.call (.ref fa) ⟨[.ref a],[]⟩) (fun r s'=>r=.ok (.ret (.bool true))∧OldK s₁.heap s'.heap∧s'.os=s₁.os∧AllBare s'.gens) s₁:=by
  intro H hO hS hok hA hK
  have base_of:∀ {b:Addr} {o:Obj},s₁.heap.get? b=some o→H b=none→(nJ s₁.heap H).get? b=some o:=fun e n=>ou e n
  have noA:∀ {b:Addr} {o:Obj} {es:Array DictEntry} {ep:Nat},s₁.heap.get? b=some o→o.data=.dict es ep→H b=none:=fun {b o es ep} e d=>by
   cases q:H b with
   | none=>rfl
   | some u =>
    have e':b=a:=hA b (by rw [q];simp)
    subst e'
    rw [ha] at e;cases e
    have d':Data.seq vs.toArray _=Data.dict es ep:=d
    cases d'
  have nsK:∀ {b:Addr} {m:Str→Option Value},s₁.heap.Ns b m→(nJ s₁.heap H).Ns b m:=fun {b m} ⟨o,es,ep,e,d,r⟩=>⟨o,es,ep,base_of e (noA e d),d,r⟩
  have hKb:K.In (nJ s₁.heap H):=fun b o e=>base_of (KX b o e) (by
   cases q:H b with
   | none=>rfl
   | some u =>
    have e':b=a:=hA b (by rw [q];simp)
    subst e'
    rw [hK (by rw [q];simp)] at e;cases e)
  have hM:Mod K mg (nJ s₁.heap H):=⟨hKb,nsK hns,⟨mb,nsK hb,hbb⟩,let ⟨mc,h1,h2⟩:=hlim;⟨mc,nsK h1,h2⟩⟩
  have e0:sC P w K mg (nJ s₁.heap H) callerA [] s₁ H:=⟨rfl,hM,fun b o e=>rR e,Nat.le_of_eq (lu _ _),trivial,fun b hb=>absurd (show b∈([]:List Addr) from hb) (by simp),hok,.of_eq hg⟩
  refine codeAny_mono ((F _ hKb (nsK hns)).run callerA [] s₁ H ⟨[.ref a],[]⟩ [.ref a] [.ref a] _ _ hr e0 (hbind s₁ (.ref a)) (.cons rfl .nil) (hsp H hO hS)) fun r s' h=>?_
  cases r with
  | error e=>exact (hCX H e s' h).elim
  | ok fl =>
   cases fl with
   | next=>exact False.elim h
   | brk=>exact False.elim h
   | cont=>exact False.elim h
   | ret u =>
    obtain ⟨v,H',os,bare,un,hok',r',q⟩:=h
    have q':v=.bl true:=q
    subst q'
    obtain rfl:u=Value.bool true:=r'
    refine⟨rfl,OldK.of_keep fun b o e=>?_,os,bare⟩
    cases q:H b with
    | none=>exact un.keep b o e q (by intro z;exact absurd (show b∈([]:List Addr) from z) (by simp)) (by simp)
    | some u =>
     rcases hO b with z | ⟨ob,xs,z⟩
     ·rw [q] at z;cases z
     ·have z2:=un.frzs b ob _ z
      obtain ⟨e1,_⟩:=hok b _ z
      obtain ⟨e2,_⟩:=hok' b _ z2
      rw [e] at e1;cases e1
      exact e2
 cases hk:K.lookup a with
 | some o =>
  have e:=KX a o hk
  rw [ha] at e
  cases e
  refine core (fun _=>none) (fun _=>.inl rfl) (.inr ⟨_,vs.toArray,_,hk,rfl,rfl,rfl,by rw [List.size_toArray,lenV];exact hl,by simpa using rv⟩) (fun b u z=>by have z':(none:Option HO)=some u:=z;cases z') (fun b z=>absurd rfl z) fun z=>absurd rfl z
 | none =>
  refine core (fun b=>if b=a then some (.frz { cls:=.type "list",data:=.seq vs.toArray } (.lst (ns.map V.int))) else none) (fun b=>?_) (.inl (.inr ⟨{ cls:=.type "list",data:=.seq vs.toArray },if_pos rfl⟩)) (fun b u z=>?_) (fun b z=>?_) fun _=>hk
  ·by_cases hb:b=a
   ·exact .inr ⟨_,_,if_pos hb⟩
   ·exact .inl (if_neg hb)
  ·by_cases hb:b=a
   ·have z':=(if_pos hb).symm.trans z
    cases z'
    subst hb
    exact⟨ha,by rw [List.length_map];exact hl,vs,_,rv,ha⟩
   ·have z':=(if_neg hb).symm.trans z
    cases z'
  ·by_cases hb:b=a
   ·exact hb
   ·exact absurd (if_neg hb) z
end L2
namespace L2
open PySem PySem.Spec PyProof.Rows
end L2
namespace L2
open PySem PySem.Spec PyProof.Rows
abbrev CX0:CXT:=fun _ _ _ _ _ _=>False
abbrev E0:XK:=fun _ _ _=>False
theorem nI {X:Cx}:js CX0 X E0:=fun _ _ _ _ _ _ _ h=>h.elim
structure Fun (K:PySem.W.Frag) (x qual:Str) (st:Stmt) (f:Addr) (fd:FuncData):Prop where
 ex:∃ (oc:Value) (od:Option Addr) (kV doc pm:Value) (an:Option Addr) (cdv ct:Value) (osl:Array (Option Value)),
  fd=PySem.W.fnOf x qual (a8 st) (aI st) (ah st) .none kV doc pm an cdv ct∧K.lookup f=some ⟨oc,od,.func fd,osl⟩∧PySem.W.codeIn K cdv qual=true
 kp:PySem.W.keepIn K (.ref f)=true
section
variable {P:Program} {w:World} {K:PySem.W.Frag} {mg:Str→Option Value} {base:Heap}
theorem Fun.ok {x qual:Str} {st:Stmt} {f:Addr} {fd:FuncData} {N ps:List Str} {k:Nat} {sp:Sp} (F:Fun K x qual st f fd) (S:au N ps (ah st)) (len:∀ vs H Q E,sp vs H Q E→vs.length=ps.length)
    (hbody:∀ (cdv:Value) (A:Around) (outer:List Env) (s:Shared) (H:Hp) (vs:List V) (Q:VK) (E:XK),bP k (A.deeper (envOfC qual (ah st) s.heap.objs.size f cdv))→sp vs H Q E →
      ∃ t,PSs (iB CX0 P w K mg base N qual (ah st) f cdv A outer s H E).nox (aI st) t∧t { nx:=fun _ H'=>Q .non H',rt:=Q } (start N vs) H):c8 P w K mg base CX0 (k + 1) f fd ps sp:=by
  obtain ⟨oc,od,kV,doc,pm,an,cdv,ct,osl,rfl,lk,hcd⟩:=F.ex
  refine vA lk hcd S len fun A outer s H vs Q E hr hsp=>?_
  obtain ⟨t,h,q⟩:=hbody cdv A outer s H vs Q E hr hsp
  exact⟨t,h.nox,q⟩
theorem Fun.binds {x qual:Str} {st:Stmt} {f:Addr} {fd:FuncData} {ps:List Str} (F:Fun K x qual st f fd)
  (h:∀ (kV doc pm:Value) (an:Option Addr) (cdv ct:Value) (us:List Value),us.length=ps.length→bindArgs (PySem.W.fnOf x qual (a8 st) (aI st) (ah st) .none kV doc pm an cdv ct) ⟨us,[]⟩=pure (ps.zip us)):cT K fd ps []:=by
 obtain ⟨oc,od,kV,doc,pm,an,cdv,ct,osl,rfl,lk,hcd⟩:=F.ex
 exact .all (h kV doc pm an cdv ct)
theorem pV {x qual:Str} {st:Stmt} {f:Addr} {oc:Value} {od an:Option Addr} {osl:Array (Option Value)} {kV doc pm cdv ct:Value} (l:K.lookup f=some ⟨oc,od,.func (PySem.W.fnOf x qual (a8 st) (aI st) (ah st) .none kV doc pm an cdv ct),osl⟩)
  (c:PySem.W.codeIn K cdv qual=true) (k:PySem.W.keepIn K (.ref f)=true):Fun K x qual st f (PySem.W.fnOf x qual (a8 st) (aI st) (ah st) .none kV doc pm an cdv ct):=⟨⟨oc,od,kV,doc,pm,an,cdv,ct,osl,rfl,l,c⟩,k⟩
end
section
variable {X:Cx}
end
theorem ij {c A B:Prop} [Decidable c] (h1:c→A) (h2:¬ c→B):if c then A else B:=by
 by_cases h:c
 ·rw [if_pos h]
  exact h1 h
 ·rw [if_neg h]
  exact h2 h
def bh (H H':Hp):Prop:=∀ b o,H b=some o→H' b=some o
theorem bh.refl (H:Hp):bh H H:=fun _ _ h=>h
theorem bh.trans {H H1 H2:Hp} (a:bh H H1) (b:bh H1 H2):bh H H2:=fun c o h=>b c o (a c o h)
section
variable {κ:Type} [DecidableEq κ]
end
end L2
namespace DL
open PySem L2
inductive D where
 | non | bl (b:Bool) | int (i:Int) | str (x:Str)
 | tup (xs:List D) | lst (xs:List D) | fz (xs:List D) | dct (ks:List Str) (vs:List D) | fd (ks:List Str) (vs:List D) | fo (o:Obj) (ks:List Str) (vs:List D) | exn (c f:Str) (x:D)
mutual
def D.im:D→Bool
 | .tup xs=>D.ims xs
 | .lst _=>false
 | .fz xs=>D.ims xs
 | .dct _ _=>false
 | .fd _ xs=>D.ims xs
 | .fo _ _ xs=>D.ims xs
 | .exn _ _ _=>false
 | .non=>true
 | .bl _=>true
 | .int _=>true
 | .str _=>true
def D.ims:List D→Bool
 | []=>true
 | x :: r=>D.im x && D.ims r
end
abbrev yE (C:Addr) (dx:Option Addr) (a t:Value):Obj:={ cls:=.ref C,dict:=dx,data:=.fields #[a,t,.none,.none,.bool false,.none] }
def XAt (e C dx:Addr):HO:=.ext fun h=>∃ a t,h.get? e=some (yE C (some dx) a t)
def kM (e C dx:Addr):HO:=.ext fun h=>∃ a,h.get? e=some (yE C (some dx) a .none)
structure pg (K:PySem.W.Frag) (M:Addr→Prop) (H:Hp) (c f:Str) (v y:V):Prop where
 ex:∃ e C dx,v=.ref e∧¬ M e∧¬ M dx∧(H e=some (XAt e C dx)∨H e=some (kM e C dx))∧H dx=some (.xd [(f,y)])∧PySem.W.nsIn K mainGlobals c=some (some (.ref C))
def aO (ks:List Str) (vs:List V):List (yL×V):=(ks.map Sum.inr).zip vs
def H0:Hp:=fun _=>none
def uh (K:PySem.W.Frag) (H:Hp) (a:Addr) (vs:List V):Prop:=(∃ o,H a=some (.frz o (.lst vs)))∨yI K H0 a vs
mutual
def yF (K:PySem.W.Frag) (M:Addr→Prop) (H:Hp):D→V→Prop
 | .non,v=>v=.non
 | .bl b,v=>v=.bl b
 | .int i,v=>v=.int i
 | .str x,v=>v=.str x
 | .tup ds,v=>∃ a vs,v=.ref a∧yR K H a vs∧Reps K M H ds vs
 | .lst ds,v=>∃ a vs,v=.ref a∧¬ M a∧H a=some (.lst vs)∧Reps K M H ds vs
 | .fz ds,v=>∃ a vs,v=.ref a∧uh K H a vs∧Reps K M H ds vs
 | .dct ks ds,v=>∃ a vs,v=.ref a∧¬ M a∧H a=some (.dK (aO ks vs))∧ks.length=ds.length∧Reps K M H ds vs
 | .fd ks ds,v=>∃ a vs o,v=.ref a∧H a=some (.frz o (.dK (aO ks vs)))∧ks.length=ds.length∧Reps K M H ds vs
 | .fo o ks ds,v=>∃ a vs,v=.ref a∧H a=some (.frz o (.dK (aO ks vs)))∧ks.length=ds.length∧Reps K M H ds vs
 | .exn c f d,v=>∃ y,pg K M H c f v y∧yF K M H d y
def Reps (K:PySem.W.Frag) (M:Addr→Prop) (H:Hp):List D→List V→Prop
 | [],vs=>vs=[]
 | d :: ds,vs=>∃ v r,vs=v :: r∧yF K M H d v∧Reps K M H ds r
end
structure Kp (M:Addr→Prop) (H H':Hp):Prop where
 un:∀ b o,H b=some o→¬ M b→H' b=some o
 tu:∀ b xs,H b=some (.tup xs)→H' b=some (.tup xs)
 fr:∀ b o u,H b=some (.frz o u)→H' b=some (.frz o u)
theorem Kp.of_same {M:Addr→Prop} {H H':Hp} (h:bh H H'):Kp M H H':=⟨fun b o e _=>h b o e,fun b xs e=>h b _ e,fun b o u e=>h b _ e⟩
theorem Kp.refl {M:Addr→Prop} {H:Hp}:Kp M H H:=Kp.of_same (bh.refl H)
section
variable {K:PySem.W.Frag} {M M':Addr→Prop} {H H':Hp}
theorem yR.kp {a:Addr} {vs:List V} (k:Kp M H H') (h:yR K H a vs):yR K H' a vs:=by
 rcases h with (h | ⟨o,h⟩) | h
 ·exact .inl (.inl (k.tu _ _ h))
 ·exact .inl (.inr ⟨o,k.fr _ _ _ h⟩)
 ·exact .inr h
theorem uh.kp {a:Addr} {vs:List V} (k:Kp M H H') (h:uh K H a vs):uh K H' a vs:=by
 rcases h with ⟨o,h⟩ | h
 ·exact .inl ⟨o,k.fr _ _ _ h⟩
 ·exact .inr h
theorem uh.seq {a:Addr} {vs:List V} (h:uh K H a vs):yI K H a vs:=by
 rcases h with ⟨o,h⟩ | (h | ⟨o,h⟩) | h
 ·exact .inl (.inr ⟨o,h⟩)
 ·cases h
 ·cases h
 ·exact .inr h
theorem pg.kp {c f:Str} {v y:V} (k:Kp M H H') (h:pg K M H c f v y):pg K M H' c f v y:=by
 obtain ⟨e,C,dx,rfl,n1,n2,h1,h2,h3⟩:=h.ex
 exact⟨⟨e,C,dx,rfl,n1,n2,h1.imp (fun z=>k.un _ _ z n1) (fun z=>k.un _ _ z n1),k.un _ _ h2 n2,h3⟩⟩
theorem pg.more {c f:Str} {v y:V} (hM:∀ b,M' b→M b∨H b=none) (h:pg K M H c f v y):pg K M' H c f v y:=by
 obtain ⟨e,C,dx,rfl,n1,n2,h1,h2,h3⟩:=h.ex
 refine⟨⟨e,C,dx,rfl,fun z=>(hM _ z).elim n1 fun q=>?_,fun z=>(hM _ z).elim n2 (fun q=>by rw [h2] at q;cases q),h1,h2,h3⟩⟩
 rcases h1 with h1 | h1<;>(rw [h1] at q;cases q)
mutual
theorem yF.kp (k:Kp M H H'):∀ (d:D) (v:V),yF K M H d v→yF K M H' d v
 | .non,v,h=>by unfold yF at h ⊢;exact h
 | .bl b,v,h=>by unfold yF at h ⊢;exact h
 | .int i,v,h=>by unfold yF at h ⊢;exact h
 | .str x,v,h=>by unfold yF at h ⊢;exact h
 | .tup ds,v,h=>by
  unfold yF at h ⊢
  obtain ⟨a,vs,e,q,r⟩:=h
  exact⟨a,vs,e,yR.kp k q,Reps.kp k ds vs r⟩
 | .lst ds,v,h=>by
  unfold yF at h ⊢
  obtain ⟨a,vs,e,n,q,r⟩:=h
  exact⟨a,vs,e,n,k.un _ _ q n,Reps.kp k ds vs r⟩
 | .fz ds,v,h=>by
  unfold yF at h ⊢
  obtain ⟨a,vs,e,q,r⟩:=h
  exact⟨a,vs,e,q.kp k,Reps.kp k ds vs r⟩
 | .dct ks ds,v,h=>by
  unfold yF at h ⊢
  obtain ⟨a,vs,e,n,q,l,r⟩:=h
  exact⟨a,vs,e,n,k.un _ _ q n,l,Reps.kp k ds vs r⟩
 | .fd ks ds,v,h=>by
  unfold yF at h ⊢
  obtain ⟨a,vs,o,e,q,l,r⟩:=h
  exact⟨a,vs,o,e,k.fr _ _ _ q,l,Reps.kp k ds vs r⟩
 | .fo o ks ds,v,h=>by
  unfold yF at h ⊢
  obtain ⟨a,vs,e,q,l,r⟩:=h
  exact⟨a,vs,e,k.fr _ _ _ q,l,Reps.kp k ds vs r⟩
 | .exn c f d,v,h=>by
  unfold yF at h ⊢
  obtain ⟨y,q,r⟩:=h
  exact⟨y,q.kp k,yF.kp k d y r⟩
theorem Reps.kp (k:Kp M H H'):∀ (ds:List D) (vs:List V),Reps K M H ds vs→Reps K M H' ds vs
 | [],vs,h=>by unfold Reps at h ⊢;exact h
 | d :: ds,vs,h=>by
  unfold Reps at h ⊢
  obtain ⟨v,r,e,q,s⟩:=h
  exact⟨v,r,e,yF.kp k d v q,Reps.kp k ds r s⟩
end
mutual
theorem yF.more (hM:∀ b,M' b→M b∨H b=none):∀ (d:D) (v:V),yF K M H d v→yF K M' H d v
 | .non,v,h=>by unfold yF at h ⊢;exact h
 | .bl b,v,h=>by unfold yF at h ⊢;exact h
 | .int i,v,h=>by unfold yF at h ⊢;exact h
 | .str x,v,h=>by unfold yF at h ⊢;exact h
 | .tup ds,v,h=>by
  unfold yF at h ⊢
  obtain ⟨a,vs,e,q,r⟩:=h
  exact⟨a,vs,e,q,Reps.more hM ds vs r⟩
 | .lst ds,v,h=>by
  unfold yF at h ⊢
  obtain ⟨a,vs,e,n,q,r⟩:=h
  exact⟨a,vs,e,fun z=>(hM _ z).elim n (fun e=>by rw [q] at e;cases e),q,Reps.more hM ds vs r⟩
 | .fz ds,v,h=>by
  unfold yF at h ⊢
  obtain ⟨a,vs,e,q,r⟩:=h
  exact⟨a,vs,e,q,Reps.more hM ds vs r⟩
 | .dct ks ds,v,h=>by
  unfold yF at h ⊢
  obtain ⟨a,vs,e,n,q,l,r⟩:=h
  exact⟨a,vs,e,fun z=>(hM _ z).elim n (fun e=>by rw [q] at e;cases e),q,l,Reps.more hM ds vs r⟩
 | .fd ks ds,v,h=>by
  unfold yF at h ⊢
  obtain ⟨a,vs,o,e,q,l,r⟩:=h
  exact⟨a,vs,o,e,q,l,Reps.more hM ds vs r⟩
 | .fo o ks ds,v,h=>by
  unfold yF at h ⊢
  obtain ⟨a,vs,e,q,l,r⟩:=h
  exact⟨a,vs,e,q,l,Reps.more hM ds vs r⟩
 | .exn c f d,v,h=>by
  unfold yF at h ⊢
  obtain ⟨y,q,r⟩:=h
  exact⟨y,q.more hM,yF.more hM d y r⟩
theorem Reps.more (hM:∀ b,M' b→M b∨H b=none):∀ (ds:List D) (vs:List V),Reps K M H ds vs→Reps K M' H ds vs
 | [],vs,h=>by unfold Reps at h ⊢;exact h
 | d :: ds,vs,h=>by
  unfold Reps at h ⊢
  obtain ⟨v,r,e,q,s⟩:=h
  exact⟨v,r,e,yF.more hM d v q,Reps.more hM ds r s⟩
end
theorem Reps.length:∀ (ds:List D) (vs:List V),Reps K M H ds vs→ds.length=vs.length
 | [],vs,h=>by unfold Reps at h;subst h;rfl
 | d :: ds,vs,h=>by
  unfold Reps at h
  obtain ⟨v,r,rfl,q,s⟩:=h
  rw [List.length_cons,List.length_cons,Reps.length ds r s]
theorem Reps.get:∀ (ds:List D) (vs:List V),Reps K M H ds vs→∀ (i:Nat) (d:D),ds[i]?=some d→∃ v,vs[i]?=some v∧yF K M H d v
 | [],vs,h,i,d,e=>by simp at e
 | d :: ds,vs,h,i,d',e=>by
  unfold Reps at h
  obtain ⟨v,r,rfl,q,s⟩:=h
  cases i with
  | zero=>simp at e;subst e;exact⟨v,rfl,q⟩
  | succ i=>exact Reps.get ds r s i d' (by simpa using e)
theorem Reps.of:∀ (ds:List D) (vs:List V),ds.length=vs.length→(∀ (i:Nat) d v,ds[i]?=some d→vs[i]?=some v→yF K M H d v)→Reps K M H ds vs
 | [],vs,l,_=>by unfold Reps;exact List.length_eq_zero_iff.mp l.symm
 | d :: ds,[],l,_=>by cases l
 | d :: ds,v :: vs,l,h=>by
  unfold Reps
  exact⟨v,vs,rfl,h 0 d v rfl rfl,Reps.of ds vs (Nat.succ.inj l) fun i d' v' e e'=>h (i + 1) d' v' (by simpa using e) (by simpa using e')⟩
theorem Reps.append:∀ (ds es:List D) (vs ws:List V),Reps K M H ds vs→Reps K M H es ws→Reps K M H (ds++es) (vs++ws)
 | [],es,vs,ws,h,k=>by unfold Reps at h;subst h;exact k
 | d :: ds,es,vs,ws,h,k=>by
  unfold Reps at h
  obtain ⟨v,r,rfl,q,s⟩:=h
  show Reps K M H (d :: (ds++es)) (v :: (r++ws))
  unfold Reps
  exact⟨v,r++ws,rfl,q,Reps.append ds es r ws s k⟩
theorem Reps.one {d:D} {v:V} (h:yF K M H d v):Reps K M H [d] [v]:=by
 unfold Reps
 exact⟨v,[],rfl,h,by unfold Reps;rfl⟩
theorem Reps.nil:Reps K M H [] []:=by unfold Reps;rfl
theorem Reps.cons {d:D} {v:V} {ds:List D} {vs:List V} (h:yF K M H d v) (r:Reps K M H ds vs):Reps K M H (d :: ds) (v :: vs):=by
 unfold Reps
 exact⟨v,vs,rfl,h,r⟩
theorem Reps.take:∀ (n:Nat) (ds:List D) (vs:List V),Reps K M H ds vs→Reps K M H (ds.take n) (vs.take n)
 | 0,ds,vs,h=>by simpa using Reps.nil
 | n + 1,[],vs,h=>by unfold Reps at h;subst h;simpa using Reps.nil
 | n + 1,d :: ds,vs,h=>by
  unfold Reps at h
  obtain ⟨v,r,rfl,q,s⟩:=h
  exact Reps.cons q (Reps.take n ds r s)
theorem Reps.drop:∀ (n:Nat) (ds:List D) (vs:List V),Reps K M H ds vs→Reps K M H (ds.drop n) (vs.drop n)
 | 0,ds,vs,h=>h
 | n + 1,[],vs,h=>by unfold Reps at h;subst h;simpa using Reps.nil
 | n + 1,d :: ds,vs,h=>by
  unfold Reps at h
  obtain ⟨v,r,rfl,q,s⟩:=h
  exact Reps.drop n ds r s
theorem Reps.set {d:D} {v:V} (h:yF K M H d v):∀ (i:Nat) (ds:List D) (vs:List V),Reps K M H ds vs→Reps K M H (ds.set i d) (vs.set i v)
 | _,[],vs,r=>by unfold Reps at r;subst r;exact Reps.nil
 | 0,x :: ds,vs,r=>by
  unfold Reps at r
  obtain ⟨w,r,rfl,q,s⟩:=r
  exact Reps.cons h s
 | i + 1,x :: ds,vs,r=>by
  unfold Reps at r
  obtain ⟨w,r,rfl,q,s⟩:=r
  exact Reps.cons q (Reps.set h i ds r s)
theorem Reps.ints (ns:List Int):Reps K M H (ns.map D.int) (ns.map V.int):=by
 induction ns with
 | nil=>exact Reps.nil
 | cons n r ih=>exact Reps.cons (by unfold yF;rfl) ih
end
inductive Sl where
 | no | dat (d:D) | own (a:Addr) (d:D)
structure Gf where
 M0:Addr→Prop
 H0:Hp
 Pm:Addr→Prop
def aR (K:PySem.W.Frag) (M:Addr→Prop) (H:Hp) (a:Addr):D→Prop
 | .lst ds=>∃ vs,H a=some (.lst vs)∧Reps K M H ds vs
 | .dct ks ds=>∃ vs,H a=some (.dK (aO ks vs))∧ks.length=ds.length∧Reps K M H ds vs
 | _=>False
structure Sx (K:PySem.W.Frag) (G:Gf) (A:Addr→Prop) (δ:List Sl) (P:List (D×V)) (σ:St) (H:Hp):Prop where
 old:∀ b o,G.H0 b=some o→¬ G.Pm b→H b=some o
 stay:∀ b,G.H0 b≠none→H b≠none
 m0:∀ b,G.M0 b→G.H0 b≠none
 pm:∀ b,G.Pm b→G.H0 b≠none∧¬ G.M0 b
 new:∀ b,A b→G.H0 b=none∨G.Pm b
 thr:∀ b,A b→H b≠none
 len:δ.length=σ.length
 dat:∀ (i:Nat) d,δ[i]?=some (.dat d)→∃ v,σ[i]?=some (some v)∧yF K (fun b=>G.M0 b∨A b) H d v
 own:∀ (i:Nat) a d,δ[i]?=some (.own a d)→σ[i]?=some (some (.ref a))∧A a∧aR K (fun b=>G.M0 b∨A b) H a d
 inj:∀ (i j:Nat) a d e,δ[i]?=some (.own a d)→δ[j]?=some (.own a e)→i=j
 pnd:∀ p∈P,yF K (fun b=>G.M0 b∨A b) H p.1 p.2
def S (K:PySem.W.Frag) (G:Gf) (δ:List Sl) (P:List (D×V)) (σ:St) (H:Hp):Prop:=∃ A,Sx K G A δ P σ H
inductive aB (K:PySem.W.Frag) (f:List D→(D→Prop)→Prop) (vs:List V) (H:Hp) (Q:VK):Prop
 | mk (M:Addr→Prop) (ds:List D) (R:D→Prop) (m:∀ b,M b→H b≠none) (rs:Reps K M H ds vs) (h:f ds R) (k:∀ d,R d→∀ v H',bh H H'→yF K M H' d v→Q v H')
section
variable {K:PySem.W.Frag} {G:Gf} {A:Addr→Prop} {δ:List Sl} {P P':List (D×V)} {σ:St} {H H':Hp}
theorem aR.kp {M:Addr→Prop} {a:Addr} {d:D} (k:Kp M H H') (e:H' a=H a) (h:aR K M H a d):aR K M H' a d:=by
 cases d with
 | lst ds =>
  obtain ⟨vs,q,r⟩:=h
  exact⟨vs,e.trans q,Reps.kp k _ _ r⟩
 | dct ks ds =>
  obtain ⟨vs,q,l,r⟩:=h
  exact⟨vs,e.trans q,l,Reps.kp k _ _ r⟩
 | _=>exact h.elim
theorem aR.more {M M':Addr→Prop} {a:Addr} {d:D} (hM:∀ b,M' b→M b∨H b=none) (h:aR K M H a d):aR K M' H a d:=by
 cases d with
 | lst ds =>
  obtain ⟨vs,q,r⟩:=h
  exact⟨vs,q,Reps.more hM _ _ r⟩
 | dct ks ds =>
  obtain ⟨vs,q,l,r⟩:=h
  exact⟨vs,q,l,Reps.more hM _ _ r⟩
 | _=>exact h.elim
theorem Sx.sub (s:Sx K G A δ P σ H) (h:∀ p∈P',p∈P):Sx K G A δ P' σ H :=
 ⟨s.old,s.stay,s.m0,s.pm,s.new,s.thr,s.len,s.dat,s.own,s.inj,fun p hp=>s.pnd p (h p hp)⟩
theorem S.sub (s:S K G δ P σ H) (h:∀ p∈P',p∈P):S K G δ P' σ H:=let ⟨A,x⟩:=s;⟨A,x.sub h⟩
theorem Sx.same (s:Sx K G A δ P σ H) (h:bh H H'):Sx K G A δ P σ H' where
 old:=fun b o e n=>h b o (s.old b o e n)
 stay:=fun b e=>by
  cases q:H b with
  | none=>exact absurd q (s.stay b e)
  | some o=>rw [h b o q];exact fun z=>nomatch z
 m0:=s.m0
 pm:=s.pm
 new:=s.new
 thr:=fun b e=>by
  cases q:H b with
  | none=>exact absurd q (s.thr b e)
  | some o=>rw [h b o q];exact fun z=>nomatch z
 len:=s.len
 dat:=fun i d e=>let ⟨v,q,r⟩:=s.dat i d e;⟨v,q,yF.kp (Kp.of_same h) _ _ r⟩
 own:=fun i a d e=>by
  obtain ⟨q,a1,o⟩:=s.own i a d e
  refine⟨q,a1,aR.kp (Kp.of_same h) ?_ o⟩
  cases z:H a with
  | none=>exact absurd z (s.thr a a1)
  | some o=>exact h a o z
 inj:=s.inj
 pnd:=fun p hp=>yF.kp (Kp.of_same h) _ _ (s.pnd p hp)
theorem Sx.push (s:Sx K G A δ P σ H) {d:D} {v:V} (h:yF K (fun b=>G.M0 b∨A b) H d v):Sx K G A δ ((d,v) :: P) σ H :=
 ⟨s.old,s.stay,s.m0,s.pm,s.new,s.thr,s.len,s.dat,s.own,s.inj,fun p hp=>by
  rcases List.mem_cons.mp hp with rfl | hp
  ·exact h
  ·exact s.pnd p hp⟩
theorem Sx.mem (s:Sx K G A δ P σ H):∀ b,(G.M0 b∨A b)→H b≠none:=fun b h=>h.elim (fun z=>s.stay b (s.m0 b z)) fun z=>s.thr b z
theorem Sx.reps (s:Sx K G A δ P σ H):∀ (ds:List D) (vs:List V),ds.length=vs.length→(∀ p∈ds.zip vs,p∈P)→Reps K (fun b=>G.M0 b∨A b) H ds vs
 | [],[],_,_=>Reps.nil
 | d :: ds,v :: vs,l,h=>Reps.cons (s.pnd (d,v) (h _ (List.mem_cons_self ..))) (Sx.reps s ds vs (Nat.succ.inj l) fun p hp=>h p (List.mem_cons_of_mem _ hp))
theorem S.pure {f:List D→(D→Prop)→Prop} {ds:List D} {vs:List V} {R:D→Prop} {Q:VK} (s:S K G δ P σ H) (hl:ds.length=vs.length) (hp:∀ p∈ds.zip vs,p∈P) (hs:∀ p∈P',p∈P) (hf:f ds R)
  (h:∀ d,R d→∀ v H',S K G δ ((d,v) :: P') σ H'→Q v H'):aB K f vs H Q:=by
 obtain ⟨A,x⟩:=s
 refine⟨fun b=>G.M0 b∨A b,ds,R,x.mem,x.reps ds vs hl hp,hf,fun d r v H' sm rp=>h d r v H' ⟨A,?_⟩⟩
 exact ((x.same sm).sub hs).push rp
theorem Sx.set {i:Nat} {d:D} {v:V} (s:Sx K G A δ P σ H) (hp:(d,v)∈P) (hs:∀ p∈P',p∈P):Sx K G A (δ.set i (.dat d)) P' (σ.set i (some v)) H where
 old:=s.old
 stay:=s.stay
 m0:=s.m0
 pm:=s.pm
 new:=s.new
 thr:=s.thr
 len:=by rw [List.length_set,List.length_set,s.len]
 dat:=fun j d' e=>by
  by_cases hij:i=j
  ·subst hij
   by_cases hl:i < δ.length
   ·rw [List.getElem?_set_self hl] at e
    cases e
    exact⟨v,by rw [List.getElem?_set_self (by rw [← s.len];exact hl)],s.pnd _ hp⟩
   ·rw [List.getElem?_eq_none (by rw [List.length_set];omega)] at e
    cases e
  ·rw [List.getElem?_set_ne hij] at e
   obtain ⟨v',q,r⟩:=s.dat j d' e
   exact⟨v',by rw [List.getElem?_set_ne hij];exact q,r⟩
 own:=fun j a d' e=>by
  by_cases hij:i=j
  ·subst hij
   by_cases hl:i < δ.length
   ·rw [List.getElem?_set_self hl] at e
    cases e
   ·rw [List.getElem?_eq_none (by rw [List.length_set];omega)] at e
    cases e
  ·rw [List.getElem?_set_ne hij] at e
   obtain ⟨q,r⟩:=s.own j a d' e
   exact⟨by rw [List.getElem?_set_ne hij];exact q,r⟩
 inj:=fun j k a d' e' h1 h2=>by
  have hj:δ[j]?=some (.own a d'):=by
   by_cases hij:i=j
   ·subst hij
    by_cases hl:i < δ.length
    ·rw [List.getElem?_set_self hl] at h1;cases h1
    ·rw [List.getElem?_eq_none (by rw [List.length_set];omega)] at h1;cases h1
   ·rw [List.getElem?_set_ne hij] at h1;exact h1
  have hk:δ[k]?=some (.own a e'):=by
   by_cases hij:i=k
   ·subst hij
    by_cases hl:i < δ.length
    ·rw [List.getElem?_set_self hl] at h2;cases h2
    ·rw [List.getElem?_eq_none (by rw [List.length_set];omega)] at h2;cases h2
   ·rw [List.getElem?_set_ne hij] at h2;exact h2
  exact s.inj j k a d' e' hj hk
 pnd:=fun p h=>s.pnd p (hs p h)
theorem S.set {i:Nat} {d:D} {v:V} (s:S K G δ P σ H) (hp:(d,v)∈P) (hs:∀ p∈P',p∈P):S K G (δ.set i (.dat d)) P' (σ.set i (some v)) H:=let ⟨A,x⟩:=s;⟨A,x.set hp hs⟩
end
end DL
namespace DL
open PySem L2
section
variable {K:PySem.W.Frag} {G:Gf} {A:Addr→Prop} {δ:List Sl} {P P':List (D×V)} {σ:St} {H H':Hp}
theorem aM {α:Type} {l:List α} {i j:Nat} {x y:α} (h:(l.set i x)[j]?=some y):(i=j∧x=y∧i < l.length)∨(i≠j∧l[j]?=some y):=by
 by_cases e:i=j
 ·subst e
  by_cases hl:i < l.length
  ·rw [List.getElem?_set_self hl] at h
   exact .inl ⟨rfl,Option.some.inj h,hl⟩
  ·rw [List.getElem?_eq_none (by rw [List.length_set];omega)] at h
   cases h
 ·rw [List.getElem?_set_ne e] at h
  exact .inr ⟨e,h⟩
theorem Sx.claim {i:Nat} {a:Addr} {d:D} (s:Sx K G A δ P σ H) (hn:H a=none) (hs:bh H H') (ho:aR K (fun b=>(G.M0 b∨A b)∨b=a) H' a d) (hP:∀ p∈P',p∈P) :
  Sx K G (fun b=>A b∨b=a) (δ.set i (.own a d)) P' (σ.set i (some (.ref a))) H':=by
 have x:=s.same hs
 have hM:∀ b,(G.M0 b∨(A b∨b=a))→(G.M0 b∨A b)∨H b=none:=fun b h=>by
  rcases h with h | h | h
  ·exact .inl (.inl h)
  ·exact .inl (.inr h)
  ·subst h;exact .inr hn
 have hM2:∀ b,(G.M0 b∨(A b∨b=a))→((G.M0 b∨A b)∨b=a)∨H' b=none:=fun b h=>by
  rcases h with h | h | h
  ·exact .inl (.inl (.inl h))
  ·exact .inl (.inl (.inr h))
  ·exact .inl (.inr h)
 have up:∀ d v,yF K (fun b=>G.M0 b∨A b) H d v→yF K (fun b=>G.M0 b∨(A b∨b=a)) H' d v:=fun d v r=>yF.kp (Kp.of_same hs) _ _ (yF.more hM _ _ r)
 have na:∀ b,A b→b≠a:=fun b h e=>s.thr b h (by rw [e];exact hn)
 have h0:G.H0 a=none:=by
  cases q:G.H0 a with
  | none=>rfl
  | some o=>exact absurd hn (s.stay a (by rw [q];exact fun z=>nomatch z))
 have hne:H' a≠none:=by
  cases d with
  | lst ds=>obtain ⟨vs,q,_⟩:=ho;rw [q];exact fun z=>nomatch z
  | dct ks ds=>obtain ⟨vs,q,_⟩:=ho;rw [q];exact fun z=>nomatch z
  | _=>exact ho.elim
 refine⟨x.old,x.stay,x.m0,x.pm,fun b h=>h.elim (s.new b) fun e=>.inl (by rw [e];exact h0),fun b h=>h.elim (x.thr b) fun e=>by rw [e];exact hne,by rw [List.length_set,List.length_set,s.len],fun j d' e=>?_,fun j b d' e=>?_,
  fun j k b d' e' h1 h2=>?_,fun p hp=>up _ _ (s.pnd p (hP p hp))⟩
 ·rcases aM e with ⟨_,z,_⟩ | ⟨hij,e⟩
  ·cases z
  ·obtain ⟨v,q,r⟩:=s.dat j d' e
   exact⟨v,by rw [List.getElem?_set_ne hij];exact q,up _ _ r⟩
 ·rcases aM e with ⟨hij,z,hl⟩ | ⟨hij,e⟩
  ·cases z
   subst hij
   exact⟨by rw [List.getElem?_set_self (by rw [← s.len];exact hl)],.inr rfl,aR.more hM2 ho⟩
  ·obtain ⟨q,r,o⟩:=s.own j b d' e
   refine⟨by rw [List.getElem?_set_ne hij];exact q,.inl r,aR.kp (Kp.of_same hs) ?_ (aR.more hM o)⟩
   cases z:H b with
   | none=>exact absurd z (s.thr b r)
   | some o'=>exact hs b o' z
 ·rcases aM h1 with ⟨hij,z,hl⟩ | ⟨hij,e⟩
  ·cases z
   rcases aM h2 with ⟨hik,_,_⟩ | ⟨hik,e2⟩
   ·rw [← hij,← hik]
   ·exact absurd rfl (na _ (s.own k _ _ e2).2.1)
  ·rcases aM h2 with ⟨hik,z,_⟩ | ⟨hik,e2⟩
   ·cases z
    exact absurd rfl (na _ (s.own j _ _ e).2.1)
   ·exact s.inj j k b d' e' e e2
theorem Sx.change {i:Nat} {a:Addr} {d d':D} (s:Sx K G A δ P σ H) (hi:δ[i]?=some (.own a d)) (hk:∀ b o,b≠a→H b=some o→H' b=some o) (ho:aR K (fun b=>G.M0 b∨A b) H' a d') :
  Sx K G A (δ.set i (.own a d')) P σ H':=by
 obtain ⟨si,ai,oi⟩:=s.own i a d hi
 have hmu:(∀ xs,H a≠some (.tup xs))∧∀ o u,H a≠some (.frz o u):=by
  cases d with
  | lst ds=>obtain ⟨vs,q,_⟩:=oi;rw [q];exact⟨fun _ z=>(nomatch z),fun _ _ z=>(nomatch z)⟩
  | dct ks ds=>obtain ⟨vs,q,_⟩:=oi;rw [q];exact⟨fun _ z=>(nomatch z),fun _ _ z=>(nomatch z)⟩
  | _=>exact oi.elim
 have hne:H' a≠none:=by
  cases d' with
  | lst ds=>obtain ⟨vs,q,_⟩:=ho;rw [q];exact fun z=>nomatch z
  | dct ks ds=>obtain ⟨vs,q,_⟩:=ho;rw [q];exact fun z=>nomatch z
  | _=>exact ho.elim
 have kp:Kp (fun b=>G.M0 b∨A b) H H':=⟨fun b o e n=>hk b o (fun z=>n (.inr (by rw [z];exact ai))) e,fun b xs e=>hk b _ (fun z=>hmu.1 xs (by rw [← z];exact e)) e,
  fun b o u e=>hk b _ (fun z=>hmu.2 o u (by rw [← z];exact e)) e⟩
 have stay:∀ b,H b≠none→H' b≠none:=fun b e=>by
  by_cases z:b=a
  ·rw [z];exact hne
  ·cases q:H b with
   | none=>exact absurd q e
   | some o=>rw [hk b o z q];exact fun z=>nomatch z
 have na:∀ b o,G.H0 b=some o→¬ G.Pm b→b≠a:=fun b o e n z=>(s.new a ai).elim (fun q=>by rw [z] at e;rw [e] at q;cases q) fun q=>n (by rw [z];exact q)
 refine⟨fun b o e n=>hk b o (na b o e n) (s.old b o e n),fun b e=>stay b (s.stay b e),s.m0,s.pm,s.new,fun b e=>stay b (s.thr b e),by rw [List.length_set,s.len],fun j x e=>?_,fun j b x e=>?_,fun j k b x y h1 h2=>?_,
  fun p hp=>yF.kp kp _ _ (s.pnd p hp)⟩
 ·rcases aM e with ⟨_,z,_⟩ | ⟨hij,e⟩
  ·cases z
  ·obtain ⟨v,q,r⟩:=s.dat j x e
   exact⟨v,q,yF.kp kp _ _ r⟩
 ·rcases aM e with ⟨hij,z,hl⟩ | ⟨hij,e9⟩
  ·cases z
   subst hij
   exact⟨si,ai,ho⟩
  ·clear e
   obtain ⟨q,r,o⟩:=s.own j b x e9
   have hb:b≠a:=fun z=>by rw [z] at e9;exact hij (s.inj _ _ _ _ _ hi e9)
   refine⟨q,r,aR.kp kp ?_ o⟩
   cases z:H b with
   | none=>exact absurd z (s.thr b r)
   | some o'=>exact hk b o' hb z
 ·have hj:∃ x',δ[j]?=some (.own b x'):=by
   rcases aM h1 with ⟨hij,z,hl⟩ | ⟨hij,e⟩
   ·cases z;subst hij;exact⟨_,hi⟩
   ·exact⟨_,e⟩
  have hk':∃ x',δ[k]?=some (.own b x'):=by
   rcases aM h2 with ⟨hij,z,hl⟩ | ⟨hij,e⟩
   ·cases z;subst hij;exact⟨_,hi⟩
   ·exact⟨_,e⟩
  obtain ⟨x1,e1⟩:=hj
  obtain ⟨x2,e2⟩:=hk'
  exact s.inj j k b x1 x2 e1 e2
theorem aR.rep {M M':Addr→Prop} {a:Addr} {d:D} (h:aR K M H a d) (n:¬ M' a) (hM:∀ b,M' b→M b):yF K M' H d (.ref a):=by
 cases d with
 | lst ds =>
  obtain ⟨vs,q,r⟩:=h
  unfold yF
  exact⟨a,vs,rfl,n,q,Reps.more (fun b z=>.inl (hM b z)) _ _ r⟩
 | dct ks ds =>
  obtain ⟨vs,q,l,r⟩:=h
  unfold yF
  exact⟨a,vs,rfl,n,q,l,Reps.more (fun b z=>.inl (hM b z)) _ _ r⟩
 | _=>exact h.elim
theorem Sx.freeze {i:Nat} {a:Addr} {d:D} (s:Sx K G A δ P σ H) (hi:δ[i]?=some (.own a d)) (hp:¬ G.M0 a):Sx K G (fun b=>A b∧b≠a) (δ.set i (.dat d)) P σ H:=by
 obtain ⟨si,ai,oi⟩:=s.own i a d hi
 have hM:∀ b,(G.M0 b∨(A b∧b≠a))→(G.M0 b∨A b):=fun b h=>h.elim .inl fun z=>.inr z.1
 have dn:∀ d v,yF K (fun b=>G.M0 b∨A b) H d v→yF K (fun b=>G.M0 b∨(A b∧b≠a)) H d v:=fun d v r=>yF.more (fun b z=>.inl (hM b z)) _ _ r
 refine⟨s.old,s.stay,s.m0,s.pm,fun b h=>s.new b h.1,fun b h=>s.thr b h.1,by rw [List.length_set,s.len],fun j x e=>?_,fun j b x e=>?_,fun j k b x y h1 h2=>?_,fun p hp=>dn _ _ (s.pnd p hp)⟩
 ·rcases aM e with ⟨hij,z,_⟩ | ⟨hij,e⟩
  ·cases z;subst hij
   exact⟨.ref a,si,oi.rep (fun z=>z.elim hp fun q=>q.2 rfl) hM⟩
  ·obtain ⟨v,q,r⟩:=s.dat j x e
   exact⟨v,q,dn _ _ r⟩
 ·rcases aM e with ⟨_,z,_⟩ | ⟨hij,e9⟩
  ·cases z
  ·clear e
   obtain ⟨q,r,o⟩:=s.own j b x e9
   have hb:b≠a:=fun z=>by rw [z] at e9;exact hij (s.inj _ _ _ _ _ hi e9)
   exact⟨q,⟨r,hb⟩,aR.more (fun b z=>.inl (hM b z)) o⟩
 ·rcases aM h1 with ⟨_,z,_⟩ | ⟨_,e1⟩
  ·cases z
  ·rcases aM h2 with ⟨_,z,_⟩ | ⟨_,e2⟩
   ·cases z
   ·exact s.inj j k b x y e1 e2
end
end DL
namespace DL
open PySem PySem.Spec PyProof.Rows L2
inductive W where
 | d (x:D) | o (i:Nat)
abbrev En:=List Sl
abbrev yM:=En→(W→En→Prop)→Prop
abbrev yS:=En→(List D→En→Prop)→Prop
abbrev TDT:=En→(Bool→En→Prop)→Prop
structure ax where
 nx:En→Prop
 rt:D→En→Prop
 bk:En→Prop:=fun _=>False
 ct:En→Prop:=fun _=>False
 ro:D→Prop:=fun _=>False
 tp:Prop:=False
 ex:Str→Str→D→Prop:=fun _ _ _=>False
abbrev TDS:=ax→En→Prop
abbrev TDG:=D→En→(En→Prop)→Prop
abbrev tW:=List D→En→(En→Prop)→Prop
def wd (R:D→En→Prop):W→En→Prop
 | .d x,δ=>R x δ
 | .o _,_=>False
def qB:D→(Bool→Prop)→Prop
 | .bl b,k=>k b
 | _,_=>False
def qI:D→(Int→Prop)→Prop
 | .int b,k=>k b
 | _,_=>False
def qX:D→(Str→Prop)→Prop
 | .str b,k=>k b
 | _,_=>False
def qT:D→(List D→Prop)→Prop
 | .tup b,k=>k b
 | _,_=>False
def qL:D→(List D→Prop)→Prop
 | .lst b,k=>k b
 | _,_=>False
def qW:Option Sl→(Addr→D→Prop)→Prop
 | some (.own a d),k=>k a d
 | _,_=>False
def qD:Option Sl→(D→Prop)→Prop
 | some (.dat d),k=>k d
 | _,_=>False
def qWL (o:Option Sl) (k:Addr→List D→Prop):Prop:=qW o fun a d=>qL d fun xs=>k a xs
def qG:D→(List Str→List D→Prop)→Prop
 | .dct ks ds,k=>k ks ds
 | _,_=>False
def qWD (o:Option Sl) (k:Addr→List Str→List D→Prop):Prop:=qW o fun a d=>qG d fun ks ds=>k a ks ds
def qF:D→(List Str→List D→Prop)→Prop
 | .fd ks ds,k=>k ks ds
 | _,_=>False
def qV {α:Type}:Option α→(α→Prop)→Prop
 | some a,k=>k a
 | none,_=>False
def qN:List D→Prop→Prop
 | [],k=>k
 | _ :: _,_=>False
def qC:List D→(D→List D→Prop)→Prop
 | x :: r,k=>k x r
 | [],_=>False
def q9:List D→Prop→Prop
 | [],k=>k
 | [_],k=>k
 | [_,_],k=>k
 | [_,_,_],k=>k
 | [_,_,_,_],k=>k
 | xs,k=>xs.length≤9000∧k
def qWe (o:Option Sl) (k:D→Prop):Prop:=qW o fun _ d=>k d
def n6 (o:Option Sl) (k:List D→Prop):Prop:=qW o fun _ d=>qL d fun xs=>k xs
def qWDe (o:Option Sl) (k:List Str→List D→Prop):Prop:=qW o fun _ d=>qG d fun ks ds=>k ks ds
def fJ (δ:En) (i:Nat) (x:Sl) (k:En→Prop):Prop:=k (δ.set i x)
def nr:List D→Nat→Prop→Prop
 | [],0,k=>k
 | _ :: r,n + 1,k=>nr r n k
 | _,_,_=>False
theorem nr.ex {k:Prop}:∀ {xs:List D} {n:Nat},nr xs n k→xs.length=n∧k
 | [],0,h=>⟨rfl,h⟩
 | _ :: r,n + 1,h=>let ⟨a,b⟩:=nr.ex (xs:=r) (n:=n) h;⟨by rw [List.length_cons,a],b⟩
 | [],_ + 1,h=>False.elim h
 | _ :: _,0,h=>False.elim h
def kD (R:W→En→Prop) (δ:En) (d:D):Prop:=R (.d d) δ
theorem qB.ex {x:D} {k:Bool→Prop} (h:qB x k):∃ b,x=.bl b∧k b:=by cases x<;>first | exact False.elim h | exact⟨_,rfl,h⟩
theorem qI.ex {x:D} {k:Int→Prop} (h:qI x k):∃ b,x=.int b∧k b:=by cases x<;>first | exact False.elim h | exact⟨_,rfl,h⟩
theorem qX.ex {x:D} {k:Str→Prop} (h:qX x k):∃ b,x=.str b∧k b:=by cases x<;>first | exact False.elim h | exact⟨_,rfl,h⟩
theorem qT.ex {x:D} {k:List D→Prop} (h:qT x k):∃ b,x=.tup b∧k b:=by cases x<;>first | exact False.elim h | exact⟨_,rfl,h⟩
theorem qL.ex {x:D} {k:List D→Prop} (h:qL x k):∃ b,x=.lst b∧k b:=by cases x<;>first | exact False.elim h | exact⟨_,rfl,h⟩
theorem qG.ex {x:D} {k:List Str→List D→Prop} (h:qG x k):∃ ks ds,x=.dct ks ds∧k ks ds:=by cases x<;>first | exact False.elim h | exact⟨_,_,rfl,h⟩
theorem qW.ex {o:Option Sl} {k:Addr→D→Prop} (h:qW o k):∃ a d,o=some (.own a d)∧k a d:=by
 cases o with
 | none=>exact False.elim h
 | some x=>cases x<;>first | exact False.elim h | exact⟨_,_,rfl,h⟩
theorem qD.ex {o:Option Sl} {k:D→Prop} (h:qD o k):∃ d,o=some (.dat d)∧k d:=by
 cases o with
 | none=>exact False.elim h
 | some x=>cases x<;>first | exact False.elim h | exact⟨_,rfl,h⟩
theorem qWL.ex {o:Option Sl} {k:Addr→List D→Prop} (h:qWL o k):∃ a d,o=some (.own a (.lst d))∧k a d:=by
 replace h:=qW.ex h
 obtain ⟨a,d,rfl,h⟩:=h
 replace h:=qL.ex h
 obtain ⟨xs,rfl,h⟩:=h
 exact⟨_,_,rfl,h⟩
theorem qWe.ex {K:PySem.W.Frag} {G:Gf} {A:Addr→Prop} {δ:En} {P:List (D×V)} {σ:L2.St} {H:Hp} {i:Nat} {a:Addr} {k:D→Prop} (x:Sx K G A δ P σ H) (e:σ[i]?=some (some (.ref a))) (h:qWe δ[i]? k):∃ d,δ[i]?=some (.own a d)∧k d:=by
 obtain ⟨b,d,hi,h⟩:=qW.ex h
 have q:=(x.own i b d hi).1
 rw [e] at q
 cases q
 exact⟨_,hi,h⟩
theorem n6.ex {K:PySem.W.Frag} {G:Gf} {A:Addr→Prop} {δ:En} {P:List (D×V)} {σ:L2.St} {H:Hp} {i:Nat} {a:Addr} {k:List D→Prop} (x:Sx K G A δ P σ H) (e:σ[i]?=some (some (.ref a))) (h:n6 δ[i]? k):∃ d,δ[i]?=some (.own a (.lst d))∧k d:=by
 obtain ⟨d,hi,h⟩:=qWe.ex (k:=fun d=>qL d k) x e h
 obtain ⟨xs,rfl,h⟩:=qL.ex h
 exact⟨_,hi,h⟩
theorem qWDe.ex {K:PySem.W.Frag} {G:Gf} {A:Addr→Prop} {δ:En} {P:List (D×V)} {σ:L2.St} {H:Hp} {i:Nat} {a:Addr} {k:List Str→List D→Prop} (x:Sx K G A δ P σ H) (e:σ[i]?=some (some (.ref a))) (h:qWDe δ[i]? k):∃ ks ds,δ[i]?=some (.own a (.dct ks ds))∧k ks ds:=by
 obtain ⟨d,hi,h⟩:=qWe.ex (k:=fun d=>qG d k) x e h
 obtain ⟨ks,ds,rfl,h⟩:=qG.ex h
 exact⟨_,_,hi,h⟩
theorem qV.ex {α:Type} {o:Option α} {k:α→Prop} (h:qV o k):∃ a,o=some a∧k a:=by
 cases o with
 | none=>exact False.elim h
 | some x=>exact⟨_,rfl,h⟩
theorem qV.of {α:Type} {o:Option α} {k:α→Prop} {a:α} (e:o=some a) (h:k a):qV o k:=by rw [e];exact h
theorem qN.ex {x:List D} {k:Prop} (h:qN x k):x=[]∧k:=by
 cases x with
 | nil=>exact⟨rfl,h⟩
 | cons _ _=>exact False.elim h
theorem qC.ex {x:List D} {k:D→List D→Prop} (h:qC x k):∃ a r,x=a :: r∧k a r:=by
 cases x with
 | nil=>exact False.elim h
 | cons _ _=>exact⟨_,_,rfl,h⟩
theorem q9.ex {x:List D} {k:Prop} (h:q9 x k):x.length≤9000∧k:=by
 rcases x with _ | ⟨a,_ | ⟨b,_ | ⟨c,_ | ⟨d,_ | ⟨e,l⟩⟩⟩⟩⟩
 ·exact⟨Nat.zero_le _,h⟩
 ·exact⟨(by simp only [List.length_cons,List.length_nil];omega),h⟩
 ·exact⟨(by simp only [List.length_cons,List.length_nil];omega),h⟩
 ·exact⟨(by simp only [List.length_cons,List.length_nil];omega),h⟩
 ·exact⟨(by simp only [List.length_cons,List.length_nil];omega),h⟩
 ·exact h
inductive Up (K:PySem.W.Frag) (t:yM) (σ:L2.St) (H:Hp) (Q:VK):Prop
 | mk (G:Gf) (δ:En) (P:List (D×V)) (R:W→En→Prop) (s:S K G δ P σ H) (h:t δ R) (k:(∀ x δ',R (.d x) δ'→∀ v H',S K G δ' ((x,v) :: P) σ H'→Q v H')∧(∀ i δ',R (.o i) δ'→∀ a d H',S K G δ' P σ H'→δ'[i]?=some (.own a d)→Q (.ref a) H'))
def up (K:PySem.W.Frag) (t:yM):TE:=Up K t
inductive UpA (K:PySem.W.Frag) (t:yS) (σ:L2.St) (H:Hp) (Q:List V→Hp→Prop):Prop
 | mk (G:Gf) (δ:En) (P:List (D×V)) (R:List D→En→Prop) (s:S K G δ P σ H) (h:t δ R) (k:∀ ds δ',R ds δ'→∀ vs H',ds.length=vs.length→S K G δ' (ds.zip vs++P) σ H'→Q vs H')
def upA (K:PySem.W.Frag) (t:yS):TA:=UpA K t
inductive UpT (K:PySem.W.Frag) (t:TDT) (σ:L2.St) (H:Hp) (Q:Bool→Hp→Prop):Prop
 | mk (G:Gf) (δ:En) (P:List (D×V)) (R:Bool→En→Prop) (s:S K G δ P σ H) (h:t δ R) (k:∀ b δ',R b δ'→∀ H',S K G δ' P σ H'→Q b H')
def upT (K:PySem.W.Frag) (t:TDT):TT:=UpT K t
inductive UpG (K:PySem.W.Frag) (t:TDG) (v:V) (σ:L2.St) (H:Hp) (Q:L2.St→Hp→Prop):Prop
 | mk (G:Gf) (δ:En) (P:List (D×V)) (d:D) (R:En→Prop) (s:S K G δ ((d,v) :: P) σ H) (h:t d δ R) (k:∀ δ',R δ'→∀ σ' H',S K G δ' P σ' H'→Q σ' H')
def upG (K:PySem.W.Frag) (t:TDG):TG:=UpG K t
inductive UpGs (K:PySem.W.Frag) (t:tW) (vs:List V) (σ:L2.St) (H:Hp) (Q:L2.St→Hp→Prop):Prop
 | mk (G:Gf) (δ:En) (P:List (D×V)) (ds:List D) (R:En→Prop) (hl:ds.length=vs.length) (s:S K G δ (ds.zip vs++P) σ H) (h:t ds δ R) (k:∀ δ',R δ'→∀ σ' H',S K G δ' P σ' H'→Q σ' H')
def upGs (K:PySem.W.Frag) (t:tW):TGs:=UpGs K t
def qq (K:PySem.W.Frag) (G:Gf) (H':Hp) (a:Addr) (d:D):Prop:=(∀ b o,G.H0 b=some o→¬ G.Pm b→H' b=some o)∧(G.H0 a=none∨G.Pm a)∧¬ G.M0 a∧aR K (fun b=>G.M0 b∨b=a) H' a d
inductive UpS (K:PySem.W.Frag) (W:XK) (t:TDS) (E:sH) (σ:L2.St) (H:Hp):Prop
 | mk (G:Gf) (δ:En) (P:List (D×V)) (R:ax) (s:S K G δ P σ H) (h:t R δ) (k:(∀ δ',R.nx δ'→∀ σ' H',S K G δ' P σ' H'→E.nx σ' H')∧((∀ d δ',R.rt d δ'→∀ v σ' H',S K G δ' ((d,v) :: P) σ' H'→E.rt v H')∧(∀ d,R.ro d→∀ a H',qq K G H' a d→E.rt (.ref a) H')∧∀ c f d,R.ex c f d→∀ e C dx δ' σ' H',S K G δ' ((.exn c f d,.ref e) :: P) σ' H'→H' e=some (XAt e C dx)→W (.ref e) (some dx) H') ∧
 (∀ δ',R.bk δ'→∀ σ' H',S K G δ' P σ' H'→E.bk σ' H')∧(∀ δ',R.ct δ'→∀ σ' H',S K G δ' P σ' H'→E.ct σ' H')∧(R.tp→P=[]∧∀ b o,G.H0 b=some o→∃ ob xs,o=.frz ob (.lst xs)))
theorem exs {K:PySem.W.Frag} {G:Gf} {P:List (D×V)} {W:XK} {R:Str→Str→D→Prop} {q:D×V} (k:∀ c f d,R c f d→∀ e C dx δ' σ' H',S K G δ' ((.exn c f d,.ref e) :: P) σ' H'→H' e=some (XAt e C dx)→W (.ref e) (some dx) H') :
  ∀ c f d,R c f d→∀ e C dx δ' σ' H',S K G δ' ((.exn c f d,.ref e) :: q :: P) σ' H'→H' e=some (XAt e C dx)→W (.ref e) (some dx) H':=fun c f d r e C dx δ' σ' H' s=>k c f d r e C dx δ' σ' H' (s.sub fun p hp=>by
 rcases List.mem_cons.mp hp with rfl | hp
 ·simp
 ·simp [hp])
def ot (h:Heap) (e:Addr) (t:Value):Prop:=t=.none∨∃ T oT ts,t=.ref T∧T≠e∧h.get? T=some oT∧oT.data=.fields ts∧ts[3]?=some .none
structure iT (X:Cx) (pins:List (Addr×Obj)) (H':Hp) (e C dx:Addr) (s':Shared):Prop where
 ex:∃ (σ:L2.St) (a t:Value),L2.Inv X pins σ H' s'∧s'.heap.get? e=some (yE C (some dx) a t)∧ot s'.heap e t ∧
  (∀ T,t=.ref T→H' T=none∧X.s₀.heap.objs.size≤T∧T≠X.env.locals∧(∀ x c,X.env.cells.lookup x=some c→c≠T)∧∀ p∈X.pn++pins,p.1≠T)∧H' e=some (XAt e C dx)
def XEs (X:Cx):XK:=fun ev dxo H'=>∀ e C dx pins s',ev=.ref e→dxo=some dx→iT X pins H' e C dx s'→X.xe (.ref e) s'
def upS (X:Cx) (t:TDS):TS:=UpS X.K (XEs X) t
def DE (X:Cx) (e:Expr) (t:yM):Prop:=PE X e (up X.K t)
def DA (X:Cx) (es:List Expr) (t:yS):Prop:=PA X es (upA X.K t)
def DT (X:Cx) (e:Expr) (t:TDT):Prop:=PT X e (upT X.K t)
def DW (X:Cx) (e:Expr) (t:TDT):Prop:=PW X e (upT X.K t)
def DG (X:Cx) (e:Expr) (t:TDG):Prop:=PG X e (upG X.K t)
def DGs (X:Cx) (e:List Expr) (t:tW):Prop:=PGs X e (upGs X.K t)
def DS (X:Cx) (st:Stmt) (t:TDS):Prop:=PS X st (upS X t)
def DSs (X:Cx) (st:List Stmt) (t:TDS):Prop:=PSs X st (upS X t)
section
variable {X:Cx} {e:Expr} {pos:Pos}
theorem PE.imp {t t':TE} (h:PE X e t) (i:∀ σ H Q,t' σ H Q→t σ H Q):PE X e t':=fun pins s σ H Q I q=>h pins s σ H Q I (i σ H Q q)
theorem PT.imp {t t':TT} (h:PT X e t) (i:∀ σ H Q,t' σ H Q→t σ H Q):PT X e t':=fun pins s σ H Q I q=>h pins s σ H Q I (i σ H Q q)
theorem PW.imp {t t':TT} (h:PW X e t) (i:∀ σ H Q,t' σ H Q→t σ H Q):PW X e t':=fun wh pins s σ H Q I q=>h wh pins s σ H Q I (i σ H Q q)
theorem PA.imp {es:List Expr} {t t':TA} (h:PA X es t) (i:∀ σ H Q,t' σ H Q→t σ H Q):PA X es t':=fun p pins s σ H Q I q=>h p pins s σ H Q I (i σ H Q q)
theorem PS.imp {st:Stmt} {t t':TS} (h:PS X st t) (i:∀ E σ H,t' E σ H→t E σ H):PS X st t':=fun pins s σ H D I q=>h pins s σ H D I (i D σ H q)
theorem PSs.imp {st:List Stmt} {t t':TS} (h:PSs X st t) (i:∀ E σ H,t' E σ H→t E σ H):PSs X st t':=fun pins s σ H D I q=>h pins s σ H D I (i D σ H q)
theorem PG.imp {t t':TG} (h:PG X e t) (i:∀ v σ H Q,t' v σ H Q→t v σ H Q):PG X e t':=fun pins s σ H v u Q I r q=>h pins s σ H v u Q I r (i v σ H Q q)
theorem PGs.imp {es:List Expr} {t t':TGs} (h:PGs X es t) (i:∀ v σ H Q,t' v σ H Q→t v σ H Q):PGs X es t':=fun pins s σ H v u Q I r q=>h pins s σ H v u Q I r (i v σ H Q q)
theorem yK.imp {f:Value→Value→Sem Value} {r r':R2} (h:yK X f r) (i:∀ x y H Q,r' x y H Q→r x y H Q):yK X f r':=fun pins s σ H x y v u Q I rx ry q=>h pins s σ H x y v u Q I rx ry (i x y H Q q)
theorem UnR.imp {f:Value→Sem Value} {r r':V→Hp→VK→Prop} (h:UnR X f r) (i:∀ x H Q,r' x H Q→r x H Q):UnR X f r':=fun pins s σ H x v Q I rx q=>h pins s σ H x v Q I rx (i x H Q q)
theorem bI.imp {f:Value} {r r':List V→Hp→VK→Prop} (h:bI X f r) (i:∀ xs H Q,r' xs H Q→r xs H Q):bI X f r':=fun pins s σ H x v Q I rx q=>h pins s σ H x v Q I rx (i x H Q q)
theorem IxR.imp {r r':R2} (h:IxR X r) (i:∀ x y H Q,r' x y H Q→r x y H Q):IxR X r':=fun value slice pins s σ H x y v u Q I rx ry q hs=>h value slice pins s σ H x y v u Q I rx ry (i x y H Q q) hs
end
section
variable {K:PySem.W.Frag} {G:Gf} {δ:En} {P:List (D×V)} {σ:L2.St} {H:Hp}
theorem up.mk {t:yM} {R:D→En→Prop} {Q:VK} (s:S K G δ P σ H) (h:t δ (wd R)) (k:∀ x δ',R x δ'→∀ v H',S K G δ' ((x,v) :: P) σ H'→Q v H'):up K t σ H Q:=⟨G,δ,P,wd R,s,h,k,fun _ _ z=>z.elim⟩
theorem S.dat {i:Nat} {d:D} (s:S K G δ P σ H) (e:δ[i]?=some (.dat d)):∃ v,σ[i]?=some (some v)∧S K G δ ((d,v) :: P) σ H:=by
 obtain ⟨A,x⟩:=s
 obtain ⟨v,q,r⟩:=x.dat i d e
 exact⟨v,q,A,x.push r⟩
theorem S.own {i:Nat} {a:Addr} {d:D} (s:S K G δ P σ H) (e:δ[i]?=some (.own a d)):σ[i]?=some (some (.ref a)):=let ⟨_,x⟩:=s;(x.own i a d e).1
def sc:D→Option V
 | .non=>some .non
 | .bl b=>some (.bl b)
 | .int i=>some (.int i)
 | .str x=>some (.str x)
 | _=>none
theorem yF.sc {M:Addr→Prop} {d:D} {v:V} (h:sc d=some v):yF K M H d v:=by
 cases d<;>simp only [DL.sc,Option.some.injEq,reduceCtorEq] at h<;>subst h<;>unfold yF<;>rfl
theorem S.sc {d:D} {v:V} (s:S K G δ P σ H) (h:sc d=some v):S K G δ ((d,v) :: P) σ H:=let ⟨A,x⟩:=s;⟨A,x.push (yF.sc h)⟩
end
def dV (i:Nat) (δ:En) (R:W→En→Prop):Prop:=qD δ[i]? fun d=>R (.d d) δ
def dC (d:D) (δ:En) (R:W→En→Prop):Prop:=R (.d d) δ
def kOb (f:List D→(D→Prop)→Prop) (x:D) (R:W→En→Prop):W→En→Prop:=wd fun y δ2=>f [x,y] (kD R δ2)
def kOa (f:List D→(D→Prop)→Prop) (tb:yM) (R:W→En→Prop):W→En→Prop:=wd fun x δ1=>tb δ1 (kOb f x R)
def dOp (f:List D→(D→Prop)→Prop) (ta tb:yM) (δ:En) (R:W→En→Prop):Prop:=ta δ (kOa f tb R)
def kUn (f:List D→(D→Prop)→Prop) (R:W→En→Prop):W→En→Prop:=wd fun x δ1=>f [x] (kD R δ1)
def dUn (f:List D→(D→Prop)→Prop) (ta:yM) (δ:En) (R:W→En→Prop):Prop:=ta δ (kUn f R)
def v9 (δ:En) (R:List D→En→Prop):Prop:=R [] δ
def kAd (x:D) (R:List D→En→Prop) (ds:List D) (δ:En):Prop:=R (x :: ds) δ
def kAc (t:yS) (R:List D→En→Prop):W→En→Prop:=wd fun x δ1=>t δ1 (kAd x R)
def qr (te:yM) (t:yS) (δ:En) (R:List D→En→Prop):Prop:=te δ (kAc t R)
def kCa (f:List D→(D→Prop)→Prop) (R:W→En→Prop) (ds:List D) (δ:En):Prop:=f ds (kD R δ)
def kc (f:List D→(D→Prop)→Prop) (t:yS) (δ:En) (R:W→En→Prop):Prop:=t δ (kCa f R)
def kTu (R:W→En→Prop) (ds:List D) (δ:En):Prop:=q9 ds (R (.d (.tup ds)) δ)
def dTup (t:yS) (δ:En) (R:W→En→Prop):Prop:=t δ (kTu R)
def kLs (R:W→En→Prop) (ds:List D) (δ:En):Prop:=q9 ds (R (.d (.lst ds)) δ)
def dLst (t:yS) (δ:En) (R:W→En→Prop):Prop:=t δ (kLs R)
def kTs (R:Bool→En→Prop):W→En→Prop:=wd fun x δ1=>qB x fun b=>R b δ1
def dTst (t:yM) (δ:En) (R:Bool→En→Prop):Prop:=t δ (kTs R)
def kAn (u:TDT) (R:Bool→En→Prop) (b:Bool) (δ:En):Prop:=if b=true then u δ R else R false δ
def dAnd (t u:TDT) (δ:En) (R:Bool→En→Prop):Prop:=t δ (kAn u R)
def kOr (u:TDT) (R:Bool→En→Prop) (b:Bool) (δ:En):Prop:=if b=true then R true δ else u δ R
def dOr (t u:TDT) (δ:En) (R:Bool→En→Prop):Prop:=t δ (kOr u R)
def kNo (R:Bool→En→Prop) (b:Bool) (δ:En):Prop:=R (!b) δ
def dNot (t:TDT) (δ:En) (R:Bool→En→Prop):Prop:=t δ (kNo R)
def kAV (u:yM) (R:W→En→Prop):W→En→Prop:=wd fun x δ1=>qB x fun b=>if b=true then u δ1 R else R (.d (.bl false)) δ1
def ww (t u:yM) (δ:En) (R:W→En→Prop):Prop:=t δ (kAV u R)
def kOV (u:yM) (R:W→En→Prop):W→En→Prop:=wd fun x δ1=>qB x fun b=>if b=true then R (.d (.bl true)) δ1 else u δ1 R
def dOrV (t u:yM) (δ:En) (R:W→En→Prop):Prop:=t δ (kOV u R)
def kNV (R:W→En→Prop):W→En→Prop:=wd fun x δ1=>qB x fun b=>R (.d (.bl (!b))) δ1
def wT (t:yM) (δ:En) (R:W→En→Prop):Prop:=t δ (kNV R)
section
variable {X:Cx} {pos:Pos} {a b c:Expr} {ta tb:yM} {t:yS} {f:List D→(D→Prop)→Prop} {es:List Expr}
theorem am (i:Nat) {x:Str} (hN:X.N[i]?=some x:=by rfl) (hv:Vis X.env.scope x:=by walk_at "v3") (hd:(x == ("__debug__":Str))=false:=by decide)
  (hcd:(x == ("__classdict__":Str))=false:=by decide):DE X (.Name x pos) (dV i):=PE.imp (aQ hN hv hd hcd) fun σ H Q ⟨G,δ,P,R,s,h,k,_⟩=>by
 replace h:=qD.ex h
 obtain ⟨d,e,h⟩:=h
 obtain ⟨v,q,s'⟩:=s.dat e
 exact⟨v,q,k d δ h v H s'⟩
theorem de_c {v:V} {d:D} (h:PE X a (tC v)) (hs:sc d=some v):DE X a (dC d):=PE.imp h fun σ H Q ⟨G,δ,P,R,s,r,k,_⟩=>k d δ r v H (s.sc hs)
theorem ag {i j pos}:DE X (.Constant (.int i) j pos) (dC (.int i)):=de_c uk rfl
theorem n8 {i j pos}:DE X (.Constant (.bool i) j pos) (dC (.bl i)):=de_c xA rfl
theorem qk {j pos}:DE X (.Constant .none j pos) (dC .non):=de_c wA rfl
theorem bB {x j pos}:DE X (.Constant (.str x) j pos) (dC (.str x)):=de_c jD rfl
theorem av {op:Operator} (ho:yK X (binaryOp op) fun x y=>aB X.K f [x,y]) (ha:DE X a ta) (hb:DE X b tb):DE X (.BinOp a op b pos) (dOp f ta tb) :=
 PE.imp (yc ho ha hb) fun σ H Q ⟨G,δ,P,R,s,h,k,_⟩=>up.mk s h fun x δ1 h1 v H1 s1=>up.mk s1 h1 fun y δ2 h2 u H2 s2 =>
  S.pure (P':=P) (ds:=[x,y]) (vs:=[v,u]) s2 rfl (by simp) (fun p hp=>by simp [hp]) h2 fun d r v' H' s'=>k d δ2 r v' H' s'
theorem fe {op:CmpOp} (ho:yK X (compareOp op) fun x y=>aB X.K f [x,y]) (ha:DE X a ta) (hb:DE X b tb) (hm:behindInMarks op b=false):DE X (.Compare a [op] [b] pos) (dOp f ta tb) :=
 PE.imp (tf ho ha hb hm) fun σ H Q ⟨G,δ,P,R,s,h,k,_⟩=>up.mk s h fun x δ1 h1 v H1 s1=>up.mk s1 h1 fun y δ2 h2 u H2 s2 =>
  S.pure (P':=P) (ds:=[x,y]) (vs:=[v,u]) s2 rfl (by simp) (fun p hp=>by simp [hp]) h2 fun d r v' H' s'=>k d δ2 r v' H' s'
theorem aK {op:CmpOp} (ho:yK X (compareOp op) fun x y=>aB X.K f [x,y]) (ha:DE X a ta) (hb:DE X b tb) (hm:behindInMarks op b=false):DT X (.Compare a [op] [b] pos) (dTst (dOp f ta tb)) :=
 PT.imp (sQ ho ha hb hm) fun σ H Q ⟨G,δ,P,R,s,h,k⟩=>up.mk s h fun x δ1 h1 v H1 s1=>up.mk s1 h1 fun y δ2 h2 u H2 s2 =>
  S.pure (P':=P) (ds:=[x,y]) (vs:=[v,u]) s2 rfl (by simp) (fun p hp=>by simp [hp]) h2 fun d r v' H' s'=>by
   replace r:=qB.ex r
   obtain ⟨b,e,r⟩:=r
   subst e
   have q:=s'
   obtain ⟨A,q⟩:=q
   have q2:=q.pnd (.bl b,v') (by simp)
   simp only [yF] at q2
   exact⟨b,q2,k b δ2 r H' (s'.sub fun p hp=>by simp [hp])⟩
theorem fu {op:UnaryOp} (ho:UnR X (unaryOp op) fun x=>aB X.K f [x]) (ha:DE X a ta):DE X (.UnaryOp op a pos) (dUn f ta) :=
 PE.imp (xa ho ha) fun σ H Q ⟨G,δ,P,R,s,h,k,_⟩=>up.mk s h fun x δ1 h1 v H1 s1 =>
  S.pure (P':=P) (ds:=[x]) (vs:=[v]) s1 rfl (by simp) (fun p hp=>by simp [hp]) h1 fun d r v' H' s'=>k d δ1 r v' H' s'
theorem fP (h:DE X a ta) (he:∀ whole,isTrue a X.env whole=(do let v←whole;standAt a.pos;holding [v] (truthy v)):=by intro _;rfl):DT X a (dTst ta) :=
 PT.imp (uG h he) fun σ H Q ⟨G,δ,P,R,s,h,k⟩=>up.mk s h fun x δ1 h1 v H1 s1=>by
  replace h1:=qB.ex h1
  obtain ⟨b,e,r⟩:=h1
  subst e
  obtain ⟨A,q⟩:=id s1
  have q2:=q.pnd (.bl b,v) (by simp)
  simp only [yF] at q2
  exact⟨b,q2,k b δ1 r H1 (s1.sub fun p hp=>by simp [hp])⟩
variable {tA tB':TDT} {bW:List Expr}
theorem DW.dt (h:DW X a tA):DT X a tA:=PW.pt h
theorem rP (ha:DT X a tA):DW X (.BoolOp .And [a] pos) tA:=sS ha
theorem pY (ha:DT X a tA):DW X (.BoolOp .Or [a] pos) tA:=uC ha
theorem vB (ha:DT X a tA) (hb:DW X (.BoolOp .And (b :: bW) pos) tB'):DW X (.BoolOp .And (a :: b :: bW) pos) (dAnd tA tB') :=
 PW.imp (u7 ha hb) fun σ H Q ⟨G,δ,P,R,s,h,k⟩=>⟨G,δ,P,_,s,h,fun b δ1 h1 H1 s1=>by
  cases b with
  | true=>exact⟨G,δ1,P,R,s1,h1,k⟩
  | false=>exact k false δ1 h1 H1 s1⟩
theorem wo (ha:DT X a tA) (hb:DW X (.BoolOp .Or (b :: bW) pos) tB'):DW X (.BoolOp .Or (a :: b :: bW) pos) (dOr tA tB') :=
 PW.imp (xJ ha hb) fun σ H Q ⟨G,δ,P,R,s,h,k⟩=>⟨G,δ,P,_,s,h,fun b δ1 h1 H1 s1=>by
  cases b with
  | true=>exact k true δ1 h1 H1 s1
  | false=>exact⟨G,δ1,P,R,s1,h1,k⟩⟩
theorem mD (ha:DT X a tA):DT X (.UnaryOp .Not a pos) (dNot tA) :=
 PT.imp (wE ha) fun σ H Q ⟨G,δ,P,R,s,h,k⟩=>⟨G,δ,P,_,s,h,fun b δ1 h1 H1 s1=>k _ δ1 h1 H1 s1⟩
theorem mJ {K:PySem.W.Frag} {G:Gf} {δ:En} {P:List (D×V)} {σ:L2.St} {H:Hp} {b:Bool} {v:V} (s:S K G δ ((.bl b,v) :: P) σ H):v=.bl b:=by
 obtain ⟨A,q⟩:=s
 have q2:=q.pnd (.bl b,v) (by simp)
 simpa only [yF] using q2
theorem jz {op} (h:DE X a ta):DE X (.BoolOp op [a] pos) ta:=vS h
theorem qm (ha:DE X a ta) (hb:DE X (.BoolOp .And (b :: bW) pos) tb):DE X (.BoolOp .And (a :: b :: bW) pos) (ww ta tb) :=
 PE.imp (uN ha hb) fun σ H Q ⟨G,δ,P,R,s,h,k,k2⟩=>up.mk s h fun x δ1 h1 v H1 s1=>by
  replace h1:=qB.ex h1
  obtain ⟨b,e,r⟩:=h1
  subst e
  refine⟨b,mJ s1,?_⟩
  cases b with
  | true=>exact⟨G,δ1,P,R,s1.sub fun p hp=>by simp [hp],r,k,k2⟩
  | false=>exact k (.bl false) δ1 r _ H1 (by rw [← mJ s1];exact s1)
theorem vq (ha:DE X a ta) (hb:DE X (.BoolOp .Or (b :: bW) pos) tb):DE X (.BoolOp .Or (a :: b :: bW) pos) (dOrV ta tb) :=
 PE.imp (xB ha hb) fun σ H Q ⟨G,δ,P,R,s,h,k,k2⟩=>up.mk s h fun x δ1 h1 v H1 s1=>by
  replace h1:=qB.ex h1
  obtain ⟨b,e,r⟩:=h1
  subst e
  refine⟨b,mJ s1,?_⟩
  cases b with
  | false=>exact⟨G,δ1,P,R,s1.sub fun p hp=>by simp [hp],r,k,k2⟩
  | true=>exact k (.bl true) δ1 r _ H1 (by rw [← mJ s1];exact s1)
theorem vW (ha:DE X a ta):DE X (.UnaryOp .Not a pos) (wT ta) :=
 PE.imp (wg ha) fun σ H Q ⟨G,δ,P,R,s,h,k,k2⟩=>up.mk s h fun x δ1 h1 v H1 s1=>by
  replace h1:=qB.ex h1
  obtain ⟨b,e,r⟩:=h1
  subst e
  exact⟨b,mJ s1,k _ δ1 r _ H1 ((s1.sub fun p hp=>by simp [hp]).sc rfl)⟩
theorem ak:DA X [] v9:=PA.imp bN fun σ H Q ⟨G,δ,P,R,s,h,k⟩=>k [] δ h [] H rfl s
theorem ae (ha:DE X a ta) (hr:DA X es t) (hs:starEach (a :: es) X.env=(false,eval a X.env) :: starEach es X.env:=by rfl):DA X (a :: es) (qr ta t) :=
 PA.imp (aA ha hr hs) fun σ H Q ⟨G,δ,P,R,s,h,k⟩=>up.mk s h fun x δ1 h1 v H1 s1=>⟨G,δ1,(x,v) :: P,_,s1,h1,fun ds δ2 h2 vs H2 hl s2 =>
  k (x :: ds) δ2 h2 (v :: vs) H2 (by simp [hl]) (s2.sub fun p hp=>by
   simp only [List.zip_cons_cons,List.cons_append,List.mem_cons,List.mem_append] at hp ⊢
   rcases hp with h | h | h
   ·exact .inr (.inl h)
   ·exact .inl h
   ·exact .inr (.inr h))⟩
theorem ap {H:Hp} {p:Addr} (h:H p=none) (o:HO):bh H (yV H p o):=fun b u q=>by rw [ar (bG q h)];exact q
theorem f7 {n:Nat} (h:n≤9000):n < sizeLine:=Nat.lt_of_le_of_lt h (by decide)
theorem bV {n:Nat} (h:n≤9000):n≤sizeLine:=Nat.le_of_lt (f7 h)
theorem cG {x1} (h:DA X es t):DE X (.Tuple es x1 pos) (dTup t) :=
 PE.imp (pK h) fun σ H Q ⟨G,δ,P,R,s,h,k,_⟩=>⟨G,δ,P,_,s,h,fun ds δ1 h9 vs H1 hl s1=>⟨by rw [← hl];exact bV (q9.ex h9).1,fun p hp=>by
  have h1:=(q9.ex h9).2
  obtain ⟨A,x⟩:=s1
  have r:=x.reps ds vs hl (fun q hq=>List.mem_append_left _ hq)
  have x2:=x.same (ap hp (.tup vs))
  refine k (.tup ds) δ1 h1 (.ref p) _ ⟨A,(x2.sub fun q hq=>List.mem_append_right _ hq).push ?_⟩
  unfold yF
  exact⟨p,vs,rfl,yR.of al,Reps.kp (Kp.of_same (ap hp _)) _ _ r⟩⟩⟩
theorem cy (h:DA X es t):DE X (.List es pos) (dLst t) :=
 PE.imp (lT h) fun σ H Q ⟨G,δ,P,R,s,h,k,_⟩=>⟨G,δ,P,_,s,h,fun ds δ1 h9 vs H1 hl s1=>⟨by rw [← hl];exact bV (q9.ex h9).1,fun p hp=>by
  have h1:=(q9.ex h9).2
  obtain ⟨A,x⟩:=s1
  have r:=x.reps ds vs hl (fun q hq=>List.mem_append_left _ hq)
  have x2:=x.same (ap hp (.lst vs))
  refine k (.lst ds) δ1 h1 (.ref p) _ ⟨A,(x2.sub fun q hq=>List.mem_append_right _ hq).push ?_⟩
  unfold yF
  exact⟨p,vs,rfl,fun z=>x.mem p z hp,al,Reps.kp (Kp.of_same (ap hp _)) _ _ r⟩⟩⟩
theorem dw (hr:IxR X fun x y=>aB X.K f [x,y]) (ha:DE X a ta) (hb:DE X b tb) (hs:jj b):DE X (.Subscript a b pos) (dOp f ta tb) :=
 PE.imp (wa hr ha hb hs) fun σ H Q ⟨G,δ,P,R,s,h,k,_⟩=>up.mk s h fun x δ1 h1 v H1 s1=>up.mk s1 h1 fun y δ2 h2 u H2 s2 =>
  S.pure (P':=P) (ds:=[x,y]) (vs:=[v,u]) s2 rfl (by simp) (fun p hp=>by simp [hp]) h2 fun d r v' H' s'=>k d δ2 r v' H' s'
def yQ (K:PySem.W.Frag) (f:List D→(D→Prop)→Prop):Sp:=fun vs H Q _=>aB K f vs H Q
theorem fY {K:PySem.W.Frag} {σ:L2.St} {H:Hp} {Q:VK} {f:List D→(D→Prop)→Prop} (h:up K (kc f t) σ H Q):upA K t σ H fun vs H1=>aB K f vs H1 Q:=by
 obtain ⟨G,δ,P,R,s,h,k,_⟩:=h
 exact⟨G,δ,P,_,s,h,fun ds δ1 h1 vs H1 hl s1=>S.pure (P':=P) s1 hl (fun p hp=>List.mem_append_left _ hp) (fun p hp=>List.mem_append_right _ hp) h1 fun d r v' H' s'=>k d δ1 r v' H' s'⟩
theorem sP {x:Str} {k:Nat} {g:Addr} {fd:FuncData} {ps:List Str} {p:Pos} (F:c8 X.prog X.w X.K X.mg X.base CX0 k g fd ps (yQ X.K f)) (hr:bP k X.A) (hg:Gl X x) (hm:X.mg x=some (.ref g)) (hk:PySem.W.keepIn X.K (.ref g)=true)
  (hb:cT X.K fd ps []) (ha:DA X (a :: es) t) (hdb:(x == ("__debug__":Str))=false:=by decide) (he:starEach (a :: es) X.env=(false,eval a X.env) :: starEach es X.env:=by rfl) (hpl:(backTo pos (starEach es X.env)).any (·.1)=false:=by rfl) :
  DE X (.Call (.Name x p) (a :: es) [] pos) (kc f t) :=
 PE.imp (ff F hr hg hm hk hb .nil nI ha hdb he hpl) fun σ H Q h=>by
  show upA X.K t σ H fun vs H1=>aB X.K f (vs++[]) H1 Q
  have q:=fY h
  simpa only [List.append_nil] using q
theorem bC {x:Str} {id:String} {p:Pos} (hc:bI X (.builtin id) (aB X.K f)) (hg:Gl X x) (hm:X.mg x=none) (hv:bootBuiltins x=some (.builtin id)) (ha:DA X (a :: es) t) (hn:x≠"__name__":=by decide) (hdb:(x == ("__debug__":Str))=false:=by decide)
  (he:starEach (a :: es) X.env=(false,eval a X.env) :: starEach es X.env:=by rfl) (hpl:(backTo pos (starEach es X.env)).any (·.1)=false:=by rfl):DE X (.Call (.Name x p) (a :: es) [] pos) (kc f t) :=
 PE.imp (cL hc hg hm hv ha hn hdb he hpl) fun σ H Q h=>fY h
theorem iy {x:Str} {T:String} {p:Pos} (hc:bI X (.type T) (aB X.K f)) (hg:Gl X x) (hm:X.mg x=none) (hv:bootBuiltins x=some (.type T)) (ha:DA X (a :: es) t) (hn:x≠"__name__":=by decide) (hdb:(x == ("__debug__":Str))=false:=by decide)
  (he:starEach (a :: es) X.env=(false,eval a X.env) :: starEach es X.env:=by rfl) (hpl:(backTo pos (starEach es X.env)).any (·.1)=false:=by rfl):DE X (.Call (.Name x p) (a :: es) [] pos) (kc f t) :=
 PE.imp (io hc hg hm hv ha hn hdb he hpl) fun σ H Q h=>fY h
end
def v8 (R:ax) (δ:En):Prop:=R.nx δ
def dSeq (t u:TDS) (R:ax) (δ:En):Prop:=t { R with nx:=u R } δ
def uA (t:yM) (R:ax) (δ:En):Prop:=t δ fun _ δ1=>R.nx δ1
def kRe (R:ax):W→En→Prop:=wd fun x δ1=>R.rt x δ1
def dRet (t:yM) (R:ax) (δ:En):Prop:=t δ (kRe R)
def kIf (t u:En→Prop) (b:Bool) (δ:En):Prop:=if b=true then t δ else u δ
def dIf (c:TDT) (t u:TDS) (R:ax) (δ:En):Prop:=c δ (kIf (t R) (u R))
def lC (_:ax) (_:En):Prop:=False
def kSe (i:Nat) (R:ax):W→En→Prop:=wd fun x δ1=>fJ δ1 i (.dat x) R.nx
def dSet (i:Nat) (t:yM) (R:ax) (δ:En):Prop:=t δ (kSe i R)
def kAs (g:TDG) (R:ax):W→En→Prop:=wd fun x δ1=>g x δ1 R.nx
def dPar (i j:Nat) (t:yS) (R:ax) (δ:En):Prop:=t δ fun ds δ1=>qC ds fun x r=>qC r fun y r=>qN r (fJ δ1 i (.dat x) fun δ2=>fJ δ2 j (.dat y) R.nx)
def cC (i:Nat) (x:D) (δ:En) (R:En→Prop):Prop:=fJ δ i (.dat x) R
def tR (ds:List D) (δ:En) (R:En→Prop):Prop:=qN ds (R δ)
def lG (t:TDG) (u:tW) (ds:List D) (δ:En) (R:En→Prop):Prop:=qC ds fun x r=>t x δ fun δ1=>u r δ1 R
def re (n:Nat) (t:tW) (d:D) (δ:En) (R:En→Prop):Prop:=qT d fun xs=>nr xs n (t xs δ R)
def pq (c:TDT) (tb:TDS) (R:ax) (δ:En):Prop:=∃ (I:En→Prop) (μ:En→Nat),I δ∧∀ δ,I δ→c δ (kIf (tb { R with nx:=fun δ'=>I δ'∧μ δ' < μ δ,ct:=fun δ'=>I δ'∧μ δ' < μ δ,bk:=R.nx,tp:=False }) R.nx)
def tL (t:yM) (g:TDG) (tb:TDS) (R:ax) (δ:En):Prop:=t δ (wd fun d δ1=>qL d fun xs=>∃ I:Nat→En→Prop,I 0 δ1 ∧
 (∀ i x δ',xs[i]?=some x→I i δ'→g x δ' (tb { R with nx:=I (i + 1),ct:=I (i + 1),bk:=R.nx,tp:=False }))∧∀ δ',I xs.length δ'→R.nx δ')
def nM (t:yM) (g:TDG) (tb:TDS) (R:ax) (δ:En):Prop:=t δ (wd fun d δ1=>qT d fun xs=>∃ I:Nat→En→Prop,I 0 δ1 ∧
 (∀ i x δ',xs[i]?=some x→I i δ'→g x δ' (tb { R with nx:=I (i + 1),ct:=I (i + 1),bk:=R.nx,tp:=False }))∧∀ δ',I xs.length δ'→R.nx δ')
def sT (t:yS) (g:TDG) (tb:TDS) (R:ax) (δ:En):Prop:=t δ fun ds δ1=>qC ds fun x r=>qN r <| qI x fun j=>-(2 ^ 62)≤j∧j < 2 ^ 62∧∃ I:Nat→En→Prop,I 0 δ1 ∧
 (∀ i δ',i < j.toNat→I i δ'→g (.int i) δ' (tb { R with nx:=I (i + 1),ct:=I (i + 1),bk:=R.nx,tp:=False }))∧∀ δ',I j.toNat δ'→R.nx δ'
section
variable {X:Cx} {pos:Pos} {a b c e tg:Expr} {ta:yM} {tA:TDT} {t u:TDS} {st:Stmt} {bW body:List Stmt} {g:TDG} {gs:tW} {tda:yS}
theorem aF:DSs X [] v8:=PSs.imp qx fun E σ H ⟨G,δ,P,R,s,h,k,_⟩=>k δ h σ H s
theorem af (h1:DS X st t) (h2:DSs X bW u):DSs X (st :: bW) (dSeq t u) :=
 PSs.imp (d4 h1 h2) fun E σ H ⟨G,δ,P,R,s,h,k1,k2,k3,k4⟩=>⟨G,δ,P,{ R with nx:=u R },s,h,fun δ' h' σ' H' s'=>⟨G,δ',P,R,s',h',k1,k2,k3,k4⟩,k2,k3,k4⟩
theorem aj (h1:DS X st t):DSs X [st] t:=eN h1
theorem mS (he:DE X e ta) (hs:swapsWith e none pos.line X.env=pure false:=by rfl):DS X (.Expr e pos) (uA ta) :=
 PS.imp (dh he hs) fun E σ H ⟨G,δ,P,R,s,h,k,_⟩=>⟨G,δ,P,_,s,h,fun x δ1 h1 v H1 s1=>k δ1 h1 σ H1 (s1.sub fun p hp=>by simp [hp]),fun i δ1 h1 a d H1 s1 _=>k δ1 h1 σ H1 s1⟩
theorem ay (he:DE X e ta):DS X (.Return (some e) pos) (dRet ta) :=
 PS.imp (md he) fun E σ H ⟨G,δ,P,R,s,h,_,k,_⟩=>up.mk s h fun x δ1 h1 v H1 s1=>k.1 x δ1 h1 v σ H1 s1
theorem bH {aa bb:List Stmt} (hc:DT X c tA) (ha:DSs X aa t) (hb:DSs X bb u):DS X (.If c aa bb pos) (dIf tA t u) :=
 PS.imp (wY hc ha hb) fun E σ H ⟨G,δ,P,R,s,h,k1,k2,k3,k4⟩=>⟨G,δ,P,_,s,h,fun b δ1 h1 H1 s1=>by
  cases b with
  | true=>exact⟨G,δ1,P,R,s1,h1,k1,k2,k3,k4⟩
  | false=>exact⟨G,δ1,P,R,s1,h1,k1,k2,k3,k4⟩⟩
theorem ds_never:DS X st lC:=PS.imp oH fun E σ H ⟨G,δ,P,R,s,h,_⟩=>h
theorem my:DSs X bW lC:=PSs.imp lf fun E σ H ⟨G,δ,P,R,s,h,_⟩=>h
theorem aw (i:Nat) {x:Str} {pos':Pos} (hN:X.N.Nodup) (he:DE X e ta) (hi:X.N[i]?=some x:=by rfl) (hx:Loc X.env.scope x:=by walk_at "v2") (hs:swapsWith e (some (.Name x pos')) pos.line X.env=pure false:=by rfl)
  (hf:X.fn x=true∨X.env.scope.names.lookup x=some .local :=by walk_at "v1"):DS X (.Assign [.Name x pos'] e pos) (dSet i ta) :=
 PS.imp (dI hN hi hx he hs hf) fun E σ H ⟨G,δ,P,R,s,h,k,_⟩=>up.mk s h fun x δ1 h1 v H1 s1=>k _ h1 _ H1 (s1.set (by simp) fun p hp=>by simp [hp])
theorem aE (i:Nat) {x:Str} (hN:X.N.Nodup) (hi:X.N[i]?=some x:=by rfl) (hx:Loc X.env.scope x:=by walk_at "v2") (hf:X.fn x=true∨X.env.scope.names.lookup x=some .local :=by walk_at "v1") :
  DG X (.Name x pos) (cC i):=PG.imp (sK hN hi hx hf) fun v σ H Q ⟨G,δ,P,d,R,s,h,k⟩=>k _ h _ H (s.set (by simp) fun p hp=>by simp [hp])
theorem jf:DGs X [] tR:=PGs.imp t6 fun vs σ H Q ⟨G,δ,P,ds,R,hl,s,h,k⟩=>by
 replace h:=qN.ex h
 obtain ⟨e,h⟩:=h
 subst e
 have:vs=[]:=List.length_eq_zero_iff.mp hl.symm
 subst this
 exact⟨rfl,k δ h σ H s⟩
theorem cp {es:List Expr} (h1:DG X e g) (h2:DGs X es gs) (hs:(assignEach (e :: es) X.env).map (·.2)=assign e X.env :: (assignEach es X.env).map (·.2):=by rfl):DGs X (e :: es) (lG g gs) :=
 PGs.imp (o0 h1 h2 hs) fun vs σ H Q ⟨G,δ,P,ds,R,hl,s,h,k⟩=>by
  replace h:=qC.ex h
  obtain ⟨x,r,e,h⟩:=h
  subst e
  cases vs with
  | nil=>cases hl
  | cons v vs =>
   refine⟨v,vs,rfl,G,δ,r.zip vs++P,x,_,s.sub fun p hp=>by simpa using hp,h,fun δ1 h1 σ1 H1 s1=>⟨G,δ1,P,r,R,Nat.succ.inj hl,s1,h1,k⟩⟩
theorem mv {es:List Expr} {kk n:Nat} (hc:X.calm=true) (h:DGs X es gs) (hn:(assignEach es X.env).length=n:=by rfl) (hst:(assignEach es X.env).findIdx? (·.1)=none:=by rfl):DG X (.Tuple es kk pos) (re n gs) :=
 PG.imp (wm hc h hn hst) fun v σ H Q ⟨G,δ,P,d,R,s,h,k⟩=>by
  replace h:=qT.ex h
  obtain ⟨xs,e,h⟩:=h
  replace h:=nr.ex h
  obtain ⟨hl,h⟩:=h
  subst e
  obtain ⟨A,x⟩:=s
  have q:=x.pnd (.tup xs,v) (by simp)
  simp only [yF] at q
  obtain ⟨a,vs,e,sq,r⟩:=q
  subst e
  refine⟨a,vs,rfl,sq,by rw [← Reps.length _ _ r];exact hl,G,δ,P,xs,R,Reps.length _ _ r,⟨A,?_⟩,h,k⟩
  exact⟨x.old,x.stay,x.m0,x.pm,x.new,x.thr,x.len,x.dat,x.own,x.inj,fun p hp=>by
   rcases List.mem_append.mp hp with hp | hp
   ·obtain ⟨i,hi,e⟩:=List.mem_iff_getElem.mp hp
    have h1:i < xs.length:=by rw [List.length_zip] at hi;omega
    have h2:i < vs.length:=by rw [List.length_zip] at hi;omega
    obtain ⟨v',e',r'⟩:=Reps.get _ _ r i xs[i] (by simp [h1])
    have:p=(xs[i],vs[i]):=by rw [← e,List.getElem_zip]
    rw [this]
    rw [List.getElem?_eq_getElem h2] at e'
    cases e'
    exact r'
   ·exact x.pnd p (by simp [hp])⟩
theorem u6 (i j:Nat) {x y:Str} {px py pt pt2:Pos} {kt k2} (hc:X.calm=true) (hN:X.N.Nodup) (hij:i≠j) (ha:DA X [a,b] tda) (hi:X.N[i]?=some x:=by rfl) (hj:X.N[j]?=some y:=by rfl)
  (hx:X.env.scope.names.lookup x=some .local :=by rfl) (hy:X.env.scope.names.lookup y=some .local :=by rfl) (hw:swappedStores [.Tuple [.Name x px,.Name y py] kt pt] (.Tuple [a,b] k2 pt2) X.env=pure (some [x,y]):=by rfl)
  (hs:swapsWithSole [.Tuple [.Name x px,.Name y py] kt pt] (.Tuple [a,b] k2 pt2) pos.line X.env=pure false:=by rfl) :
  DS X (.Assign [.Tuple [.Name x px,.Name y py] kt pt] (.Tuple [a,b] k2 pt2) pos) (dPar i j tda) :=
 PS.imp (wl hc hN hi hj hij hx hy ha hw hs) fun E σ H ⟨G,δ,P,R,s,h,k,_⟩=>⟨G,δ,P,_,s,h,fun ds δ1 h1 vs H1 hl s1=>by
  replace h1:=qC.ex h1
  obtain ⟨x,r,e,h1⟩:=h1
  replace h1:=qC.ex h1
  obtain ⟨y,r',e',h1⟩:=h1
  replace h1:=qN.ex h1
  obtain ⟨e2,h1⟩:=h1
  subst e2 e' e
  match vs,hl with
  | [v,w],_=>exact⟨v,w,rfl,k _ h1 _ H1 ((s1.set (P':=(x,v) :: (y,w) :: P) (i:=i) (d:=x) (v:=v) (by simp) fun p hp=>by simpa using hp).set (by simp) fun p hp=>by simp [hp])⟩⟩
theorem f8 (hp:PassesOwn (model X.prog X.w) X.A X.env X.xe) (hc:DT X c tA) (hb:DSs X body t):DS X (.While c body [] pos) (pq tA t) :=
 PS.imp (nw hp hc hb) fun E σ H ⟨G,δ,P,R,s,⟨I,μ,i0,turn⟩,k1,k2,k3,k4⟩=>by
  refine⟨fun m σ H=>∃ δ,m=μ δ∧I δ∧S X.K G δ P σ H,⟨_,δ,rfl,i0,s⟩,?_⟩
  rintro m σ H ⟨δ,rfl,i,s⟩
  refine⟨G,δ,P,_,s,turn δ i,fun b δ1 h1 H1 s1=>?_⟩
  cases b with
  | false=>exact k1 δ1 h1 σ H1 s1
  | true =>
   refine⟨fun σ' H'=>∃ δ',(I δ'∧μ δ' < μ δ)∧S X.K G δ' P σ' H',fun σ' H' ⟨δ',⟨i',l⟩,s'⟩=>⟨_,l,δ',rfl,i',s'⟩,?_⟩
   exact⟨G,δ1,P,_,s1,h1,fun δ' h' σ' H' s'=>⟨δ',h',s'⟩,k2,k1,fun δ' h' σ' H' s'=>⟨δ',h',s'⟩,fun z=>z.elim⟩
theorem dl (hp:PassesOwn (model X.prog X.w) X.A X.env X.xe) (hc:X.calm=true) (hi:DE X e ta) (hg:DG X tg g) (hb:DSs X body t) (hs:∀ x,foldedSetIterable e X.env x=pure x:=by intro _;rfl):DS X (.For tg e body [] pos) (tL ta g t) :=
 PS.imp (jp hp hc (kQ hi) hg hb hs) fun E σ H ⟨G,δ,P,R,s,h,k1,k2,k3,k4⟩=>up.mk s h fun d δ1 h1 v H1 s1=>by
  replace h1:=qL.ex h1
  obtain ⟨xs,e,I,i0,turn,fin⟩:=h1
  subst e
  have hat:∀ δ σ H,S X.K G δ ((.lst xs,v) :: P) σ H→∃ a vs,v=.ref a∧yI X.K H a vs∧vs.length=xs.length:=fun δ σ H ⟨A,x⟩=>by
   have q:=x.pnd (.lst xs,v) (by simp)
   simp only [yF] at q
   obtain ⟨a,vs,e,_,l,r⟩:=q
   exact⟨a,vs,e,yI.of l,(Reps.length _ _ r).symm⟩
  have hev:∃ a vs,v=.ref a∧yI X.K H1 a vs∧vs.length=xs.length:=hat _ _ _ s1
  obtain ⟨a,vs0,rfl,hsq,hl0⟩:=hev
  refine⟨a,rfl,⟨vs0,hsq⟩,fun i m σ H=>m=xs.length - i∧i≤xs.length∧∃ δ,I i δ∧S X.K G δ ((.lst xs,.ref a) :: P) σ H,⟨xs.length,by simp,Nat.zero_le _,δ1,i0,s1⟩,?_⟩
  rintro i m σ H ⟨rfl,hi,δ',ii,s'⟩
  obtain ⟨A,x⟩:=id s'
  have q:=x.pnd (.lst xs,.ref a) (by simp)
  simp only [yF] at q
  obtain ⟨a',vs,e,_,l,r⟩:=q
  cases e
  have l:yI X.K H a vs:=yI.of l
  have hl:xs.length=vs.length:=Reps.length _ _ r
  by_cases hlt:i < xs.length
  ·obtain ⟨v',e',r'⟩:=Reps.get _ _ r i xs[i] (by simp [hlt])
   refine .inr ⟨⟨vs,v',l,e'⟩,fun σ' H'=>∃ δ',I (i + 1) δ'∧S X.K G δ' ((.lst xs,.ref a) :: P) σ' H',fun σ' H' ⟨δ',p',s'⟩=>⟨xs.length - (i + 1),by omega,rfl,hlt,δ',p',s'⟩,fun y H' hy=>?_⟩
   obtain ⟨e,hy⟩:=hy
   subst e
   have:some y=some v':=(hy vs l).symm.trans e'
   cases this
   refine⟨G,δ',(.lst xs,.ref a) :: P,xs[i],_,⟨A,x.push r'⟩,turn i xs[i] δ' (by simp [hlt]) ii,fun δ2 h2 σ2 H2 s2=>?_⟩
   refine⟨G,δ2,(.lst xs,.ref a) :: P,_,s2,h2,fun δ3 h3 σ3 H3 s3=>⟨δ3,h3,s3⟩,⟨fun d δ3 h3 v3 σ3 H3 s3=>k2.1 d δ3 h3 v3 σ3 H3 (s3.sub fun p hp=>by
    rcases List.mem_cons.mp hp with rfl | hp
    ·simp
    ·simp [hp]),k2.2.1,exs k2.2.2⟩,fun δ3 h3 σ3 H3 s3=>k1 δ3 h3 σ3 H3 (s3.sub fun p hp=>by simp [hp]),fun δ3 h3 σ3 H3 s3=>⟨δ3,h3,s3⟩,fun z=>z.elim⟩
  ·have e:i=xs.length:=by omega
   subst e
   exact .inl ⟨⟨vs,l,by omega⟩,k1 δ' (fin δ' ii) σ H (s'.sub fun p hp=>by simp [hp])⟩
theorem iL (hp:PassesOwn (model X.prog X.w) X.A X.env X.xe) (hc:X.calm=true) (hi:DE X e ta) (hg:DG X tg g) (hb:DSs X body t) (hs:∀ x,foldedSetIterable e X.env x=pure x:=by intro _;rfl):DS X (.For tg e body [] pos) (nM ta g t) :=
 PS.imp (jp hp hc (qi hi) hg hb hs) fun E σ H ⟨G,δ,P,R,s,h,k1,k2,k3,k4⟩=>up.mk s h fun d δ1 h1 v H1 s1=>by
  replace h1:=qT.ex h1
  obtain ⟨xs,e,I,i0,turn,fin⟩:=h1
  subst e
  have hat:∀ δ σ H,S X.K G δ ((.tup xs,v) :: P) σ H→∃ a vs,v=.ref a∧yR X.K H a vs∧vs.length=xs.length:=fun δ σ H ⟨A,x⟩=>by
   have q:=x.pnd (.tup xs,v) (by simp)
   simp only [yF] at q
   obtain ⟨a,vs,e,l,r⟩:=q
   exact⟨a,vs,e,l,(Reps.length _ _ r).symm⟩
  have hev:∃ a vs,v=.ref a∧yR X.K H1 a vs∧vs.length=xs.length:=hat _ _ _ s1
  obtain ⟨a,vs0,rfl,hsq,hl0⟩:=hev
  refine⟨a,rfl,⟨vs0,hsq⟩,fun i m σ H=>m=xs.length - i∧i≤xs.length∧∃ δ,I i δ∧S X.K G δ ((.tup xs,.ref a) :: P) σ H,⟨xs.length,by simp,Nat.zero_le _,δ1,i0,s1⟩,?_⟩
  rintro i m σ H ⟨rfl,hi,δ',ii,s'⟩
  obtain ⟨A,x⟩:=id s'
  have q:=x.pnd (.tup xs,.ref a) (by simp)
  simp only [yF] at q
  obtain ⟨a',vs,e,l,r⟩:=q
  cases e
  have hl:xs.length=vs.length:=Reps.length _ _ r
  by_cases hlt:i < xs.length
  ·obtain ⟨v',e',r'⟩:=Reps.get _ _ r i xs[i] (by simp [hlt])
   refine .inr ⟨⟨vs,v',l,e'⟩,fun σ' H'=>∃ δ',I (i + 1) δ'∧S X.K G δ' ((.tup xs,.ref a) :: P) σ' H',fun σ' H' ⟨δ',p',s'⟩=>⟨xs.length - (i + 1),by omega,rfl,hlt,δ',p',s'⟩,fun y H' hy=>?_⟩
   obtain ⟨e,hy⟩:=hy
   subst e
   have:some y=some v':=(hy vs l).symm.trans e'
   cases this
   refine⟨G,δ',(.tup xs,.ref a) :: P,xs[i],_,⟨A,x.push r'⟩,turn i xs[i] δ' (by simp [hlt]) ii,fun δ2 h2 σ2 H2 s2=>?_⟩
   refine⟨G,δ2,(.tup xs,.ref a) :: P,_,s2,h2,fun δ3 h3 σ3 H3 s3=>⟨δ3,h3,s3⟩,⟨fun d δ3 h3 v3 σ3 H3 s3=>k2.1 d δ3 h3 v3 σ3 H3 (s3.sub fun p hp=>by
    rcases List.mem_cons.mp hp with rfl | hp
    ·simp
    ·simp [hp]),k2.2.1,exs k2.2.2⟩,fun δ3 h3 σ3 H3 s3=>k1 δ3 h3 σ3 H3 (s3.sub fun p hp=>by simp [hp]),fun δ3 h3 σ3 H3 s3=>⟨δ3,h3,s3⟩,fun z=>z.elim⟩
  ·have e:i=xs.length:=by omega
   subst e
   exact .inl ⟨⟨vs,l,by omega⟩,k1 δ' (fin δ' ii) σ H (s'.sub fun p hp=>by simp [hp])⟩
theorem i4 {p pos':Pos} (hp:PassesOwn (model X.prog X.w) X.A X.env X.xe) (hc:X.calm=true) (hgl:Gl X "range") (hm:X.mg "range"=none) (ha:DA X [a] tda) (hg:DG X tg g) (hb:DSs X body t)
  (hse:starEach [a] X.env=[(false,eval a X.env)]:=by rfl) (hs:∀ x,foldedSetIterable (.Call (.Name "range" p) [a] [] pos') X.env x=pure x:=by intro _;rfl) :
  DS X (.For tg (.Call (.Name "range" p) [a] [] pos') body [] pos) (sT tda g t) :=
 PS.imp (jp hp hc (gX hgl hm ha hse) hg hb hs) fun E σ H ⟨G,δ,P,R,s,h,k1,k2,k3,k4⟩=>⟨G,δ,P,_,s,h,fun ds δ1 h1 vs H1 hl s1=>by
  replace h1:=qC.ex h1
  obtain ⟨x,r,e,h1⟩:=h1
  replace h1:=qN.ex h1
  obtain ⟨e',h1⟩:=h1
  replace h1:=qI.ex h1
  obtain ⟨j,e2,h1,h2,I,i0,turn,fin⟩:=h1
  subst e2 e' e
  match vs,hl with
  | [v],_ =>
   have q:v=.int j:=by
    obtain ⟨A,x⟩:=s1
    have q:=x.pnd (.int j,v) (by simp)
    simpa only [yF] using q
   subst q
   have s2:S X.K G δ1 P σ H1:=s1.sub fun p hp=>by simp [hp]
   refine⟨j,rfl,h1,h2,mH (lo:=0) (n:=j.toNat) (fun i σ H=>∃ δ,I i δ∧S X.K G δ P σ H) ⟨δ1,i0,s2⟩ (fun i σ H hi ⟨δ',ii,s'⟩=>?_) fun σ H ⟨δ',ii,s'⟩=>k1 δ' (fin δ' ii) σ H s'⟩
   refine⟨G,δ',P,.int (0 + i),_,s'.sc rfl,(by have q:=turn i δ' hi ii;rw [Int.zero_add];exact q),fun δ2 h2 σ2 H2 s2=>?_⟩
   exact⟨G,δ2,P,_,s2,h2,fun δ3 h3 σ3 H3 s3=>⟨δ3,h3,s3⟩,k2,k1,fun δ3 h3 σ3 H3 s3=>⟨δ3,h3,s3⟩,fun z=>z.elim⟩⟩
end
end DL
namespace DL
open PySem PySem.Spec PyProof.Rows L2
section
variable {K:PySem.W.Frag} {M:Addr→Prop} {H:Hp}
theorem u8 {a:D} {x:V} (h:Reps K M H [a] [x]):yF K M H a x:=by
 unfold Reps at h
 obtain ⟨v,r,e,q,_⟩:=h
 cases e
 exact q
theorem bg {a b:D} {x y:V} (h:Reps K M H [a,b] [x,y]):yF K M H a x∧yF K M H b y:=by
 unfold Reps at h
 obtain ⟨v,r,e,q,h⟩:=h
 cases e
 exact⟨q,u8 h⟩
theorem a7 {a:D} {vs:List V} (h:Reps K M H [a] vs):∃ x,vs=[x]∧yF K M H a x:=by
 unfold Reps at h
 obtain ⟨v,r,e,q,h⟩:=h
 unfold Reps at h
 subst h
 exact⟨v,e,q⟩
theorem aJ {i:Int} {v:V} (h:yF K M H (.int i) v):v=.int i:=by unfold yF at h;exact h
theorem dF {i:Bool} {v:V} (h:yF K M H (.bl i) v):v=.bl i:=by unfold yF at h;exact h
theorem aW {i:Str} {v:V} (h:yF K M H (.str i) v):v=.str i:=by unfold yF at h;exact h
end
def fI0 (g:Int→Int→D):List D→(D→Prop)→Prop
 | [.int i,.int j],R=>R (g i j)
 | _,_=>False
def fI (C:Int→Int→Prop) (g:Int→Int→D):List D→(D→Prop)→Prop
 | [.int i,.int j],R=>C i j∧R (g i j)
 | _,_=>False
def fU (g:Int→D):List D→(D→Prop)→Prop
 | [.int i],R=>R (g i)
 | _,_=>False
theorem wS {g:Int→Int→D} {a b:Int} {R:D→Prop}:fI0 g [.int a,.int b] R=R (g a b):=rfl
theorem xQ {C:Int→Int→Prop} {g:Int→Int→D} {a b:Int} {R:D→Prop}:fI C g [.int a,.int b] R=(C a b∧R (g a b)):=rfl
theorem w9 {g:Int→D} {a:Int} {R:D→Prop}:fU g [.int a] R=R (g a):=rfl
theorem vt {g:Int→Int→D} {ds:List D} {R:D→Prop} (h:fI0 g ds R):∃ i j,ds=[.int i,.int j]∧R (g i j):=by
 unfold fI0 at h
 split at h
 ·exact⟨_,_,rfl,h⟩
 ·exact h.elim
theorem xU {C:Int→Int→Prop} {g:Int→Int→D} {ds:List D} {R:D→Prop} (h:fI C g ds R):∃ i j,ds=[.int i,.int j]∧C i j∧R (g i j):=by
 unfold fI at h
 split at h
 ·exact⟨_,_,rfl,h⟩
 ·exact h.elim
theorem uW {g:Int→D} {ds:List D} {R:D→Prop} (h:fU g ds R):∃ i,ds=[.int i]∧R (g i):=by
 unfold fU at h
 split at h
 ·exact⟨_,rfl,h⟩
 ·exact h.elim
def CFd (_ j:Int):Prop:=j≠0∧j.natAbs.log2 < 9000
def CNz (_ j:Int):Prop:=j≠0
section
variable {X:Cx}
theorem pF {f:Value→Value→Sem Value} {g':Int→Int→V} {g:Int→Int→D} (h:yK X f (rI0 g')) (hs:∀ i j,sc (g i j)=some (g' i j)):yK X f fun x y=>aB X.K (fI0 g) [x,y] :=
 yK.imp h fun x y H Q ⟨M,ds,R,m,rs,hf,k⟩=>by
  obtain ⟨i,j,e,r⟩:=vt hf
  subst e
  obtain ⟨h1,h2⟩:=bg rs
  exact⟨i,j,aJ h1,aJ h2,k _ r _ H (bh.refl H) (yF.sc (hs i j))⟩
theorem opI {f:Value→Value→Sem Value} {C C':Int→Int→Prop} {g':Int→Int→V} {g:Int→Int→D} (h:yK X f (rI C' g')) (hs:∀ i j,sc (g i j)=some (g' i j)) (hc:∀ i j,C i j→C' i j):yK X f fun x y=>aB X.K (fI C g) [x,y] :=
 yK.imp h fun x y H Q ⟨M,ds,R,m,rs,hf,k⟩=>by
  obtain ⟨i,j,e,c,r⟩:=xU hf
  subst e
  obtain ⟨h1,h2⟩:=bg rs
  exact⟨i,j,aJ h1,aJ h2,hc i j c,k _ r _ H (bh.refl H) (yF.sc (hs i j))⟩
theorem xW:yK X (binaryOp .Add) fun x y=>aB X.K (fI0 fun i j=>.int (i + j)) [x,y]:=pF ut fun _ _=>rfl
theorem w4:yK X (binaryOp .Sub) fun x y=>aB X.K (fI0 fun i j=>.int (i - j)) [x,y]:=pF ve fun _ _=>rfl
theorem rZ:yK X (binaryOp .Mult) (rI IntMulOk fun i j=>.int (i * j)):=L2.opI fun _ _ _ _ _ _ _ hc q=>mul_int q hc
theorem dP:yK X (binaryOp .Mult) fun x y=>aB X.K (fI IntMulOk fun i j=>.int (i * j)) [x,y]:=opI rZ (fun _ _=>rfl) fun _ _ h=>h
theorem nS:yK X (binaryOp .FloorDiv) (rI CFd fun i j=>.int (i.fdiv j)):=L2.opI fun _ _ _ _ _ _ _ hc q=>floordiv_int hc.1 q (.inl (PyProof.noPylong_of_log2 hc.2))
theorem bY:yK X (binaryOp .FloorDiv) fun x y=>aB X.K (fI CFd fun i j=>.int (i.fdiv j)) [x,y]:=opI nS (fun _ _=>rfl) fun _ _ h=>h
theorem b5:yK X (binaryOp .Mod) fun x y=>aB X.K (fI CNz fun i j=>.int (i.fmod j)) [x,y]:=opI r9 (fun _ _=>rfl) fun _ _ h=>h
theorem sY:yK X (binaryOp .Pow) fun x y=>aB X.K (fI CPow fun i j=>.int (i ^ j.toNat)) [x,y]:=opI uu (fun _ _=>rfl) fun _ _ h=>h
theorem o_lt:yK X (compareOp .Lt) fun x y=>aB X.K (fI0 fun i j=>.bl (decide (i < j))) [x,y]:=pF yj fun _ _=>rfl
theorem o_gt:yK X (compareOp .Gt) fun x y=>aB X.K (fI0 fun i j=>.bl (decide (j < i))) [x,y]:=pF xc fun _ _=>rfl
theorem o_ge:yK X (compareOp .GtE) fun x y=>aB X.K (fI0 fun i j=>.bl (decide (j≤i))) [x,y]:=pF yh fun _ _=>rfl
theorem fH:UnR X (unaryOp .USub) fun x=>aB X.K (fU fun i=>.int (-i)) [x] :=
 UnR.imp vT fun x H Q ⟨M,ds,R,m,rs,hf,k⟩=>by
  obtain ⟨i,e,r⟩:=uW hf
  subst e
  exact⟨i,aJ (u8 rs),k _ r _ H (bh.refl H) (yF.sc rfl)⟩
theorem rG:bI X (.builtin "abs") (aB X.K (fU fun i=>.int (if i < 0 then -i else i))) :=
 bI.imp nB fun xs H Q ⟨M,ds,R,m,rs,hf,k⟩=>by
  obtain ⟨i,e,r⟩:=uW hf
  subst e
  obtain ⟨x,e,q⟩:=a7 rs
  subst e
  exact⟨i,by rw [aJ q],k _ r _ H (bh.refl H) (yF.sc rfl)⟩
def fLen:List D→(D→Prop)→Prop
 | [.lst xs],R=>R (.int xs.length)
 | [.fz xs],R=>R (.int xs.length)
 | [.tup xs],R=>R (.int xs.length)
 | _,_=>False
theorem sU:∀ {d0:List D} {R:D→Prop},fLen d0 R→((∃ (xs:List D),d0=[.lst xs]∧R (.int xs.length))∨(∃ (xs:List D),d0=[.fz xs]∧R (.int xs.length))∨(∃ (xs:List D),d0=[.tup xs]∧R (.int xs.length))):=by walk_at "or"
theorem sO:bI X (.builtin "len") (aB X.K fLen) :=
 bI.imp dN fun xs H Q ⟨M,ds,R,m,rs,h,k⟩=>by
  have fin:∀ n:Nat,R (.int n)→Q (.int n) H:=fun n r=>k _ r _ H (bh.refl H) (yF.sc rfl)
  replace h:=sU h
  rcases h with ⟨_,rfl,h⟩ | ⟨_,rfl,h⟩ | ⟨_,rfl,h⟩
  ·obtain ⟨x,e,q⟩:=a7 rs
   unfold yF at q
   obtain ⟨a,vs,e2,_,l,r⟩:=q
   subst e e2
   exact⟨a,vs,rfl,.inl (yI.of l),fin _ (by rw [← Reps.length _ _ r];exact h)⟩
  ·obtain ⟨x,e,q⟩:=a7 rs
   unfold yF at q
   obtain ⟨a,vs,e2,l,r⟩:=q
   subst e e2
   exact⟨a,vs,rfl,.inl l.seq,fin _ (by rw [← Reps.length _ _ r];exact h)⟩
  ·obtain ⟨x,e,q⟩:=a7 rs
   unfold yF at q
   obtain ⟨a,vs,e2,l,r⟩:=q
   subst e e2
   exact⟨a,vs,rfl,.inr l,fin _ (by rw [← Reps.length _ _ r];exact h)⟩
def fInt:List D→(D→Prop)→Prop
 | [.int i],R=>R (.int i)
 | [.bl b],R=>R (.int (if b then 1 else 0))
 | _,_=>False
theorem tZ:∀ {d0:List D} {R:D→Prop},fInt d0 R→((∃ (i:Int),d0=[.int i]∧R (.int i))∨(∃ (b:Bool),d0=[.bl b]∧R (.int (if b then 1 else 0)))):=by walk_at "or"
theorem yf:bI X (.type "int") (aB X.K fInt) :=
 bI.imp ly fun xs H Q ⟨M,ds,R,m,rs,h,k⟩=>by
  replace h:=tZ h
  rcases h with ⟨_,rfl,h⟩ | ⟨_,rfl,h⟩
  ·obtain ⟨x,e,q⟩:=a7 rs
   subst e
   exact .inl ⟨_,by rw [aJ q],k _ h _ H (bh.refl H) (yF.sc rfl)⟩
  ·obtain ⟨x,e,q⟩:=a7 rs
   subst e
   exact .inr ⟨_,by rw [dF q],k _ h _ H (bh.refl H) (yF.sc rfl)⟩
def yJ (xs:List D):Int→(D→Prop)→Prop
 | .ofNat n,k=>qV xs[n]? k
 | .negSucc n,k=>qV (yN xs (.negSucc n)) k
theorem lF {α:Type} {xs:List α} {n:Nat}:yN xs (.ofNat n)=xs[n]?:=by
 have h0:(0:Int)≤Int.ofNat n:=Int.natCast_nonneg n
 unfold yN ixN
 rw [if_pos h0]
 by_cases h:n < xs.length
 ·rw [if_pos (show Int.ofNat n < (xs.length:Int) from Int.ofNat_lt.mpr h)];rfl
 ·rw [if_neg (show ¬ Int.ofNat n < (xs.length:Int) from fun z=>h (Int.ofNat_lt.mp z)),List.getElem?_eq_none (Nat.le_of_not_lt h)];rfl
theorem yJ.ex {xs:List D} {i:Int} {k:D→Prop} (h:yJ xs i k):∃ v,yN xs i=some v∧k v:=by
 cases i with
 | ofNat n=>rw [lF];exact qV.ex h
 | negSucc n=>exact qV.ex h
theorem yJ.of {xs:List D} {i:Int} {k:D→Prop} {v:D} (e:yN xs i=some v) (h:k v):yJ xs i k:=by
 cases i with
 | ofNat n=>rw [lF] at e;exact qV.of e h
 | negSucc n=>exact qV.of e h
def fIx:List D→(D→Prop)→Prop
 | [.tup xs,.int i],R=>yJ xs i R
 | [.lst xs,.int i],R=>yJ xs i R
 | [.fz xs,.int i],R=>yJ xs i R
 | [.str z,.int i],R=>z.length≤9000∧∃ c,yN z.cps.toList i=some c∧R (.str ⟨#[c]⟩)
 | _,_=>False
theorem wq {d0:List D} {R:D→Prop} (h:fIx d0 R):(∃ (xs:List D) (i:Int),d0=[.tup xs,.int i]∧∃ v,yN xs i=some v∧R v)∨(∃ (xs:List D) (i:Int),d0=[.lst xs,.int i]∧∃ v,yN xs i=some v∧R v)∨(∃ (xs:List D) (i:Int),d0=[.fz xs,.int i]∧∃ v,yN xs i=some v∧R v)∨(∃ (z:Str) (i:Int),d0=[.str z,.int i]∧z.length≤9000∧∃ c,yN z.cps.toList i=some c∧R (.str ⟨#[c]⟩)):=by
 rcases d0 with _ | ⟨a,_ | ⟨b,_ | ⟨c,l⟩⟩⟩
 ·exact False.elim h
 ·cases a<;>exact False.elim h
 ·cases a<;>first | exact False.elim h | (cases b<;>first | exact False.elim h | exact .inl ⟨_,_,rfl,yJ.ex h⟩ | exact .inr (.inl ⟨_,_,rfl,yJ.ex h⟩) | exact .inr (.inr (.inl ⟨_,_,rfl,yJ.ex h⟩)) | exact .inr (.inr (.inr ⟨_,_,rfl,h⟩)))
 ·cases a<;>first | exact False.elim h | (cases b<;>exact False.elim h)
theorem lz {α β:Type} {xs:List α} {ys:List β} (h:xs.length=ys.length) {i:Int} {v:α} (e:yN xs i=some v):∃ j:Nat,xs[j]?=some v∧∀ w,ys[j]?=some w→yN ys i=some w:=by
 unfold yN at e ⊢
 rw [h] at e
 cases q:ixN ys.length i with
 | none=>rw [q] at e;cases e
 | some j=>rw [q] at e;exact⟨j,e,fun w z=>z⟩
theorem cZ:IxR X fun x y=>aB X.K fIx [x,y] :=
 IxR.imp v6 fun x y H Q ⟨M,ds,R,m,rs,h,k⟩=>by
  have fin:∀ (xs:List D) (vs:List V) (i:Int) (d:D),Reps X.K M H xs vs→yN xs i=some d→R d→∃ v,yN vs i=some v∧Q v H:=fun xs vs i d r e q=>by
   obtain ⟨j,h1,h2⟩:=lz (Reps.length _ _ r) e
   obtain ⟨v,e',r'⟩:=Reps.get _ _ r j d h1
   exact⟨v,h2 v e',k d q v H (bh.refl H) r'⟩
  replace h:=wq h
  rcases h with ⟨_,_,rfl,h⟩ | ⟨_,_,rfl,h⟩ | ⟨_,_,rfl,h⟩ | ⟨_,_,rfl,h⟩
  ·obtain ⟨d,e,q⟩:=h
   obtain ⟨h1,h2⟩:=bg rs
   unfold yF at h1
   obtain ⟨a,vs,e2,l,r⟩:=h1
   obtain ⟨v,e3,q3⟩:=fin _ _ _ _ r e q
   exact .inr (.inl ⟨a,vs,_,v,e2,aJ h2,l,e3,q3⟩)
  ·obtain ⟨d,e,q⟩:=h
   obtain ⟨h1,h2⟩:=bg rs
   unfold yF at h1
   obtain ⟨a,vs,e2,_,l,r⟩:=h1
   obtain ⟨v,e3,q3⟩:=fin _ _ _ _ r e q
   exact .inl ⟨a,vs,_,v,e2,aJ h2,yI.of l,e3,q3⟩
  ·obtain ⟨d,e,q⟩:=h
   obtain ⟨h1,h2⟩:=bg rs
   unfold yF at h1
   obtain ⟨a,vs,e2,l,r⟩:=h1
   obtain ⟨v,e3,q3⟩:=fin _ _ _ _ r e q
   exact .inl ⟨a,vs,_,v,e2,aJ h2,l.seq,e3,q3⟩
  ·obtain ⟨hz,c,e,q⟩:=h
   obtain ⟨h1,h2⟩:=bg rs
   exact .inr (.inr ⟨_,_,c,aW h1,aJ h2,bV hz,e,k _ q _ H (bh.refl H) (yF.sc rfl)⟩)
def fCat:List D→(D→Prop)→Prop
 | [.lst xs,.lst ys],R=>xs.length + ys.length≤9000∧R (.lst (xs++ys))
 | _,_=>False
theorem tN:∀ {d0:List D} {R:D→Prop},fCat d0 R→∃ (xs:List D) (ys:List D),d0=[.lst xs,.lst ys]∧xs.length + ys.length≤9000∧R (.lst (xs++ys)):=by walk_at "or"
theorem xL:yK X (binaryOp .Add) fun x y=>aB X.K fCat [x,y] :=
 yK.imp wC fun x y H Q ⟨M,ds,R,m,rs,h,k⟩=>by
  replace h:=tN h
  obtain ⟨_,_,rfl,h⟩:=h
  ·obtain ⟨hz,q⟩:=h
   obtain ⟨h1,h2⟩:=bg rs
   unfold yF at h1 h2
   obtain ⟨a,vs,e,_,l,r⟩:=h1
   obtain ⟨b,ws,e',_,l',r'⟩:=h2
   refine⟨a,b,vs,ws,e,e',l,l',bV (by rw [← Reps.length _ _ r,← Reps.length _ _ r'];exact hz),fun p hp=>k _ q _ _ (ap hp _) ?_⟩
   unfold yF
   exact⟨p,vs++ws,rfl,fun z=>m p z hp,al,Reps.kp (Kp.of_same (ap hp _)) _ _ (Reps.append _ _ _ _ r r')⟩
def cut {α:Type} (xs:List α) (lo hi:Option Int):List α:=(xs.drop (HT.sIx xs.length 0 lo)).take (HT.sIx xs.length xs.length hi - HT.sIx xs.length 0 lo)
abbrev TDO:=En→(Option Int→En→Prop)→Prop
inductive UpO (K:PySem.W.Frag) (t:TDO) (σ:L2.St) (H:Hp) (Q:Option Int→Hp→Prop):Prop
 | mk (G:Gf) (δ:En) (P:List (D×V)) (R:Option Int→En→Prop) (s:S K G δ P σ H) (h:t δ R) (k:∀ o δ',R o δ'→∀ H',S K G δ' P σ H'→Q o H')
def upO (K:PySem.W.Frag) (t:TDO):TO:=UpO K t
def DO (X:Cx) (e:Option Expr) (t:TDO):Prop:=PO X e (upO X.K t)
def kT (δ:En) (R:Option Int→En→Prop):Prop:=R none δ
def uM (t:yM) (δ:En) (R:Option Int→En→Prop):Prop:=t δ (wd fun x δ1=>qI x fun i=>R (some i) δ1)
theorem PO.imp {e:Option Expr} {t t':TO} (h:PO X e t) (i:∀ σ H Q,t' σ H Q→t σ H Q):PO X e t':=fun pins s σ H Q I q=>h pins s σ H Q I (i σ H Q q)
theorem mi:DO X none kT:=PO.imp sZ fun σ H Q ⟨G,δ,P,R,s,h,k⟩=>k none δ h H s
theorem df {e:Expr} {te:yM} (h:DE X e te):DO X (some e) (uM te):=PO.imp (rX h) fun σ H Q ⟨G,δ,P,R,s,h,k⟩=>up.mk s h fun x δ1 h1 v H1 s1=>by
 replace h1:=qI.ex h1
 obtain ⟨i,e,r⟩:=h1
 subst e
 obtain ⟨A,q⟩:=id s1
 exact⟨i,aJ (q.pnd (.int i,v) (by simp)),k _ δ1 r H1 (s1.sub fun p hp=>by simp [hp])⟩
def fSl:D→Option Int→Option Int→(D→Prop)→Prop
 | .lst xs,lo,hi,R=>R (.lst (cut xs lo hi))
 | .fz xs,lo,hi,R=>R (.lst (cut xs lo hi))
 | .tup xs,lo,hi,R=>¬ (HT.sIx xs.length 0 lo=0∧HT.sIx xs.length xs.length hi=xs.length)∧R (.tup (cut xs lo hi))
 | _,_,_,_=>False
def dSl (te:yM) (tl th:TDO) (δ:En) (R:W→En→Prop):Prop:=te δ (wd fun x δ1=>tl δ1 fun l δ2=>th δ2 fun u δ3=>fSl x l u fun d=>R (.d d) δ3)
theorem Reps.cut {K:PySem.W.Frag} {M:Addr→Prop} {H:Hp} {ds:List D} {vs:List V} (lo hi:Option Int) (r:Reps K M H ds vs):Reps K M H (DL.cut ds lo hi) (mL vs lo hi):=by
 unfold DL.cut mL
 rw [Reps.length _ _ r]
 exact Reps.take _ _ _ (Reps.drop _ _ _ r)
theorem jF {e:Expr} {te:yM} {lo hi:Option Expr} {tl th:TDO} {p2 pos:Pos} (he:DE X e te) (hl:DO X lo tl) (hu:DO X hi th):DE X (.Subscript e (.Slice lo hi none p2) pos) (dSl te tl th) :=
 PE.imp (pf (rD.or wk) he hl hu) fun σ H Q ⟨G,δ,P,R,s,h,k,_⟩=>up.mk s h fun x δ1 h1 v H1 s1=>⟨G,δ1,(x,v) :: P,_,s1,h1,fun l δ2 h2 H2 s2=>⟨G,δ2,(x,v) :: P,_,s2,h2,fun u δ3 h3 H3 s3=>by
  obtain ⟨A,q⟩:=id s3
  have r:=q.pnd (x,v) (by simp)
  cases x with
  | lst xs =>
   have h3:R (.d (.lst (cut xs l u))) δ3:=h3
   simp only [yF] at r
   obtain ⟨a,vs,e,_,sq,r⟩:=r
   refine .inl ⟨a,vs,e,yI.of sq,fun p hp=>?_⟩
   have x2:=(q.same (ap hp (.lst (mL vs l u))))
   refine k _ δ3 h3 (.ref p) _ ⟨A,(x2.sub (P':=P) fun p hp=>List.mem_cons_of_mem _ hp).push ?_⟩
   unfold yF
   exact⟨p,_,rfl,fun z=>q.mem p z hp,al,Reps.kp (Kp.of_same (ap hp _)) _ _ (Reps.cut l u r)⟩
  | fz xs =>
   have h3:R (.d (.lst (cut xs l u))) δ3:=h3
   simp only [yF] at r
   obtain ⟨a,vs,e,sq,r⟩:=r
   refine .inl ⟨a,vs,e,sq.seq,fun p hp=>?_⟩
   have x2:=(q.same (ap hp (.lst (mL vs l u))))
   refine k _ δ3 h3 (.ref p) _ ⟨A,(x2.sub (P':=P) fun p hp=>List.mem_cons_of_mem _ hp).push ?_⟩
   unfold yF
   exact⟨p,_,rfl,fun z=>q.mem p z hp,al,Reps.kp (Kp.of_same (ap hp _)) _ _ (Reps.cut l u r)⟩
  | tup xs =>
   have h3:¬ (HT.sIx xs.length 0 l=0∧HT.sIx xs.length xs.length u=xs.length)∧R (.d (.tup (cut xs l u))) δ3:=h3
   simp only [yF] at r
   obtain ⟨a,vs,e,sq,r⟩:=r
   obtain ⟨nf,h3⟩:=h3
   refine .inr ⟨a,vs,e,sq,by rw [← Reps.length _ _ r];exact nf,fun p hp=>?_⟩
   have x2:=(q.same (ap hp (.tup (mL vs l u))))
   refine k _ δ3 h3 (.ref p) _ ⟨A,(x2.sub (P':=P) fun p hp=>List.mem_cons_of_mem _ hp).push ?_⟩
   unfold yF
   exact⟨p,_,rfl,yR.of al,Reps.kp (Kp.of_same (ap hp _)) _ _ (Reps.cut l u r)⟩
  | _=>exact (show False from h3).elim⟩⟩
end
end DL
namespace DL
open PySem PySem.Spec PyProof.Rows L2
def bZ (N:List Str) (ds:List D):En:=ds.map Sl.dat++List.replicate (N.length - ds.length) Sl.no
theorem mP {K:PySem.W.Frag} {f:List D→(D→Prop)→Prop} {vs:List V} {H:Hp} {Q:VK} {n:Nat} (h:aB K f vs H Q) (len:∀ ds R,f ds R→ds.length=n):vs.length=n:=by
 obtain ⟨M,ds,R,m,rs,hf,k⟩:=h
 rw [← Reps.length _ _ rs]
 exact len ds R hf
theorem jm {K:PySem.W.Frag} {M:Addr→Prop} {ds:List D} {vs:List V} {H:Hp} (N:List Str) (m:∀ b,M b→H b≠none) (rs:Reps K M H ds vs):S K ⟨M,H,fun _=>False⟩ (bZ N ds) [] (L2.start N vs) H:=by
 have hl:=Reps.length _ _ rs
 refine⟨fun _=>False,fun b o e _=>e,fun b e=>e,m,fun b h=>h.elim,fun b h=>h.elim,fun b h=>h.elim,?_,fun i d e=>?_,fun i a d e=>?_,fun i j a d e h1 h2=>?_,fun p hp=>(nomatch hp)⟩
 ·unfold bZ L2.start
  rw [List.length_append,List.length_append,List.length_map,List.length_map,List.length_replicate,List.length_replicate,hl]
 ·unfold bZ at e
  unfold L2.start
  by_cases hi:i < ds.length
  ·rw [List.getElem?_append_left (by rw [List.length_map];exact hi),List.getElem?_map] at e
   cases hd:ds[i]? with
   | none=>rw [hd] at e;cases e
   | some d' =>
    rw [hd] at e
    cases e
    obtain ⟨v,ev,rv⟩:=Reps.get _ _ rs i d hd
    refine⟨v,?_,yF.more (fun b z=>.inl (z.elim id fun q=>q.elim)) _ _ rv⟩
    rw [List.getElem?_append_left (by rw [List.length_map];omega),List.getElem?_map,ev]
    rfl
  ·rw [List.getElem?_append_right (by rw [List.length_map];omega),List.getElem?_replicate] at e
   split at e<;>cases e
 all_goals
  unfold bZ at *
  exfalso
 ·by_cases hi:i < ds.length
  ·rw [List.getElem?_append_left (by rw [List.length_map];exact hi),List.getElem?_map] at e
   cases hd:ds[i]? with
   | none=>rw [hd] at e;cases e
   | some d'=>rw [hd] at e;cases e
  ·rw [List.getElem?_append_right (by rw [List.length_map];omega),List.getElem?_replicate] at e
   split at e<;>cases e
 ·by_cases hi:i < ds.length
  ·rw [List.getElem?_append_left (by rw [List.length_map];exact hi),List.getElem?_map] at h1
   cases hd:ds[i]? with
   | none=>rw [hd] at h1;cases h1
   | some d'=>rw [hd] at h1;cases h1
  ·rw [List.getElem?_append_right (by rw [List.length_map];omega),List.getElem?_replicate] at h1
   split at h1<;>cases h1
structure Fd (K:PySem.W.Frag) (mg:Str→Option Value) (x:Str) (st:Stmt) (ps:List Str):Prop where
 ex:∃ (a:Addr) (fd:FuncData),Fun K x x st a fd∧cT K fd ps []∧mg x=some (.ref a)
structure Cal (P:Program) (w:World) (K:PySem.W.Frag) (mg:Str→Option Value) (base:Heap) (k:Nat) (x:Str) (ps:List Str) (sp:Sp):Prop where
 ex:∃ (a:Addr) (fd:FuncData),c8 P w K mg base CX0 k a fd ps sp∧cT K fd ps []∧PySem.W.keepIn K (.ref a)=true∧mg x=some (.ref a)
section
variable {P:Program} {w:World} {K:PySem.W.Frag} {mg:Str→Option Value} {base:Heap}
theorem Cal.mono {j k:Nat} {x:Str} {ps:List Str} {sp:Sp} (C:Cal P w K mg base j x ps sp) (h:j≤k):Cal P w K mg base k x ps sp:=by
 obtain ⟨a,fd,F,b,kp,m⟩:=C.ex
 exact⟨a,fd,F.mono h,b,kp,m⟩
theorem vK {x:Str} {st:Stmt} {N ps:List Str} {k:Nat} {a:Addr} {fd:FuncData} {f:List D→(D→Prop)→Prop} (Fu:Fun K x x st a fd) (Sc:au N ps (ah st)) (len:∀ ds R,f ds R→ds.length=ps.length)
    (hbody:∀ (cdv:Value) (A:Around) (outer:List Env) (s:Shared) (H:Hp) (E:XK) (ds:List D) (R:D→Prop),bP k (A.deeper (envOfC x (ah st) s.heap.objs.size a cdv))→f ds R →
      ∃ t,DSs (iB CX0 P w K mg base N x (ah st) a cdv A outer s H E).nox (aI st) t∧t { nx:=fun _=>R .non,rt:=fun d _=>R d,ro:=R } (bZ N ds)) :
    c8 P w K mg base CX0 (k + 1) a fd ps (yQ K f):=by
  refine Fu.ok Sc (fun vs H Q E h=>mP h len) (fun cdv A outer s H vs Q E hr h=>?_)
  obtain ⟨M,ds,R,hm,rs,hf,hk⟩:=h
  obtain ⟨t,ht,hq⟩:=hbody cdv A outer s H E ds R hr hf
  refine⟨_,ht,⟨M,H,fun _=>False⟩,bZ N ds,[],_,jm N hm rs,hq,fun δ' r σ' H' ⟨A',x⟩=>?_,⟨fun d δ' r v σ' H' ⟨A',x⟩=>?_,fun d r a H' ⟨o1,o2,o3,o4⟩=>hk d r (.ref a) H' (fun b o e=>o1 b o e id) (o4.rep o3 fun b z=>.inl z),fun _ _ _ z=>z.elim⟩,fun _ h=>h.elim,fun _ h=>h.elim,fun z=>z.elim⟩
  · exact hk .non r .non H' (fun b o e=>x.old b o e id) (by unfold yF;rfl)
  · exact hk d r v H' (fun b o e=>x.old b o e id) (yF.more (fun b z=>.inl (.inl z)) _ _ (x.pnd (d,v) (by simp)))
theorem iI {x:Str} {st:Stmt} {N ps:List Str} {k:Nat} {f:List D→(D→Prop)→Prop} (F:Fd K mg x st ps) (Sc:au N ps (ah st)) (len:∀ ds R,f ds R→ds.length=ps.length)
    (hbody:∀ (a:Addr) (cdv:Value) (A:Around) (outer:List Env) (s:Shared) (H:Hp) (E:XK) (ds:List D) (R:D→Prop),bP k (A.deeper (envOfC x (ah st) s.heap.objs.size a cdv))→f ds R →
      ∃ t,DSs (iB CX0 P w K mg base N x (ah st) a cdv A outer s H E).nox (aI st) t∧t { nx:=fun _=>R .non,rt:=fun d _=>R d,ro:=R } (bZ N ds)) :
    Cal P w K mg base (k + 1) x ps (yQ K f):=by
  obtain ⟨a,fd,Fu,b,m⟩:=F.ex
  exact⟨a,fd,vK Fu Sc len (hbody a),b,Fu.kp,m⟩
theorem aG {X:Cx} {a:Expr} {es:List Expr} {t:yS} {f:List D→(D→Prop)→Prop} {x:Str} {k:Nat} {ps:List Str} {p pos:Pos} (C:Cal X.prog X.w X.K X.mg X.base k x ps (yQ X.K f)) (hr:bP k X.A) (hg:Gl X x) (ha:DA X (a :: es) t)
  (hdb:(x == ("__debug__":Str))=false:=by decide) (he:starEach (a :: es) X.env=(false,eval a X.env) :: starEach es X.env:=by rfl) (hpl:(backTo pos (starEach es X.env)).any (·.1)=false:=by rfl) :
  DE X (.Call (.Name x p) (a :: es) [] pos) (kc f t):=by
 obtain ⟨g,fd,F,b,kp,m⟩:=C.ex
 exact sP F hr hg m kp b ha hdb he hpl
def ua (K:PySem.W.Frag):Sp:=fun vs H Q _=>∃ (a:Addr) (ns:List Int),vs=[.ref a]∧yI K H a (ns.map V.int)∧Only H∧ns.length≤63∧(∀ n∈ns,Builtin.Int.intBits n≤1048576)∧∀ H',Q (.bl true) H'
def fLaw:List D→(D→Prop)→Prop:=fun ds R=>∃ ns:List Int,ds=[.fz (ns.map D.int)]∧ns.length≤63∧(∀ n∈ns,Builtin.Int.intBits n≤1048576)∧R (.bl true)
theorem uB {k:Nat} {ps:List Str} {a:Addr} {fd:FuncData} (F:c8 P w K mg base CX0 k a fd ps (yQ K fLaw)):c8 P w K mg base CX0 k a fd ps (ua K) :=
 F.imp fun vs H Q E ⟨l,ns,e,sq,on,h63,hb,q⟩=>by
  subst e
  refine⟨fun _=>False,[.fz (ns.map D.int)],fun d=>d=.bl true,fun _ h=>h.elim,Reps.one ?_,⟨ns,rfl,h63,hb,rfl⟩,fun d e v H' _ r=>?_⟩
  ·unfold yF
   refine⟨l,ns.map V.int,rfl,?_,Reps.ints ns⟩
   rcases sq with (h | ⟨o,h⟩) | h
   ·rcases on l with z | ⟨o,xs,z⟩
    ·rw [z] at h;cases h
    ·rw [z] at h;cases h
   ·exact .inl ⟨o,h⟩
   ·exact .inr (.inr h)
  ·subst e
   rw [dF r]
   exact q H'
end
end DL
namespace DLH
open PySem PySem.W PySem.Calls PyProof.Rows
theorem eC {ns:List Int} (h:WData.layableAll [.list (ns.map .int)]=true):∀ n∈ns,Builtin.Int.intBits n≤1048576:=fun n hn=>by
 have h1:=layableW_arg h _ (List.mem_singleton.mpr rfl)
 have h2:=layableW_item h1 (.int n) (List.mem_map.mpr ⟨n,hn,rfl⟩)
 have h3:=(layableW_iff.mp h2).2.2
 simpa only [WData.weight,Builtin.Int.intBits] using h3
theorem attach_callB {l:OpenLaw} {n:Nat} {q:Program} {loose:List Str} {XP:(Str→Option Value)→Heap→Prop} {YP:World→Heap→Prop} {d:DefRec}
    (hn:l.most=some n) (hdf:d.params.defaults=[])
    (call:∀ (w:World) (s₀ s₁:Shared) (mg mb:Str→Option Value) (fa:Addr) (o:Obj) (pm cd doc:Value) (a:Addr) (vs:List Value) (ns:List Int),
      Ground q loose [] XP w s₀ mg mb s₁.heap→YP w s₁.heap →
      s₁.heap.get? fa=some o→o.data=.func (docDef d.name d.params d.body d.scope pm cd doc)→s₁.heap.CodeRec cd d.name→mg d.name=some (.ref fa) →
      s₁.heap.get? a=some { cls:=.type "list",data:=.seq vs.toArray }→IntsAre vs ns→ns.length≤n→(∀ i∈ns,Builtin.Int.intBits i≤1048576)→s₁.gens=#[] →
      codeAny (model l.prog w) callerA (.call (.ref fa) ⟨[.ref a],[]⟩) (fun r s'=>r=.ok (.ret (.bool true))∧OldK s₁.heap s'.heap∧s'.os=s₁.os∧AllBare s'.gens) s₁) :
    WalkO q loose XP YP l.row.toRowW d [] (fun f vs=>PySem.call f vs):=by
  intro w s₀ s₁ mg mb G Y fa o pm cd doc dV kV ho hd hcd hD hmg hg args vals as hpre hlay hrd hwl hlo
  obtain rfl:dV=.none:=Dflts.none hD hdf
  obtain rfl:kV=.none:=Dflts.noKw hD
  obtain ⟨a,vs,ns,rfl,rfl,hobj,hints,hlen⟩:=Att.script_of hn hpre hwl
  refine enter_call (codeAny_mono (call w s₀ s₁ mg mb fa o pm cd doc a vs ns G Y ho (fd_plain hd) hcd hmg hobj hints hlen (eC hlay) hg) fun r s' hq=>?_)
  obtain ⟨rfl,h2,h3,h4⟩:=hq
  exact⟨.inl ⟨.bool true,.bool true,[],rfl,fun _=>rfl,.bool true,Att.post_true l _,fun _=>⟨List.Pairwise.nil,fun _ hm=>(nomatch hm)⟩⟩,h2,h3,h4⟩
end DLH
namespace DL
open PySem PySem.Spec PyProof.Rows L2
theorem walkB {l:PySem.W.OpenLaw} {k:Nat} {q:Program} {loose:List Str} {XP:(Str→Option Value)→Heap→Prop} {YP:World→Heap→Prop} {d:DefRec} {K:Params→PySem.W.Frag} {x:Str}
    (hn:l.most=some 63) (hdf:d.params.defaults=[]) (hr:bP k PySem.callerA) (hY:∀ (w:World) (h:Heap),YP w h→(K w.params).In h)
    (F:∀ (w:World) (mg:Str→Option Value) (fa:Addr) (h:Heap),(K w.params).In h→h.Ns mainGlobals mg→mg d.name=some (.ref fa) →
      ∃ fd:FuncData,(∀ (s:Shared) (u:Value),BindsTo s fd ⟨[u],[]⟩ [(x,u)])∧∀ base:Heap,(K w.params).In base→base.Ns mainGlobals mg→c8 l.prog w (K w.params) mg base CX0 k fa fd [x] (ua (K w.params))) :
    PySem.W.WalkO q loose XP YP l.row.toRowW d [] (fun f vs=>PySem.call f vs):=by
  refine DLH.attach_callB hn hdf fun w s₀ s₁ mg mb fa o pm cd doc a vs ns G Y ho hd hcd hmg hobj hints hlen hbits hg=>?_
  have KX:=hY w _ Y
  obtain ⟨fd,hb,hF⟩:=F w mg fa _ KX G.T.g hmg
  exact nZ KX G.T.g G.T.b G.T.builtins G.T.nolimit hg hobj hints (Nat.le_trans hlen (by decide)) hr hF hb (fun H hO hS=>⟨a,ns,rfl,hS,hO,hlen,hbits,fun _=>rfl⟩) fun H e s' z=>z
end DL
namespace DL
open PySem PySem.Spec PyProof.Rows L2
def lL (ifs:List Expr) (env:Env):Sem Bool:=forIn ifs true fun c r=>if r=true then do let ok←isTrue c env (eval c env);pure (ForInStep.yield ok) else pure (ForInStep.yield r)
def PF (X:Cx) (ifs:List Expr) (t:TT):Prop :=
 ∀ (pins:List (Addr×Obj)) (s:Shared) (σ:L2.St) (H:Hp) (Q:Bool→Hp→Prop),Inv X pins σ H s→t σ H Q→wpAny (model X.prog X.w) X.A (lL ifs X.env) (TP X pins σ Q) X.xe s
theorem uE {X:Cx}:PF X [] (fun _ H Q=>Q true H):=fun _ _ _ H _ I h=>wpAny_tests_nil ⟨H,I,h⟩
theorem wK {X:Cx} {c:Expr} {t:TT} (h:PT X c t):PF X [c] t:=fun pins s σ H Q I q=>wpAny_tests_one (h pins s σ H Q I q)
theorem cw {prog:Program} {w:World} {A:Around} {R:Result→Shared→Prop} {s:Shared} {elt target iter:Expr} {ifs:List Expr} {scope:Scope} {pos:Pos} {it acc:Value} {env:Env} (I:Nat→Shared→Prop)
    (turn:∀ n s,I n s→wpAny (model prog w) A (pyNext it) (fun r s₁=>match r with
      | none=>R (.ok .next) s₁
      | some v=>wpAny (model prog w) A (letOwnedTupleGo target it v) (fun _ s₁'=>wpAny (model prog w) A (assign target env v) (fun _ s₂ =>
          wpAny (model prog w) A (lL ifs env) (fun ok s₃ =>
            if ok=true then wpAny (model prog w) A (eval elt env) (fun x s₄ =>
              wpAny (model prog w) A (call (.builtin "list.append") [acc,x]) (fun _ s₅=>∃ m,m < n∧I m s₅) (fun _ _=>False) s₄) (fun _ _=>False) s₃
            else ∃ m,m < n∧I m s₃) (fun _ _=>False) s₂) (fun _ _=>False) s₁') (fun _ _=>False) s₁) (fun _ _=>False) s)
    (n:Nat) (h:I n s) :
    codeAny (model prog w) A (.compLoop (.ListComp elt [⟨target,iter,ifs,0⟩] scope pos) 0 it acc env) R s:=by
  refine codeAny_loop rfl I (fun n s hI=>?_) n h
  show wpAny _ A ((compTurn (.ListComp elt [⟨target,iter,ifs,0⟩] scope pos) 0 it acc env).onRaise (fun x=>do noteFrame x env;theTreesLotGoes x)) _ _ s
  refine wpAny_noted ?_
  rw [compTurn_list]
  refine wpAny_bind (wpAny_standAt (wpAny_bind (wpAny_mono (turn n s hI) (fun r s₁ h₁=>?_) fun _ _ h'=>h'.elim)))
  cases r with
  | none=>exact wpAny_pure h₁
  | some v =>
    refine wpAny_bind (wpAny_mono h₁ (fun _ s₁' h₁'=>?_) fun _ _ h'=>h'.elim)
    refine wpAny_bind (wpAny_mono h₁' (fun _ s₂ h₂=>wpAny_bind (wpAny_mono h₂ (fun ok s₃ h₃=>?_) fun _ _ h'=>h'.elim)) fun _ _ h'=>h'.elim)
    cases ok with
    | false=>exact wpAny_pure ⟨rfl,h₃⟩
    | true =>
      exact wpAny_bind (wpAny_bind (wpAny_mono h₃ (fun x s₄ h₄=>wpAny_bind (wpAny_mono h₄ (fun _ s₅ h₅=>wpAny_pure (wpAny_pure ⟨rfl,h₅⟩)) fun _ _ h'=>h'.elim)) fun _ _ h'=>h'.elim))
theorem gx:∀ {names:List (Str×NameKind)} {n:Nat} {acc:List (Str×Addr)},cellsFrom n names acc=cellsFrom n names []++acc
 | [],_,_=>rfl
 | (x,k) :: r,n,acc=>by
  unfold cellsFrom
  by_cases h:(k == NameKind.cell)=true
  ·rw [if_pos h,if_pos h,gx (names:=r) (acc:=(x,n) :: acc),gx (names:=r) (acc:=[(x,n)]),List.append_assoc];rfl
  ·rw [if_neg h,if_neg h];exact gx
theorem iD {x:Str} {c:Addr}:∀ {names:List (Str×NameKind)} {n:Nat} {acc:List (Str×Addr)},(x,c)∈cellsFrom n names acc→(x,c)∈acc∨(x,NameKind.cell)∈names
 | [],_,_,h=>.inl h
 | (y,k) :: r,n,acc,h=>by
  unfold cellsFrom at h
  by_cases hk:(k == NameKind.cell)=true
  ·rw [if_pos hk] at h
   rcases iD h with z | z
   ·rcases List.mem_cons.mp z with e | e
    ·cases e;rw [eq_of_beq hk];exact .inr (List.mem_cons_self ..)
    ·exact .inl e
   ·exact .inr (List.mem_cons_of_mem _ z)
  ·rw [if_neg hk] at h
   exact (iD h).imp id (List.mem_cons_of_mem _)
theorem pb {M:Model} {A:Around} {E:Value→Shared→Prop} {s:Shared} {scope:Scope} {globals:Addr} {cl:List (Str×Addr)} {qual:Str} {func:Option Addr} {code:Value} {outer:Env} {bs:Addr} {Q:Env→Shared→Prop}
    (q:∀ h',h'.Ns s.heap.objs.size (fun _=>none)→(∀ b o,s.heap.get? b=some o→h'.get? b=some o)→(∀ x c,(x,c)∈cellsFrom (s.heap.objs.size + 1) scope.names []→h'.IsCell c none∧s.heap.objs.size + 1≤c)→((cellsFrom (s.heap.objs.size + 1) scope.names []).Pairwise fun x y=>x.2≠y.2) →
      Q (newEnv scope s.heap.objs.size globals (cellsFrom (s.heap.objs.size + 1) scope.names []++cl) qual func code (some outer) bs) { s with heap:=h' }):wpAny M A (newFunctionEnv scope globals cl [] qual func code (some outer) bs) Q E s:=by
  unfold newFunctionEnv
  refine wpAny_bind (wpAny_alloc (wpAny_bind (wpAny_layCells _ (fun name kind cells=>by cases hkc:kind == NameKind.cell<;>simp [hkc]) _ _ _ _ ?_)))
  have ok:=cellsFrom_ok scope.names (s.heap.push { cls:=.type "dict",data:=.dict #[] }) (s.heap.objs.size + 1) [] ⟨fun _ _ hm=>(nomatch hm),List.Pairwise.nil⟩ (by rw [Heap.size_push];exact Nat.le_refl _)
  rw [Heap.size_push] at ok
  rw [show ({ s with heap:=s.heap.push { cls:=.type (if (some outer).isSome=true then "dict" else "frame"),data:=.dict #[] } }:Shared).heap.objs.size=s.heap.objs.size + 1 from Heap.size_push ..,gx]
  exact wpAny_bind (wpAny_pure (wpAny_pure (q _ ((Heap.Ns.new s.heap (.type "dict")).keeps (pushCells_keeps _ _)) (fun b o e=>pushCells_keeps _ _ b o (Heap.get?_push_of_some _ e)) (fun x c h=>ok.empty x c h) ok.apart)))
def fg (X:Cx) (N':List Str) (scope:Scope) (cl:List (Str×Addr)) (s2:Shared) (H2:Hp) (C:Addr) (fp:List Addr) (pn:List (Addr×Obj)):Cx where
 prog:=X.prog
 w:=X.w
 K:=X.K
 mg:=X.mg
 base:=X.base
 A:=X.A
 N:=N'
 s₀:=s2
 H₀:=H2
 env:=compEnvC scope (cellsFrom (C + 1) scope.names []++cl) C X.env
 outer:=X.stack
 stack:=X.stack
 ex:=fp
 fn:=fun x=>scope.names.lookup x == some .cell
 calm:=X.calm
 pn:=pn
 xe:=fun _ _=>False
def nu (nt:Nat) (caps:List (Nat×Str)) (σ:L2.St):L2.St:=List.replicate nt none++caps.map fun p=>(σ[p.1]?).join
def wG (wi:TI) (nt:Nat) (caps:List (Nat×Str)) (g:TG) (tc:TT) (te:TE):TE:=fun σ H Q=>wi σ H fun J H1=>∀ p,H1 p=none →
 ∃ W:Nat→Nat→List V→L2.St→Hp→Prop,(∃ m,W 0 m [] (nu nt caps σ) (yV H1 p (.lst [])))∧∀ i m xs σ' H',W i m xs σ' H'→(J.stop i H'∧Q (.ref p) H')∨(J.go i H'∧∀ x H2,J.yld i H' x H2 →
  g x σ' H2 fun σ2 H3=>tc σ2 H3 fun b H4=>if b=true then te σ2 H4 fun y H5=>H5 p=some (.lst xs)∧xs.length < sizeLine∧∃ m',m' < m∧W (i + 1) m' (xs++[y]) σ2 (yV H5 p (.lst (xs++[y]))) else ∃ m',m' < m∧W (i + 1) m' xs σ2 H4)
theorem oC {X:Cx} {elt tgt iter:Expr} {ifs:List Expr} {scope:Scope} {pos:Pos} {wi:TI} {cl:List (Str×Addr)} (tn:List Str) (caps:List (Nat×Str)) {g:TG} {tc:TT} {te:TE}
    (hcalm:X.calm=true) (hclos:closureFor scope X.env=pure cl) (hcell:∀ p∈caps,(p.2,NameKind.cell)∉scope.names) (hkind:scope.kind=.function) (hnames:∀ y∈scope.names,y.2=.local→scope.names.lookup y.1=some .local)
    (hcl:∀ x c,cl.lookup x=some c→X.env.cells.lookup x=some c) (hhas:∀ (n:Nat) x,((relabel scope X.env).names.lookup x=some .cell∨(relabel scope X.env).names.lookup x=some .free)→∃ c,(cellsFrom n scope.names []++cl).lookup x=some c)
    (hcap:∀ p∈caps,X.N[p.1]?=some p.2∧X.env.scope.names.lookup p.2=some .cell∧((relabel scope X.env).names.lookup p.2=some .cell∨(relabel scope X.env).names.lookup p.2=some .free))
    (hi:PI X.nox tgt iter wi)
    (hb:∀ s2 H2 C fp pn,PG (fg X (tn++caps.map (·.2)) scope cl s2 H2 C fp pn) tgt g∧PF (fg X (tn++caps.map (·.2)) scope cl s2 H2 C fp pn) ifs tc∧PE (fg X (tn++caps.map (·.2)) scope cl s2 H2 C fp pn) elt te)
    (hs:∀ x,foldedSetIterable iter X.env x=pure x:=by intro _;rfl)
    {posF:Pos} {use:Option (Value→Sem Unit)} {Qf:Value→Shared→Prop} (pins:List (Addr×Obj)) (s:Shared) (σ:L2.St) (H:Hp) (Q:VK) (I:Inv X.nox pins σ H s) (h:wG wi tn.length caps g tc te σ H Q)
    (fin:∀ p C m4 H3 s4,Inv X.nox pins σ H3 s4→s4.heap.Ns C m4→o7 X.nox pins H3 C→Q (.ref p) H3→compPost (model X.prog X.w) X.A (fun _ _=>False) use Qf (.ref p) C (.ok .next) s4) :
    wpAny (model X.prog X.w) X.A (comprehension (.ListComp elt [⟨tgt,iter,ifs,0⟩] scope pos) scope X.env posF (newList []) false (eval iter X.env) use) Qf (fun _ _=>False) s:=by
  refine wpAny_comprehension_free (use:=use) rfl hs hclos hkind hnames (wpAny_mono (hi pins s σ H _ I h) (fun x s₁ h₁=>wpAny_mono h₁ (fun itv s₂ h₂=>?_) fun _ _ e=>e) fun _ _ e=>e)
  obtain ⟨it,fp,tnr,J,H1,rfl,I1,T,st,hfp,q⟩:=h₂
  refine wpAny_newObj_type (pb fun h₁ hns₁ hkp hcs hap=>?_)
  dsimp only at hns₁ hkp hcs hap ⊢
  generalize hH2:s₂.heap.push { cls:=.type "list",dict:=none,data:=.seq ([]:List Value).toArray }=Hq at hns₁ hkp hcs hap ⊢
  have hC:Hq.objs.size=s₂.heap.objs.size + 1:=by rw [← hH2,Heap.size_push]
  generalize hCe:Hq.objs.size=C at hns₁ hcs hap hC ⊢
  generalize hpe:s₂.heap.objs.size=p at hC ⊢
  obtain ⟨m1,hns₁⟩:∃ m,h₁.Ns C m:=⟨_,hns₁⟩
  have hpC:p≠C:=Nat.ne_of_lt (by rw [hC];exact Nat.lt_succ_self _)
  have hbs:∀ b,b < s₂.heap.objs.size→b≠C∧b≠p:=fun b hb=>⟨Nat.ne_of_lt (by rw [hC,← hpe];exact Nat.lt_succ_of_lt hb),Nat.ne_of_lt (by rw [← hpe];exact hb)⟩
  have hple:s₂.heap.objs.size≤p:=Nat.le_of_eq hpe
  have hCle:s₂.heap.objs.size≤C:=by rw [hC,← hpe];exact Nat.le_succ _
  have old:∀ b o,s₂.heap.get? b=some o→h₁.get? b=some o:=fun b o e=>hkp b o (hH2 ▸ Heap.get?_push_of_some _ e)
  have hacc:h₁.get? p=some { cls:=.type "list",data:=.seq ([]:List Value).toArray 0 }:=by
    refine hkp p _ ?_
    rw [← hpe]
    exact hH2 ▸ Heap.get?_push_size _ rfl
  generalize hown:cellsFrom (C + 1) scope.names []=own at hcs hap ⊢
  have look:∀ x c,(own++cl).lookup x=some c→(x,c)∈own∨cl.lookup x=some c:=fun x c e=>by
    rw [List.lookup_append] at e
    cases z:own.lookup x with
    | some d=>rw [z] at e;cases e;exact .inl (mem_of_lookup z)
    | none=>rw [z] at e;exact .inr e
  have capn:∀ pr∈caps,own.lookup pr.2=none:=fun pr hp=>by
    cases z:own.lookup pr.2 with
    | none=>rfl
    | some d =>
      rcases iD (hown ▸ mem_of_lookup z) with e | e
      · cases e
      · exact absurd e (hcell pr hp)
  have ownlt:∀ x c,(x,c)∈own→C < c:=fun x c e=>(hcs x c e).2
  have hfree:H1 p=none:=I1.hok.fresh hple
  have hfreeC:H1 C=none:=I1.hok.fresh hCle
  obtain ⟨W,⟨m0,w0⟩,turn⟩:=q p hfree
  have X'def:∃ X',X'=fg X (tn++caps.map (·.2)) scope cl s₂ H1 C fp (X.pn++pins):=⟨_,rfl⟩
  obtain ⟨X',hX'⟩:=X'def
  have hstk:∀ b∈frs X.stack,b=X.env.locals∨b∈X.fs:=fun b hb=>List.mem_cons.mp (I1.stkSub b hb)
  have hfpl:∀ b∈fp,b < s₂.heap.objs.size:=fun b hb=>let ⟨_,e,_⟩:=T.obj _ _ st b hb;Heap.lt_size e
  have hfps:∀ b∈fp,b∉frs X.stack:=fun b hb z=>(hstk b z).elim (fun e=>(hfp b hb).2.1 e) fun e=>(hfp b hb).2.2.1 e
  have hcells:∀ x c,cl.lookup x=some c→c < s₂.heap.objs.size∧H1 c=none:=fun x c e=>by
    obtain ⟨v,hv⟩:=I1.cell x c (hcl x c e)
    exact⟨hv.lt,I1.freeC x c (hcl x c e)⟩
  have ownNe:∀ x c,(x,c)∈own→∀ b,b < s₂.heap.objs.size→c≠b:=fun x c e b hb z=>absurd (Nat.lt_of_lt_of_le hb hCle) (Nat.not_lt.mpr (Nat.le_of_lt (by rw [← z];exact ownlt x c e)))
  have ok:X'.Ok:=by
    subst hX'
    have o:=I1.ok
    exact { mod:=o.mod
            kind:=by show (relabel scope X.env).kind=.function;exact hkind
            glob:=o.glob
            blt:=o.blt
            above:=hCle
            inj:=fun x y c h1 h2=>by
              replace h1:=look x c (hown ▸ h1)
              replace h2:=look y c (hown ▸ h2)
              rcases h1 with h1 | h1<;>rcases h2 with h2 | h2
              · exact name_of_addr hap h1 h2
              · exact absurd rfl (ownNe x c h1 c (hcells y c h2).1)
              · exact absurd rfl (ownNe y c h2 c (hcells x c h1).1)
              · exact o.inj x y c (hcl x c h1) (hcl y c h2)
            has:=fun x hx=>hhas _ x hx
            cab:=fun x c h1 h2=>by
              obtain ⟨d,hd⟩:=gj (sc:=scope) (n:=C + 1) (eq_of_beq h1)
              have h2:(cellsFrom (C + 1) scope.names []++cl).lookup x=some c:=h2
              rw [List.lookup_append,hd] at h2
              cases h2
              exact Nat.le_trans hCle (Nat.le_of_lt (ownlt x _ (hown ▸ mem_of_lookup hd)))
            hd:=o.hd
            frames:=o.frames
            stk:=.inl rfl
            exf:=fun b hb=>⟨(hbs b (hfpl b hb)).1,fun x c e=>(look x c (hown ▸ e)).elim (fun z=>ownNe x c z b (hfpl b hb)) fun z=>(hfp b hb).2.2.2.2.1 x c (hcl x c z)⟩
            bs:=fun b ob e=>I1.bs b ob e
            bsz:=Nat.le_trans o.bsz I1.sz
            noex:=fun b ob e hb=>by
              obtain ⟨_,_,_,hh,_⟩:=hfp b hb
              rcases hh with hh | hh
              · exact o.noex b ob e hh
              · exact absurd (Heap.lt_size (I1.ok.bs b ob e).1) (Nat.not_lt.mpr hh)
            exfs:=hfps
            funs:=I1.stack
            frf:=I1.stkFree }
  have capOk:∀ (m:Str→Option Value) (i:Nat) (x:Str) (v:V),X'.N[i]?=some x→(nu tn.length caps σ)[i]?=some (some v)→Vis X'.env.scope x→∃ u,aN v u∧Look X'.env h₁ m x u:=by
    subst hX'
    intro m i x v hN hσ hv
    have hN:(tn++caps.map (·.2))[i]?=some x:=hN
    unfold nu at hσ
    by_cases hi:i < tn.length
    · rw [List.getElem?_append_left (by rw [List.length_replicate];exact hi),List.getElem?_replicate,if_pos hi] at hσ
      cases hσ
    · rw [List.getElem?_append_right (by rw [List.length_replicate];omega),List.length_replicate] at hσ
      rw [List.getElem?_append_right (by omega)] at hN
      rw [List.getElem?_map] at hσ hN
      cases hc:caps[i - tn.length]? with
      | none=>rw [hc] at hN;cases hN
      | some pr =>
        rw [hc] at hN hσ
        have hN:pr.2=x:=Option.some.inj hN
        have hσ:(σ[pr.1]?).join=some v:=Option.some.inj hσ
        obtain ⟨c1,c2,c3⟩:=hcap pr (List.mem_of_getElem? hc)
        subst hN
        have hσ':σ[pr.1]?=some (some v):=by
          cases z:σ[pr.1]? with
          | none=>rw [z] at hσ;cases hσ
          | some o=>rw [z] at hσ;exact congrArg some hσ
        obtain ⟨m1,hm1,hl1⟩:=I1.loc
        obtain ⟨u,ru,lk⟩:=hl1 pr.1 pr.2 v c1 hσ' (.inr (.inl c2))
        refine⟨u,ru,.inr ⟨c3,?_⟩⟩
        rcases lk with ⟨k,_⟩ | ⟨_,c,ec,ic⟩
        · have k:X.env.scope.names.lookup pr.2=some .local :=k
          rw [c2] at k
          cases k
        · obtain ⟨c',ec0⟩:=hhas (C + 1) pr.2 c3
          have ec':=ec0
          rw [hown,List.lookup_append,capn pr (List.mem_of_getElem? hc)] at ec'
          have e1:=hcl _ _ ec'
          have ec:X.env.cells.lookup pr.2=some c:=ec
          rw [ec] at e1
          cases e1
          exact⟨c,ec0,ic.keeps old⟩
  have un0:Un (frs X.stack) fp H1 (yV H1 p (.lst [])) s₂.heap h₁:=Un.laid old hple hfree
  have I4:∀ tk,Inv X' [] (nu tn.length caps σ) (yV H1 p (.lst [])) { s₂ with heap:=h₁,toks:=tk }:=fun tk=>by
    have hN:X'.N=tn++caps.map (·.2):=by rw [hX'];rfl
    refine⟨ok,?_,I1.bare,?_,⟨m1,?_,fun i x v e1 e2 e3=>?_⟩,fun x c e=>?_,?_,fun x c e=>?_,fun pr hp=>?_,?_,?_⟩
    · rw [hX'];rfl
    · rw [hX'];exact un0
    · rw [hX'];exact hns₁
    · exact capOk _ i x v e1 e2 e3
    · rw [hX'] at e
      rcases look x c (hown ▸ e) with e | e
      · exact⟨_,(hcs x c e).1⟩
      · obtain ⟨v,hv⟩:=I1.cell x c (hcl x c e)
        exact⟨v,hv.keeps old⟩
    · rw [hX']
      show yV H1 p (.lst []) C=none
      rw [ar (Ne.symm hpC)]
      exact hfreeC
    · rw [hX'] at e
      show yV H1 p (.lst []) c=none
      rcases look x c (hown ▸ e) with e | e
      · have:=ownlt x c e
        rw [ar (fun z=>Nat.lt_irrefl p (Nat.lt_trans (hC ▸ Nat.lt_succ_self p) (z ▸ this)))]
        exact I1.hok.fresh (Nat.le_trans hCle (Nat.le_of_lt this))
      · have hc:=hcells x c e
        rw [ar (hbs c hc.1).2]
        exact hc.2
    · rw [hX'] at hp
      have hp:pr∈(X.pn++pins)++[]:=hp
      rw [List.append_nil] at hp
      obtain ⟨e,n,nl,nf,d⟩:=I1.pin pr hp
      have hlt:=Heap.lt_size e
      refine⟨old _ _ e,?_,?_,fun z=>?_,d⟩
      · rw [ar (hbs _ hlt).2];exact n
      · rw [hX'];exact (hbs _ hlt).1
      · rw [hX'] at z
        exact (hstk _ z).elim nl nf
    · have e1:X'.prog=X.prog:=by rw [hX'];rfl
      have e2:X'.w=X.w:=by rw [hX'];rfl
      rw [e1,e2]
      exact I1.hok.laid old hple ⟨Nat.zero_le _,[],0,.nil,hacc⟩
    · rw [hN]
      unfold nu
      rw [List.length_append,List.length_append,List.length_replicate,List.length_map,List.length_map]
  have fpk:∀ H',(∀ b∈fp,H' b=none)→∀ b∈fp,o7 X' [] H' b:=fun H' hn b hb=>by
    rw [hX']
    refine⟨hn b hb,(hbs b (hfpl b hb)).1,hfps b hb,.inl hb,fun x c e=>(look x c (hown ▸ e)).elim (fun z=>ownNe x c z b (hfpl b hb)) fun z=>(hfp b hb).2.2.2.2.1 x c (hcl x c z),fun pr hp=>?_⟩
    have hp:pr∈(X.pn++pins)++[]:=hp
    rw [List.append_nil] at hp
    exact (hfp b hb).2.2.2.2.2 pr hp
  obtain ⟨hg,hf,he⟩:=hb s₂ H1 C fp (X.pn++pins)
  rw [← hX'] at hg hf he
  have p1:X'.prog=X.prog:=by rw [hX'];rfl
  have p2:X'.w=X.w:=by rw [hX'];rfl
  have p3:X'.K=X.K:=by rw [hX'];rfl
  have p4:X'.calm=true:=by rw [hX'];exact hcalm
  have p5:X'.env=compEnvC scope (own++cl) C X.env:=by rw [hX',← hown];rfl
  have p6:X'.A=X.A:=by rw [hX'];rfl
  have p7:X'.xe=fun _ _=>False:=by rw [hX'];rfl
  have st1:tnr 0 h₁:=T.keep _ _ _ st fun b hb o e=>old b o e
  have loop:∀ tk,codeAny (model X.prog X.w) X.A (.compLoop (.ListComp elt [⟨tgt,iter,ifs,0⟩] scope pos) 0 (.ref it) (.ref p) (compEnvC scope (own++cl) C X.env))
      (compPost (model X.prog X.w) X.A (fun _ _=>False) use Qf (.ref p) C) { s₂ with heap:=h₁,toks:=tk }:=fun tk=>by
    refine cw (fun n s'=>∃ i xs σ' H',Inv X' [] σ' H' s'∧tnr i s'.heap∧(∀ b∈fp,H' b=none)∧W i n xs σ' H') ?_ m0 ⟨0,[],_,_,I4 tk,st1,fun b hb=>?_,w0⟩
    · rintro n s3 ⟨i,xs,σ3,H3,I3,st3,fr3,w3⟩
      rcases turn i n xs σ3 H3 w3 with ⟨stop,qn⟩ | ⟨go,step⟩
      · have q1:=T.done X' p1 p2 p3 p4 i [] s3 _ H3 (fun _ _=>False) I3 (fpk H3 fr3) st3 stop
        rw [p6] at q1
        refine yT q1 fun r s4 ⟨hr,I4'⟩=>?_
        subst hr
        obtain ⟨m4,hm4,_⟩:=I4'.loc
        rw [p5] at hm4
        have hb4:=I4'.base
        rw [hX'] at hb4
        have hb4:Un (frs X.stack) fp H1 H3 s₂.heap s4.heap:=hb4
        have hfc:H3 C=none:=by
          have z:=I4'.free
          rw [p5] at z
          exact z
        have hok4:yO X.prog X.w H3 s4.heap:=by
          have hk:=I4'.hok
          rw [p1,p2] at hk
          exact hk
        have hos:s4.os=s₂.os:=by
          have z:=I4'.os
          rw [hX'] at z
          exact z
        have I9:=I1.call' (s':=s4) (ch:=fp) hos hb4 hok4 I4'.bare (fun b hb=>by
          obtain ⟨_,f1,f2,f3,f4,f5⟩:=hfp b hb
          exact⟨f3,f1,f4,f5⟩)
        exact fin p C m4 H3 s4 I9 hm4 ⟨hfc,(I1.fpOk hCle hfreeC).2⟩ qn
      · have q1:=T.item X' p1 p2 p3 p4 i [] s3 _ H3 (fun _ _=>False) I3 (fpk H3 fr3) st3 go
        rw [p6] at q1
        refine yT q1 fun r s4 ⟨u,hr,h4⟩=>?_
        subst hr
        refine yT h4 fun _ s5 ⟨x,H5,I5,r5,y5,st5,fr5⟩=>?_
        have I5':=I5.pinned (fpk H5 fr5) (T.obj _ _ st5)
        have q5:=hg _ s5 _ H5 x u _ I5' r5 (step x H5 y5)
        rw [p1,p2,p5,p6,p7] at q5
        refine yT q5 fun _ s6 ⟨σ6,H6,I6,q6⟩=>?_
        have q6:=hf _ s6 σ6 H6 _ I6 q6
        rw [p1,p2,p5,p6,p7] at q6
        refine yT q6 fun b s7 ⟨H7,I7,q7⟩=>?_
        have again:∀ {s8:Shared} {H8:Hp},Inv X' ([]++gL fp s5.heap) σ6 H8 s8→Inv X' [] σ6 H8 s8∧tnr (i + 1) s8.heap∧(∀ b∈fp,H8 b=none):=fun {s8 H8} I8=>by
          refine⟨I8.unpinned,T.keep _ _ _ st5 fun b hb o e=>(I8.pin (b,o) (List.mem_append_right _ (List.mem_append_right _ (cq hb e)))).1,fun b hb=>?_⟩
          obtain ⟨o,e,d⟩:=T.obj _ _ st5 b hb
          exact (I8.pin (b,o) (List.mem_append_right _ (List.mem_append_right _ (cq hb e)))).2.1
        cases b with
        | false =>
          obtain ⟨m',hm,w7⟩:=q7
          obtain ⟨a1,a2,a3⟩:=again I7
          exact⟨m',hm,i + 1,xs,σ6,H7,a1,a2,a3,w7⟩
        | true =>
          rw [if_pos rfl]
          have q8:=he _ s7 σ6 H7 _ I7 q7
          rw [p1,p2,p5,p6,p7] at q8
          refine yT q8 fun y s8 ⟨yv,H8,I8,ry,hac,hsz,m',hm,w8⟩=>?_
          have q9:=gT (X:=X') _ s8 σ6 H8 (.ref p) [yv] (.ref p) [y] (fun _ H9=>H9=yV H8 p (.lst (xs++[yv]))) I8 rfl (.cons ry .nil) ⟨p,xs,yv,rfl,rfl,hac,hsz,rfl⟩
          rw [p1,p2,p6,p7] at q9
          refine yT q9 fun _ s9 ⟨_,H9,I9,_,e9⟩=>?_
          subst e9
          obtain ⟨a1,a2,a3⟩:=again I9
          exact⟨m',hm,i + 1,xs++[yv],σ6,_,a1,a2,a3,w8⟩
    · rw [ar (hbs b (hfpl b hb)).2]
      exact (hfp b hb).1
  have L0:=loop s₂.toks
  exact codeAny_compStart_list L0 (T.self _ _ _ _ _ st1 L0)
theorem qz {X:Cx} {elt tgt iter:Expr} {ifs:List Expr} {scope:Scope} {pos:Pos} {wi:TI} {cl:List (Str×Addr)} (tn:List Str) (caps:List (Nat×Str)) {g:TG} {tc:TT} {te:TE}
  (hcalm:X.calm=true) (hclos:closureFor scope X.env=pure cl) (hcell:∀ p∈caps,(p.2,NameKind.cell)∉scope.names) (hkind:scope.kind=.function) (hnames:∀ y∈scope.names,y.2=.local→scope.names.lookup y.1=some .local)
  (hcl:∀ x c,cl.lookup x=some c→X.env.cells.lookup x=some c) (hhas:∀ (n:Nat) x,((relabel scope X.env).names.lookup x=some .cell∨(relabel scope X.env).names.lookup x=some .free)→∃ c,(cellsFrom n scope.names []++cl).lookup x=some c)
  (hcap:∀ p∈caps,X.N[p.1]?=some p.2∧X.env.scope.names.lookup p.2=some .cell∧((relabel scope X.env).names.lookup p.2=some .cell∨(relabel scope X.env).names.lookup p.2=some .free))
  (hi:PI X.nox tgt iter wi)
  (hb:∀ s2 H2 C fp pn,PG (fg X (tn++caps.map (·.2)) scope cl s2 H2 C fp pn) tgt g∧PF (fg X (tn++caps.map (·.2)) scope cl s2 H2 C fp pn) ifs tc∧PE (fg X (tn++caps.map (·.2)) scope cl s2 H2 C fp pn) elt te)
  (hs:∀ x,foldedSetIterable iter X.env x=pure x:=by intro _;rfl) :
  PE X.nox (.ListComp elt [⟨tgt,iter,ifs,0⟩] scope pos) (wG wi tn.length caps g tc te):=by
 intro pins s σ H Q I h
 rw [eval_ListComp]
 refine oC tn caps hcalm hclos hcell hkind hnames hcl hhas hcap hi hb hs (use:=none) pins s σ H Q I h fun p C m4 H3 s4 I9 hm4 hf q=>?_
 obtain ⟨f0,f1,f2,f3,f4,f5⟩:=hf
 exact⟨m4,hm4,fun h' hs'=>⟨.ref p,H3,I9.turned (t':=s4.toks) (fun b o hb e=>hs'.extBut b o hb e) f0 f1 f3 f4 f5,rfl,q⟩⟩
end DL
namespace DL
open PySem PySem.Spec PyProof.Rows L2
theorem ko:bootBuiltins "len"=some (.builtin "len"):=by decide +kernel
theorem qE:bootBuiltins "abs"=some (.builtin "abs"):=by decide +kernel
theorem b8:bootBuiltins "isinstance"=some (.builtin "isinstance"):=by decide +kernel
theorem gn:bootBuiltins "sorted"=some (.builtin "sorted"):=by decide +kernel
theorem yk:bootBuiltins "int"=some (.type "int"):=by decide +kernel
theorem sB:bootBuiltins "tuple"=some (.type "tuple"):=by decide +kernel
theorem vQ:bootBuiltins "dict"=some (.type "dict"):=by decide +kernel
section
variable {X:Cx}
theorem aB.imp {K:PySem.W.Frag} {f g:List D→(D→Prop)→Prop} {vs:List V} {H:Hp} {Q:VK} (h:∀ ds R,f ds R→g ds R) (p:aB K f vs H Q):aB K g vs H Q :=
 let ⟨M,ds,R,m,rs,hf,k⟩:=p;⟨M,ds,R,m,rs,h ds R hf,k⟩
def ux:List D→(D→Prop)→Prop
 | [.tup xs,.tup ys],R=>xs≠[]∧ys≠[]∧xs.length + ys.length≤9000∧R (.tup (xs++ys))
 | _,_=>False
theorem oN:∀ {d0:List D} {R:D→Prop},ux d0 R→∃ (xs:List D) (ys:List D),d0=[.tup xs,.tup ys]∧xs≠[]∧ys≠[]∧xs.length + ys.length≤9000∧R (.tup (xs++ys)):=by walk_at "or"
theorem vd:yK X (binaryOp .Add) fun x y=>aB X.K ux [x,y] :=
 yK.imp qR fun x y H Q ⟨M,ds,R,m,rs,h,k⟩=>by
  replace h:=oN h
  obtain ⟨_,_,rfl,h⟩:=h
  ·obtain ⟨n1,n2,hz,q⟩:=h
   obtain ⟨h1,h2⟩:=bg rs
   unfold yF at h1 h2
   obtain ⟨a,vs,e,l,r⟩:=h1
   obtain ⟨b,ws,e',l',r'⟩:=h2
   have l1:=Reps.length _ _ r
   have l2:=Reps.length _ _ r'
   refine⟨a,b,vs,ws,e,e',l,l',fun z=>n1 (List.eq_nil_of_length_eq_zero (by rw [l1,z];rfl)),bV (by rw [← l1,← l2];exact hz),fun z=>absurd (List.eq_nil_of_length_eq_zero (by rw [l2,z];rfl)) n2,fun _ p hp=>k _ q _ _ (ap hp _) ?_⟩
   unfold yF
   exact⟨p,vs++ws,rfl,yR.of al,Reps.kp (Kp.of_same (ap hp _)) _ _ (Reps.append _ _ _ _ r r')⟩
def mW:List D→(D→Prop)→Prop
 | [.int i,.int j],R=>R (.int (i + j))
 | [.lst xs,.lst ys],R=>xs.length + ys.length≤9000∧R (.lst (xs++ys))
 | [.tup xs,.tup ys],R=>xs≠[]∧ys≠[]∧xs.length + ys.length≤9000∧R (.tup (xs++ys))
 | _,_=>False
theorem oM:∀ {d0:List D} {R:D→Prop},mW d0 R→((∃ (i:Int) (j:Int),d0=[.int i,.int j]∧R (.int (i + j)))∨(∃ (xs:List D) (ys:List D),d0=[.lst xs,.lst ys]∧xs.length + ys.length≤9000∧R (.lst (xs++ys)))∨(∃ (xs:List D) (ys:List D),d0=[.tup xs,.tup ys]∧xs≠[]∧ys≠[]∧xs.length + ys.length≤9000∧R (.tup (xs++ys)))):=by walk_at "or"
theorem bQ:yK X (binaryOp .Add) fun x y=>aB X.K mW [x,y] :=
 yK.imp (yK.or (yK.or xW xL) vd) fun x y H Q ⟨M,ds,R,m,rs,h,k⟩=>by
  replace h:=oM h
  rcases h with ⟨_,_,rfl,h⟩ | ⟨_,_,rfl,h⟩ | ⟨_,_,rfl,h⟩
  ·exact .inl (.inl ⟨M,_,R,m,rs,h,k⟩)
  ·exact .inl (.inr ⟨M,_,R,m,rs,h,k⟩)
  ·exact .inr ⟨M,_,R,m,rs,h,k⟩
mutual
def D.dp:D→Nat
 | .tup xs=>D.dps xs + 1
 | .lst xs=>D.dps xs + 1
 | .fz xs=>D.dps xs + 1
 | .dct _ _=>0
 | .fd _ _=>0
 | .fo _ _ _=>0
 | .exn _ _ _=>0
 | .non=>0
 | .bl _=>0
 | .int _=>0
 | .str _=>0
def D.dps:List D→Nat
 | []=>0
 | x :: r=>max (D.dp x) (D.dps r)
end
mutual
def D.nd:D→Bool
 | .tup xs=>D.nds xs
 | .lst xs=>D.nds xs
 | .fz xs=>D.nds xs
 | .dct _ _=>false
 | .fd _ _=>false
 | .fo _ _ _=>false
 | .exn _ _ _=>false
 | .non=>true
 | .bl _=>true
 | .int _=>true
 | .str _=>true
def D.nds:List D→Bool
 | []=>true
 | x :: r=>D.nd x && D.nds r
end
theorem bf (A:Around):A.in1.units=A.units + 1:=rfl
theorem cI (n:Nat):((List.range n).all fun _=>true)=true:=by simp
section
variable {pins:List (Addr×Obj)} {σ:L2.St} {H:Hp} {s:Shared} {M:Addr→Prop}
mutual
theorem p8 (I:Inv X pins σ H s):∀ (d:D) (A:Around) (v v':V) (u u':Value),d.nd=true→A.units + d.dp < cLine→yF X.K M H d v→yF X.K M H d v'→aN v u→aN v' u'→SeqAt.EqAt A s u u' true
 | .non,A,v,v',u,u',_,_,r,r',q,q'=>by
  unfold yF at r r';subst r r'
  have:=jT (A:=A) (s:=s) q q' rfl rfl
  exact this
 | .bl b,A,v,v',u,u',_,_,r,r',q,q'=>by
  unfold yF at r r';subst r r'
  have:=jT (A:=A) (s:=s) q q' rfl rfl
  simpa [eqV] using this
 | .int b,A,v,v',u,u',_,_,r,r',q,q'=>by
  unfold yF at r r';subst r r'
  have:=jT (A:=A) (s:=s) q q' rfl rfl
  simpa [eqV] using this
 | .str b,A,v,v',u,u',_,_,r,r',q,q'=>by
  unfold yF at r r';subst r r'
  have:=jT (A:=A) (s:=s) q q' rfl rfl
  simpa [eqV] using this
 | .tup ds,A,v,v',u,u',hn,hd,r,r',q,q'=>by
  unfold yF at r r'
  obtain ⟨a,vs,rfl,sq,rs⟩:=r
  obtain ⟨b,ws,rfl,sq',rs'⟩:=r'
  cases q
  cases q'
  unfold D.dp at hd
  by_cases e:a=b
  ·subst e;exact SeqAt.EqAt.same _
  ·obtain ⟨its,r1,t1,_⟩:=I.tuple sq
   obtain ⟨its',r2,t2,_⟩:=I.tuple sq'
   have hs:its.length=its'.length:=by rw [← r1.length,← r2.length,← Reps.length _ _ rs,← Reps.length _ _ rs']
   have k:=SeqAt.RcAt.tuples (A:=A) (e:=fun _=>true) t1 t2 (by omega) (eqAt_Ds I ds A.in1 vs ws its its' hn (by rw [bf];omega) rs rs' r1 r2)
   have z:((List.range (min its.toArray.size its'.toArray.size)).all (fun _=>true) && its.toArray.size == its'.toArray.size)=true:=by simp [hs]
   rw [z] at k
   exact SeqAt.EqAt.of_refs e k
 | .lst ds,A,v,v',u,u',hn,hd,r,r',q,q'=>by
  unfold yF at r r'
  obtain ⟨a,vs,rfl,_,sq,rs⟩:=r
  obtain ⟨b,ws,rfl,_,sq',rs'⟩:=r'
  cases q
  cases q'
  unfold D.dp at hd
  by_cases e:a=b
  ·subst e;exact SeqAt.EqAt.same _
  ·obtain ⟨its,r1,t1,_⟩:=I.list (yI.of sq)
   obtain ⟨its',r2,t2,_⟩:=I.list (yI.of sq')
   have hs:its.length=its'.length:=by rw [← r1.length,← r2.length,← Reps.length _ _ rs,← Reps.length _ _ rs']
   have k:=SeqAt.RcAt.lists (A:=A) (e:=fun _=>true) t1.isList t2.isList (by simp [hs]) (by omega) (eqAt_Ds I ds A.in1 vs ws its its' hn (by rw [bf];omega) rs rs' r1 r2)
   rw [cI] at k
   exact SeqAt.EqAt.of_refs e k
 | .fz ds,A,v,v',u,u',hn,hd,r,r',q,q'=>by
  unfold yF at r r'
  obtain ⟨a,vs,rfl,sq,rs⟩:=r
  obtain ⟨b,ws,rfl,sq',rs'⟩:=r'
  cases q
  cases q'
  unfold D.dp at hd
  by_cases e:a=b
  ·subst e;exact SeqAt.EqAt.same _
  ·obtain ⟨its,r1,t1,_⟩:=I.list sq.seq
   obtain ⟨its',r2,t2,_⟩:=I.list sq'.seq
   have hs:its.length=its'.length:=by rw [← r1.length,← r2.length,← Reps.length _ _ rs,← Reps.length _ _ rs']
   have k:=SeqAt.RcAt.lists (A:=A) (e:=fun _=>true) t1.isList t2.isList (by simp [hs]) (by omega) (eqAt_Ds I ds A.in1 vs ws its its' hn (by rw [bf];omega) rs rs' r1 r2)
   rw [cI] at k
   exact SeqAt.EqAt.of_refs e k
 | .dct ks ds,A,v,v',u,u',hn,_,_,_,_,_=>by unfold D.nd at hn;cases hn
 | .fd ks ds,A,v,v',u,u',hn,_,_,_,_,_=>by unfold D.nd at hn;cases hn
 | .fo o ks ds,A,v,v',u,u',hn,_,_,_,_,_=>by unfold D.nd at hn;cases hn
 | .exn _ _ _,A,v,v',u,u',hn,_,_,_,_,_=>by unfold D.nd at hn;cases hn
theorem eqAt_Ds (I:Inv X pins σ H s):∀ (ds:List D) (A:Around) (vs ws:List V) (us us':List Value),D.nds ds=true→A.units + D.dps ds < cLine→Reps X.K M H ds vs→Reps X.K M H ds ws→aV vs us→aV ws us' →
  ∀ j (h1:j < us.toArray.size) (h2:j < us'.toArray.size),SeqAt.EqAt A s us.toArray[j] us'.toArray[j] true
 | [],A,vs,ws,us,us',_,_,r,r',q,q',j,h1,h2=>by
  unfold Reps at r
  subst r
  cases q
  exact absurd h1 (by simp)
 | d :: ds,A,vs,ws,us,us',hn,hd,r,r',q,q',j,h1,h2=>by
  unfold Reps at r r'
  obtain ⟨v,vr,rfl,rv,rs⟩:=r
  obtain ⟨w',wr,rfl,rw',rs'⟩:=r'
  unfold D.nds at hn
  obtain ⟨n1,n2⟩:=Bool.and_eq_true_iff.mp hn
  unfold D.dps at hd
  cases q with
  | @cons _ u0 _ ur qa qb =>
   cases q' with
   | @cons _ u1 _ ur' qa' qb' =>
    cases j with
    | zero=>exact p8 I d A v w' _ _ n1 (by omega) rv rw' qa qa'
    | succ j =>
     have z:=eqAt_Ds I ds A vr wr ur ur' n2 (by omega) rs rs' qb qb' j (by simpa using h1) (by simpa using h2)
     simpa using z
end
end
theorem pX {i j:Int}:decide (V.int i=V.int j)=decide (i=j):=by rw [iV];exact Bool.beq_eq_decide_eq _ _
theorem uH {i j:Bool}:decide (V.bl i=V.bl j)=decide (i=j):=by rw [lh];exact Bool.beq_eq_decide_eq _ _
theorem qc {i j:Str}:decide (V.str i=V.str j)=decide (i=j):=by rw [jo];exact Bool.beq_eq_decide_eq _ _
def fEq:List D→(D→Prop)→Prop
 | [.int i,.int j],R=>R (.bl (decide (i=j)))
 | [.str x,.str y],R=>R (.bl (decide (x=y)))
 | [.bl a,.bl b],R=>R (.bl (decide (a=b)))
 | [.tup xs,.tup ys],R=>(xs=ys∧D.nds xs=true∧D.dps xs≤60)∧R (.bl true)
 | [.lst xs,.lst ys],R=>((xs=ys∧D.nds xs=true∧D.dps xs≤60)∧R (.bl true))∨(xs.length≠ys.length∧R (.bl false))
 | _,_=>False
theorem vH:∀ {d0:List D} {R:D→Prop},fEq d0 R→((∃ (i:Int) (j:Int),d0=[.int i,.int j]∧R (.bl (decide (i=j))))∨(∃ (x:Str) (y:Str),d0=[.str x,.str y]∧R (.bl (decide (x=y))))∨(∃ (a:Bool) (b:Bool),d0=[.bl a,.bl b]∧R (.bl (decide (a=b))))∨(∃ (xs:List D) (ys:List D),d0=[.tup xs,.tup ys]∧(xs=ys∧D.nds xs=true∧D.dps xs≤60)∧R (.bl true))∨(∃ (xs:List D) (ys:List D),d0=[.lst xs,.lst ys]∧(((xs=ys∧D.nds xs=true∧D.dps xs≤60)∧R (.bl true))∨(xs.length≠ys.length∧R (.bl false))))):=by walk_at "or"
theorem qH {i j:Int} {R:D→Prop}:fEq [.int i,.int j] R=(R (.bl (decide (i=j)))):=rfl
theorem t7 {i j:Str} {R:D→Prop}:fEq [.str i,.str j] R=(R (.bl (decide (i=j)))):=rfl
theorem we {i j:Bool} {R:D→Prop}:fEq [.bl i,.bl j] R=(R (.bl (decide (i=j)))):=rfl
theorem sA {i j:List D} {R:D→Prop}:fEq [.tup i,.tup j] R=((i=j∧D.nds i=true∧D.dps i≤60)∧R (.bl true)):=rfl
theorem iE (hu:X.A.units + 64 < cLine):yK X (compareOp .Eq) fun x y=>aB X.K fEq [x,y]:=by
 intro pins s σ H x y v u Q I rx ry h
 obtain ⟨M,ds,R,m,rs,h,k⟩:=h
 replace h:=vH h
 rcases h with ⟨_,_,rfl,h⟩ | ⟨_,_,rfl,h⟩ | ⟨_,_,rfl,h⟩ | ⟨_,_,rfl,h⟩ | ⟨_,_,rfl,h⟩
 ·obtain ⟨h1,h2⟩:=bg rs
  cases aJ h1
  cases aJ h2
  refine uc pins s σ H _ _ v u Q I rx ry ⟨rfl,?_⟩
  rw [pX]
  exact k _ h _ H (bh.refl H) (yF.sc rfl)
 ·obtain ⟨h1,h2⟩:=bg rs
  cases aW h1
  cases aW h2
  refine uc pins s σ H _ _ v u Q I rx ry ⟨rfl,?_⟩
  rw [qc]
  exact k _ h _ H (bh.refl H) (yF.sc rfl)
 ·obtain ⟨h1,h2⟩:=bg rs
  cases dF h1
  cases dF h2
  refine uc pins s σ H _ _ v u Q I rx ry ⟨rfl,?_⟩
  rw [uH]
  exact k _ h _ H (bh.refl H) (yF.sc rfl)
 ·obtain ⟨⟨e,hn,hd⟩,h⟩:=h
  subst e
  obtain ⟨h1,h2⟩:=bg rs
  unfold yF at h1 h2
  obtain ⟨a,vs,rfl,sq,rs1⟩:=h1
  obtain ⟨b,ws,rfl,sq',rs2⟩:=h2
  cases rx
  cases ry
  obtain ⟨its,r1,t1,_⟩:=I.tuple sq
  obtain ⟨its',r2,t2,_⟩:=I.tuple sq'
  have hs:its.length=its'.length:=by rw [← r1.length,← r2.length,← Reps.length _ _ rs1,← Reps.length _ _ rs2]
  refine SeqAt.eq_tupleAt (e:=fun _=>true) t1 t2 (by omega) (eqAt_Ds I _ X.A.in1 vs ws its its' hn (by rw [bf];omega) rs1 rs2 r1 r2) ?_
  have z:((List.range (min its.toArray.size its'.toArray.size)).all (fun _=>true) && its.toArray.size == its'.toArray.size)=true:=by simp [hs]
  rw [z]
  exact⟨.bl true,H,I,rfl,k _ h _ H (bh.refl H) (yF.sc rfl)⟩
 ·obtain ⟨h1,h2⟩:=bg rs
  unfold yF at h1 h2
  obtain ⟨a,vs,rfl,_,sq,rs1⟩:=h1
  obtain ⟨b,ws,rfl,_,sq',rs2⟩:=h2
  cases rx
  cases ry
  obtain ⟨its,r1,t1,_⟩:=I.list (yI.of sq)
  obtain ⟨its',r2,t2,_⟩:=I.list (yI.of sq')
  rcases h with ⟨⟨e,hn,hd⟩,h⟩ | ⟨ne,h⟩
  ·subst e
   have hs:its.length=its'.length:=by rw [← r1.length,← r2.length,← Reps.length _ _ rs1,← Reps.length _ _ rs2]
   refine SeqAt.eq_listAt (e:=fun _=>true) t1.isList t2.isList (by simp [hs]) (by omega) (eqAt_Ds I _ X.A.in1 vs ws its its' hn (by rw [bf];omega) rs1 rs2 r1 r2) ?_
   rw [cI]
   exact⟨.bl true,H,I,rfl,k _ h _ H (bh.refl H) (yF.sc rfl)⟩
  ·refine SeqAt.eq_list_lengthsAt t1.isList t2.isList ?_ (by omega) ⟨.bl false,H,I,rfl,k _ h _ H (bh.refl H) (yF.sc rfl)⟩
   have l1:=r1.length
   have l2:=r2.length
   have l3:=Reps.length _ _ rs1
   have l4:=Reps.length _ _ rs2
   simp only [List.size_toArray,bne_iff_ne,ne_eq]
   omega
def fNe:List D→(D→Prop)→Prop
 | [.int i,.int j],R=>R (.bl (!decide (i=j)))
 | [.str x,.str y],R=>R (.bl (!decide (x=y)))
 | [.bl a,.bl b],R=>R (.bl (!decide (a=b)))
 | _,_=>False
theorem wF:∀ {d0:List D} {R:D→Prop},fNe d0 R→((∃ (i:Int) (j:Int),d0=[.int i,.int j]∧R (.bl (!decide (i=j))))∨(∃ (x:Str) (y:Str),d0=[.str x,.str y]∧R (.bl (!decide (x=y))))∨(∃ (a:Bool) (b:Bool),d0=[.bl a,.bl b]∧R (.bl (!decide (a=b))))):=by walk_at "or"
theorem o_ne (_:X.A.units + 64 < cLine):yK X (compareOp .NotEq) fun x y=>aB X.K fNe [x,y]:=by
 intro pins s σ H x y v u Q I rx ry h
 obtain ⟨M,ds,R,m,rs,h,k⟩:=h
 replace h:=wF h
 rcases h with ⟨_,_,rfl,h⟩ | ⟨_,_,rfl,h⟩ | ⟨_,_,rfl,h⟩
 ·obtain ⟨h1,h2⟩:=bg rs
  cases aJ h1
  cases aJ h2
  refine sG pins s σ H _ _ v u Q I rx ry ⟨rfl,?_⟩
  rw [pX]
  exact k _ h _ H (bh.refl H) (yF.sc rfl)
 ·obtain ⟨h1,h2⟩:=bg rs
  cases aW h1
  cases aW h2
  refine sG pins s σ H _ _ v u Q I rx ry ⟨rfl,?_⟩
  rw [qc]
  exact k _ h _ H (bh.refl H) (yF.sc rfl)
 ·obtain ⟨h1,h2⟩:=bg rs
  cases dF h1
  cases dF h2
  refine sG pins s σ H _ _ v u Q I rx ry ⟨rfl,?_⟩
  rw [uH]
  exact k _ h _ H (bh.refl H) (yF.sc rfl)
def fIs:List D→(D→Prop)→Prop
 | [.bl a,.bl b],R=>R (.bl (decide (a=b)))
 | [.non,.non],R=>R (.bl true)
 | [.tup _,.non],R=>R (.bl false)
 | [.exn _ _ _,.non],R=>R (.bl false)
 | _,_=>False
theorem vD {d0:List D} {R:D→Prop} (h:fIs d0 R):(∃ (a:Bool) (b:Bool),d0=[.bl a,.bl b]∧R (.bl (decide (a=b))))∨(d0=[.non,.non]∧R (.bl true))∨(∃ (z1:List D),d0=[.tup z1,.non]∧R (.bl false))∨(∃ (c f:Str) (z1:D),d0=[.exn c f z1,.non]∧R (.bl false)):=by
 rcases d0 with _ | ⟨a,_ | ⟨b,_ | ⟨c,l⟩⟩⟩
 ·exact False.elim h
 ·cases a<;>exact False.elim h
 ·cases a<;>first | exact False.elim h | (cases b<;>first | exact False.elim h | exact .inl ⟨_,_,rfl,h⟩ | exact .inr (.inl ⟨rfl,h⟩) | exact .inr (.inr (.inl ⟨_,rfl,h⟩)) | exact .inr (.inr (.inr ⟨_,_,_,rfl,h⟩)))
 ·cases a<;>first | exact False.elim h | (cases b<;>exact False.elim h)
theorem u4 {i j:Bool} {R:D→Prop}:fIs [.bl i,.bl j] R=(R (.bl (decide (i=j)))):=rfl
theorem uo:yK X (compareOp .Is) (fun x y H Q=>∃ a b,x=.bl a∧y=.bl b∧Q (.bl (decide (a=b))) H):=by
 intro pins s σ H x y v u Q I rx ry h
 obtain ⟨a,b,rfl,rfl,q⟩:=h
 cases rx
 cases ry
 refine wpAny_is_plain rfl ⟨.bl _,H,I,rfl,?_⟩
 have e:(Value.bool a == Value.bool b)=decide (a=b):=by cases a<;>cases b<;>rfl
 rw [e]
 exact q
theorem o_is:yK X (compareOp .Is) fun x y=>aB X.K fIs [x,y] :=
  yK.imp (yK.or uo uj) fun x y H Q ⟨M,ds,R,m,rs,h,k⟩=>by
    have fin:∀ b,R (.bl b)→Q (.bl b) H:=fun b r=>k _ r _ H (bh.refl H) (yF.sc rfl)
    replace h:=vD h
    rcases h with ⟨_,_,rfl,h⟩ | ⟨rfl,h⟩ | ⟨_,rfl,h⟩ | ⟨_,_,_,rfl,h⟩
    · obtain ⟨h1,h2⟩:=bg rs
      exact .inl ⟨_,_,dF h1,dF h2,fin _ h⟩
    all_goals first
      | exact h.elim
      | (obtain ⟨h1,h2⟩:=bg rs
         unfold yF at h1 h2
         first
           | (subst h1;exact .inr ⟨h2,fin _ h⟩)
           | (obtain ⟨a,vs,e,_⟩:=h1;subst e;exact .inr ⟨h2,fin _ h⟩)
           | (obtain ⟨y,⟨e,C,dx,e1,_⟩,_⟩:=h1;subst e1;exact .inr ⟨h2,fin _ h⟩))
def tyN:D→String
 | .non=>"NoneType"
 | .bl _=>"bool"
 | .int _=>"int"
 | .str _=>"str"
 | .tup _=>"tuple"
 | .lst _=>"list"
 | .fz _=>"list"
 | .dct _ _=>"dict"
 | .fd _ _=>"dict"
 | .fo _ _ _=>"dict"
 | .exn _ _ _=>"NoneType"
def D.noX:D→Prop
 | .exn _ _ _=>False
 | _=>True
def isT (T n:String):Bool:=n == T || (n == "bool" && T == "int")
def qIs (T:String):D→(Bool→Prop)→Prop
 | .exn _ _ _,_=>False
 | x,k=>k (isT T (tyN x))
def kIs (T:String) (R:W→En→Prop):W→En→Prop:=wd fun x δ1=>qIs T x fun b=>R (.d (.bl b)) δ1
end
end DL
namespace DL
open PySem PySem.Spec PyProof.Rows L2
section
variable {K:PySem.W.Frag} {G:Gf} {A A':Addr→Prop} {δ:List Sl} {P P':List (D×V)} {σ:L2.St} {H H':Hp}
theorem Sx.addA {p:Addr} (s:Sx K G A δ P σ H) (hn:H p=none) (hs:bh H H') (hp:H' p≠none):Sx K G (fun b=>A b∨b=p) δ P σ H':=by
 have x:=s.same hs
 have hM:∀ b,(G.M0 b∨(A b∨b=p))→(G.M0 b∨A b)∨H b=none:=fun b h=>by
  rcases h with h | h | h
  ·exact .inl (.inl h)
  ·exact .inl (.inr h)
  ·subst h;exact .inr hn
 have up:∀ d v,yF K (fun b=>G.M0 b∨A b) H d v→yF K (fun b=>G.M0 b∨(A b∨b=p)) H' d v:=fun d v r=>yF.kp (Kp.of_same hs) _ _ (yF.more hM _ _ r)
 have h0:G.H0 p=none:=by
  cases q:G.H0 p with
  | none=>rfl
  | some o=>exact absurd hn (s.stay p (by rw [q];exact fun z=>nomatch z))
 refine⟨x.old,x.stay,x.m0,x.pm,fun b h=>h.elim (s.new b) fun e=>.inl (by rw [e];exact h0),fun b h=>h.elim (x.thr b) fun e=>by rw [e];exact hp,s.len,fun j d' e=>?_,fun j b d' e=>?_,s.inj,fun q hq=>up _ _ (s.pnd q hq)⟩
 ·obtain ⟨v,q,r⟩:=s.dat j d' e
  exact⟨v,q,up _ _ r⟩
 ·obtain ⟨q,r,o⟩:=s.own j b d' e
  refine⟨q,.inl r,aR.kp (Kp.of_same hs) ?_ (aR.more hM o)⟩
  cases z:H b with
  | none=>exact absurd z (s.thr b r)
  | some o'=>exact hs b o' z
theorem Sx.subA (s:Sx K G A δ P σ H) (hA:∀ b,A' b→A b) (ho:∀ (i:Nat) a d,δ[i]?=some (.own a d)→A' a):Sx K G A' δ P σ H:=by
 have hM:∀ b,(G.M0 b∨A' b)→(G.M0 b∨A b)∨H b=none:=fun b h=>.inl (h.elim .inl fun z=>.inr (hA b z))
 exact⟨s.old,s.stay,s.m0,s.pm,fun b h=>s.new b (hA b h),fun b h=>s.thr b (hA b h),s.len,fun i d e=>let ⟨v,q,r⟩:=s.dat i d e;⟨v,q,yF.more hM _ _ r⟩,fun i a d e=>let ⟨q,_,o⟩:=s.own i a d e;⟨q,ho i a d e,aR.more hM o⟩,s.inj,
  fun p hp=>yF.more hM _ _ (s.pnd p hp)⟩
theorem Sx.poke {p:Addr} {vs ws:List V} (s:Sx K G A δ P σ H) (hp:A p) (hv:H p=some (.lst vs)) (hno:∀ (i:Nat) d,δ[i]?≠some (.own p d)):Sx K G A δ P σ (yV H p (.lst ws)):=by
 have hk:∀ b o,b≠p→H b=some o→yV H p (.lst ws) b=some o:=fun b o n e=>by rw [ar n];exact e
 have kp:Kp (fun b=>G.M0 b∨A b) H (yV H p (.lst ws)):=⟨fun b o e n=>hk b o (fun z=>n (.inr (by rw [z];exact hp))) e,fun b xs e=>hk b _ (fun z=>by rw [z,hv] at e;cases e) e,fun b o u e=>hk b _ (fun z=>by rw [z,hv] at e;cases e) e⟩
 have stay:∀ b,H b≠none→yV H p (.lst ws) b≠none:=fun b e=>by
  by_cases z:b=p
  ·rw [z,al];exact fun z=>nomatch z
  ·rw [ar z];exact e
 have na:∀ b o,G.H0 b=some o→¬ G.Pm b→b≠p:=fun b o e n z=>(s.new p hp).elim (fun q=>by rw [z] at e;rw [e] at q;cases q) fun q=>n (by rw [z];exact q)
 refine⟨fun b o e n=>hk b o (na b o e n) (s.old b o e n),fun b e=>stay b (s.stay b e),s.m0,s.pm,s.new,fun b e=>stay b (s.thr b e),s.len,fun i d e=>let ⟨v,q,r⟩:=s.dat i d e;⟨v,q,yF.kp kp _ _ r⟩,fun i a d e=>?_,s.inj,fun q hq=>yF.kp kp _ _ (s.pnd q hq)⟩
 obtain ⟨q,r,o⟩:=s.own i a d e
 have ne:a≠p:=fun z=>by subst z;exact hno i d e
 exact⟨q,r,aR.kp kp (by rw [ar ne]) o⟩
end
def lR:Option Sl→Sl
 | some (.dat d)=>.dat d
 | _=>.no
def fA (caps:List (Nat×Str)) (δ:En):En:=caps.map fun p=>lR δ[p.1]?
def oS:Option D→Sl
 | none=>.no
 | some d=>.dat d
def qh:Nat→(List Sl→Prop)→Prop
 | 0,p=>p []
 | n + 1,p=>∀ t:Option D,qh n fun ts=>p (oS t :: ts)
def okT:Nat→En→En→Prop
 | 0,δ,c=>δ=c
 | n + 1,.dat _ :: r,c=>okT n r c
 | _ + 1,_,_=>False
abbrev TDC:=En→(List D→En→Prop)→Prop
def wD (src:TDC) (nt:Nat) (caps:List (Nat×Str)) (g:TDG) (tc:TDT) (te:yM) (δ:En) (R:W→En→Prop):Prop:=src δ fun xs δ1=>xs.length≤9000∧∃ f:D→Option D,
 (∀ x∈xs,qh nt fun ts=>g x (ts++fA caps δ1) fun δ2=>tc δ2 fun b δ3=>if b=true then te δ3 (wd fun y δ4=>okT nt δ4 (fA caps δ1)∧f x=some y) else okT nt δ3 (fA caps δ1)∧f x=none)∧R (.d (.lst (xs.filterMap f))) δ1
theorem jR:∀ {n:Nat} {p:List Sl→Prop},qh n p→∀ ts:List (Option D),ts.length=n→p (ts.map oS)
 | 0,p,h,ts,e=>by rw [List.length_eq_zero_iff.mp e];exact h
 | n + 1,p,h,[],e=>by cases e
 | n + 1,p,h,t :: ts,e=>jR (h t) ts (Nat.succ.inj e)
theorem jn:∀ {n:Nat} {δ c:En},okT n δ c→∃ ts:List (Option D),ts.length=n∧δ=ts.map oS++c
 | 0,δ,c,h=>⟨[],rfl,h⟩
 | n + 1,[],c,h=>h.elim
 | n + 1,.dat d :: r,c,h=>by
  obtain ⟨ts,e,q⟩:=jn (n:=n) (δ:=r) h
  exact⟨some d :: ts,by rw [List.length_cons,e],by rw [q];rfl⟩
 | n + 1,.no :: r,c,h=>h.elim
 | n + 1,.own _ _ :: r,c,h=>h.elim
section
variable {K:PySem.W.Frag} {G:Gf} {δ:List Sl} {P:List (D×V)} {σ:L2.St}
theorem ol {caps:List (Nat×Str)} {i:Nat} {d:D} (e:(fA caps δ)[i]?=some (.dat d)):∃ p,caps[i]?=some p∧δ[p.1]?=some (.dat d):=by
 unfold fA at e
 rw [List.getElem?_map] at e
 cases hc:caps[i]? with
 | none=>rw [hc] at e;cases e
 | some p =>
  rw [hc] at e
  refine⟨p,rfl,?_⟩
  have e:=Option.some.inj e
  cases q:δ[p.1]? with
  | none=>simp [q,lR] at e
  | some z =>
   cases z with
   | dat d'=>simp only [q,lR] at e;cases e;rfl
   | no=>simp [q,lR] at e
   | own _ _=>simp [q,lR] at e
theorem gD {caps:List (Nat×Str)} {i:Nat} {a:Addr} {d:D} (e:(fA caps δ)[i]?=some (.own a d)):False:=by
 unfold fA at e
 rw [List.getElem?_map] at e
 cases hc:caps[i]? with
 | none=>rw [hc] at e;cases e
 | some p =>
  rw [hc] at e
  have e:=Option.some.inj e
  cases q:δ[p.1]? with
  | none=>simp [q,lR] at e
  | some z=>cases z<;>simp [q,lR] at e
theorem xC {A:Addr→Prop} {nt:Nat} {caps:List (Nat×Str)} {H:Hp} (s:Sx K G A δ P σ H):Sx K ⟨fun b=>G.M0 b∨A b,H,fun _=>False⟩ (fun _=>False) ((List.replicate nt none).map oS++fA caps δ) [] (nu nt caps σ) H:=by
 have hM:∀ b,((G.M0 b∨A b)∨False)→(G.M0 b∨A b)∨H b=none:=fun b h=>h.elim .inl fun z=>z.elim
 have hr:(List.replicate nt none).map oS=List.replicate nt Sl.no:=by rw [List.map_replicate];rfl
 rw [hr]
 refine⟨fun b o e _=>e,fun b e=>e,s.mem,fun b h=>h.elim,fun b h=>h.elim,fun b h=>h.elim,?_,fun i d e=>?_,fun i a d e=>?_,fun i j a d e h1 _=>?_,fun p hp=>(nomatch hp)⟩
 ·unfold fA nu
  rw [List.length_append,List.length_append,List.length_replicate,List.length_replicate,List.length_map,List.length_map]
 ·by_cases hi:i < nt
  ·rw [List.getElem?_append_left (by rw [List.length_replicate];exact hi),List.getElem?_replicate,if_pos hi] at e
   cases e
  ·rw [List.getElem?_append_right (by rw [List.length_replicate];omega),List.length_replicate] at e
   obtain ⟨p,hp,hd⟩:=ol e
   obtain ⟨v,q,r⟩:=s.dat _ _ hd
   refine⟨v,?_,yF.more hM _ _ r⟩
   unfold nu
   rw [List.getElem?_append_right (by rw [List.length_replicate];omega),List.length_replicate,List.getElem?_map,hp]
   show some ((σ[p.1]?).join)=_
   rw [q]
   rfl
 all_goals
  exfalso
 ·by_cases hi:i < nt
  ·rw [List.getElem?_append_left (by rw [List.length_replicate];exact hi),List.getElem?_replicate,if_pos hi] at e
   cases e
  ·rw [List.getElem?_append_right (by rw [List.length_replicate];omega)] at e
   exact gD e
 ·by_cases hi:i < nt
  ·rw [List.getElem?_append_left (by rw [List.length_replicate];exact hi),List.getElem?_replicate,if_pos hi] at h1
   cases h1
  ·rw [List.getElem?_append_right (by rw [List.length_replicate];omega)] at h1
   exact gD h1
theorem qu {ts:List (Option D)} {caps:List (Nat×Str)} {i:Nat} {a:Addr} {d:D} (e:(ts.map oS++fA caps δ)[i]?=some (.own a d)):False:=by
 by_cases hi:i < ts.length
 ·rw [List.getElem?_append_left (by rw [List.length_map];exact hi),List.getElem?_map] at e
  cases hc:ts[i]? with
  | none=>rw [hc] at e;cases e
  | some o =>
   rw [hc] at e
   cases o<;>cases e
 ·rw [List.getElem?_append_right (by rw [List.length_map];omega)] at e
  exact gD e
theorem re_S {M:Addr→Prop} {A2:Addr→Prop} {ts:List (Option D)} {caps:List (Nat×Str)} {H H5 H6:Hp} {P2:List (D×V)} {σ2:L2.St} (s:Sx K ⟨M,H,fun _=>False⟩ A2 (ts.map oS++fA caps δ) P2 σ2 H5) (k:Kp M H5 H6) (hm:∀ b,M b→H6 b≠none) :
  Sx K ⟨M,H6,fun _=>False⟩ (fun _=>False) (ts.map oS++fA caps δ) [] σ2 H6:=by
 have hM:∀ b,(M b∨False)→(M b∨A2 b)∨H5 b=none:=fun b h=>.inl (h.elim .inl fun z=>z.elim)
 have k':Kp (fun b=>M b∨False) H5 H6:=⟨fun b o e n=>k.un b o e fun z=>n (.inl z),k.tu,k.fr⟩
 exact⟨fun b o e _=>e,fun b e=>e,hm,fun b h=>h.elim,fun b h=>h.elim,fun b h=>h.elim,s.len,fun i d e=>let ⟨v,q,r⟩:=s.dat i d e;⟨v,q,yF.kp k' _ _ (yF.more hM _ _ r)⟩,fun i a d e=>(qu e).elim,
  fun i j a d e h1 _=>(qu h1).elim,fun p hp=>(nomatch hp)⟩
theorem fk {xs:List D} {f:D→Option D} {i:Nat} {x:D} (h:xs[i]?=some x):(xs.take (i + 1)).filterMap f=(xs.take i).filterMap f++(match f x with | some y=>[y] | none=>[]):=by
 rw [List.take_add_one,h,List.filterMap_append]
 cases e:f x<;>simp [e]
theorem kq {J:It} {xs:List D} {f:D→Option D} {nt:Nat} {caps:List (Nat×Str)} {g:TDG} {tc:TDT} {te:yM} {H1:Hp} {Q:VK} (s:S K G δ P σ H1) (hz:xs.length≤9000)
  (hgo:∀ A i H,Sx K G A δ P σ H→i < xs.length→J.go i H) (hst:∀ A H,Sx K G A δ P σ H→J.stop xs.length H)
  (hyl:∀ A i x H H2,Sx K G A δ P σ H→i < xs.length→J.yld i H x H2→bh H H2∧∃ d,xs[i]?=some d∧yF K (fun b=>G.M0 b∨A b) H2 d x)
  (hf:∀ x∈xs,qh nt fun ts=>g x (ts++fA caps δ) fun δ2=>tc δ2 fun b δ3=>if b=true then te δ3 (wd fun y δ4=>okT nt δ4 (fA caps δ)∧f x=some y) else okT nt δ3 (fA caps δ)∧f x=none)
  (p:Addr) (hp:H1 p=none) (k:∀ (A:Addr→Prop) acc H',¬ (G.M0 p∨A p)→(∀ (i:Nat) a d,δ[i]?=some (.own a d)→A a)→Sx K G (fun b=>A b∨b=p) δ P σ H'→H' p=some (.lst acc)→Reps K (fun b=>G.M0 b∨(A b∨b=p)) H' (xs.filterMap f) acc→Q (.ref p) H') :
  ∃ W:Nat→Nat→List V→L2.St→Hp→Prop,(∃ m,W 0 m [] (nu nt caps σ) (yV H1 p (.lst [])))∧∀ i m acc σ' H',W i m acc σ' H'→(J.stop i H'∧Q (.ref p) H')∨(J.go i H'∧∀ x H2,J.yld i H' x H2 →
   upG K g x σ' H2 fun σ2 H3=>upT K tc σ2 H3 fun b H4=>if b=true then up K te σ2 H4 fun y H5=>H5 p=some (.lst acc)∧acc.length < sizeLine∧∃ m',m' < m∧W (i + 1) m' (acc++[y]) σ2 (yV H5 p (.lst (acc++[y]))) else ∃ m',m' < m∧W (i + 1) m' acc σ2 H4):=by
 obtain ⟨A0,x0⟩:=s
 have hA0:¬ (G.M0 p∨A0 p):=fun z=>x0.mem p z hp
 have hno:∀ (i:Nat) d,δ[i]?≠some (.own p d):=fun i d e=>hA0 (.inr (x0.own i p d e).2.1)
 have x1:=x0.addA hp (ap hp (.lst [])) (by rw [al];exact fun z=>nomatch z)
 refine⟨fun i m acc σ' H'=>i≤xs.length∧m=xs.length - i∧acc.length≤i∧H' p=some (.lst acc)∧Sx K G (fun b=>A0 b∨b=p) δ P σ H'∧Reps K (fun b=>G.M0 b∨(A0 b∨b=p)) H' ((xs.take i).filterMap f) acc ∧
  ∃ ts:List (Option D),ts.length=nt∧Sx K ⟨fun b=>G.M0 b∨(A0 b∨b=p),H',fun _=>False⟩ (fun _=>False) (ts.map oS++fA caps δ) [] σ' H',⟨xs.length,Nat.zero_le _,rfl,Nat.le_refl _,al,x1,by rw [List.take_zero];exact Reps.nil,List.replicate nt none,List.length_replicate,xC x1⟩,?_⟩
 rintro i m acc σ' H' ⟨hi,rfl,hal,hac,x,rs,ts,hts,sx⟩
 by_cases hlt:i < xs.length
 ·refine .inr ⟨hgo _ i H' x hlt,fun v H2 hy=>?_⟩
  obtain ⟨sm0,d,hd,rd⟩:=hyl _ i v H' H2 x hlt hy
  replace sx:=re_S sx (Kp.of_same sm0) (x.same sm0).mem
  replace x:=x.same sm0
  replace hac:=sm0 _ _ hac
  replace rs:=Reps.kp (Kp.of_same sm0) _ _ rs
  clear sm0 hy
  have hmem:d∈xs:=List.mem_of_getElem? hd
  refine⟨_,ts.map oS++fA caps δ,[],d,_,⟨_,sx.push (yF.more (fun b z=>.inl (z.elim id fun q=>q.elim)) _ _ rd)⟩,jR (hf d hmem) ts hts,fun δ2 h2 σ2 H3 s2=>?_⟩
  refine⟨_,_,[],_,s2,h2,fun b δ3 h3 H4 s3=>?_⟩
  have fmS:=fk (f:=f) hd
  have hM1:∀ b,(G.M0 b∨(A0 b∨b=p))→H2 b≠none:=x.mem
  cases b with
  | false =>
   obtain ⟨ok3,hn⟩:=h3
   rw [hn,List.append_nil] at fmS
   obtain ⟨ts3,hts3,e3⟩:=jn ok3
   subst e3
   obtain ⟨A3,y3⟩:=s3
   have sm:bh H2 H4:=fun b o e=>y3.old b o e id
   have x4:=x.same sm
   exact⟨xs.length - (i + 1),by omega,hlt,rfl,by omega,sm _ _ hac,x4,by rw [fmS];exact Reps.kp (Kp.of_same sm) _ _ rs,ts3,hts3,re_S y3 Kp.refl x4.mem⟩
  | true =>
   refine up.mk (P:=[]) s3 h3 fun y δ4 h4 yv H5 s4=>?_
   obtain ⟨ok4,hy⟩:=h4
   rw [hy] at fmS
   obtain ⟨ts4,hts4,e4⟩:=jn ok4
   subst e4
   obtain ⟨A4,y4⟩:=s4
   have sm:bh H2 H5:=fun b o e=>y4.old b o e id
   have x5:=x.same sm
   have hac5:=sm _ _ hac
   have ry:yF K (fun b=>G.M0 b∨(A0 b∨b=p)) H5 y yv:=yF.more (fun b z=>.inl (.inl z)) _ _ (y4.pnd (y,yv) (by simp))
   have x6:=x5.poke (p:=p) (ws:=acc++[yv]) (.inr rfl) hac5 hno
   have kp:Kp (fun b=>G.M0 b∨(A0 b∨b=p)) H5 (yV H5 p (.lst (acc++[yv]))):=by
    have hk:∀ b o,b≠p→H5 b=some o→yV H5 p (.lst (acc++[yv])) b=some o:=fun b o n e=>by rw [ar n];exact e
    exact⟨fun b o e n=>hk b o (fun z=>n (.inr (.inr z))) e,fun b xs e=>hk b _ (fun z=>by rw [z,hac5] at e;cases e) e,fun b o u e=>hk b _ (fun z=>by rw [z,hac5] at e;cases e) e⟩
   refine⟨hac5,Nat.lt_of_le_of_lt (Nat.le_trans hal hi) (f7 hz),xs.length - (i + 1),by omega,hlt,rfl,by rw [List.length_append,List.length_singleton];omega,al,x6,?_,ts4,hts4,re_S y4 kp x6.mem⟩
   rw [fmS]
   exact Reps.kp kp _ _ (Reps.append _ _ _ _ (Reps.kp (Kp.of_same sm) _ _ rs) (Reps.one ry))
 ·have e:i=xs.length:=by omega
  subst e
  rw [List.take_length] at rs
  exact .inl ⟨hst _ H' x,k A0 acc H' hA0 (fun i a d e=>(x0.own i a d e).2.1) x hac rs⟩
theorem mO {J:It} {xs:List D} {f:D→Option D} {nt:Nat} {caps:List (Nat×Str)} {g:TDG} {tc:TDT} {te:yM} {H1:Hp} {Q:VK} (s:S K G δ P σ H1) (hz:xs.length≤9000)
  (hgo:∀ A i H,Sx K G A δ P σ H→i < xs.length→J.go i H) (hst:∀ A H,Sx K G A δ P σ H→J.stop xs.length H)
  (hyl:∀ A i x H H2,Sx K G A δ P σ H→i < xs.length→J.yld i H x H2→bh H H2∧∃ d,xs[i]?=some d∧yF K (fun b=>G.M0 b∨A b) H2 d x)
  (hf:∀ x∈xs,qh nt fun ts=>g x (ts++fA caps δ) fun δ2=>tc δ2 fun b δ3=>if b=true then te δ3 (wd fun y δ4=>okT nt δ4 (fA caps δ)∧f x=some y) else okT nt δ3 (fA caps δ)∧f x=none)
  (k:∀ v H',S K G δ ((.lst (xs.filterMap f),v) :: P) σ H'→Q v H') (p:Addr) (hp:H1 p=none) :
  ∃ W:Nat→Nat→List V→L2.St→Hp→Prop,(∃ m,W 0 m [] (nu nt caps σ) (yV H1 p (.lst [])))∧∀ i m acc σ' H',W i m acc σ' H'→(J.stop i H'∧Q (.ref p) H')∨(J.go i H'∧∀ x H2,J.yld i H' x H2 →
   upG K g x σ' H2 fun σ2 H3=>upT K tc σ2 H3 fun b H4=>if b=true then up K te σ2 H4 fun y H5=>H5 p=some (.lst acc)∧acc.length < sizeLine∧∃ m',m' < m∧W (i + 1) m' (acc++[y]) σ2 (yV H5 p (.lst (acc++[y]))) else ∃ m',m' < m∧W (i + 1) m' acc σ2 H4) :=
 kq s hz hgo hst hyl hf p hp fun A acc H' hA ho x hac rs=>k (.ref p) H' ⟨A,(x.subA (fun b z=>.inl z) ho).push (by
  unfold yF
  exact⟨p,acc,rfl,hA,hac,Reps.more (fun b z=>.inl (z.elim .inl fun q=>.inr (.inl q))) _ _ rs⟩)⟩
end
def vI (t:yM) (δ:En) (R:List D→En→Prop):Prop:=t δ (wd fun d δ1=>qL d fun xs=>R xs δ1)
def wJ (t:yM) (δ:En) (R:List D→En→Prop):Prop:=t δ (wd fun d δ1=>qT d fun xs=>R xs δ1)
def vy (t:yS) (δ:En) (R:List D→En→Prop):Prop:=t δ fun ds δ1=>qC ds fun x r=>qN r <| qI x fun j=>-(2 ^ 62)≤j∧j < 2 ^ 62∧R ((List.range j.toNat).map fun (i:Nat)=>D.int (i:Int)) δ1
def CI (X:Cx) (tg it:Expr) (src:TDC):Prop:=∃ wi,PI X tg it wi∧∀ (G:Gf) (δ:En) (P:List (D×V)) (σ:L2.St) (H:Hp) (R:List D→En→Prop) (Q:It→Hp→Prop),S X.K G δ P σ H→src δ R →
  (∀ xs δ1,R xs δ1→∀ (J:It) (P1:List (D×V)) (H1:Hp),(∀ q∈P,q∈P1)→S X.K G δ1 P1 σ H1→(∀ A δ σ i H,Sx X.K G A δ P1 σ H→i < xs.length→J.go i H)→(∀ A δ σ H,Sx X.K G A δ P1 σ H→J.stop xs.length H) →
    (∀ A δ σ i x H H2,Sx X.K G A δ P1 σ H→i < xs.length→J.yld i H x H2→bh H H2∧∃ d,xs[i]?=some d∧yF X.K (fun b=>G.M0 b∨A b) H2 d x)→Q J H1)→wi σ H Q
section
variable {X:Cx} {tg e:Expr} {te:yM} {ta:yS}
theorem vc (h:DE X e te):CI X tg e (vI te):=⟨_,kQ h,fun G δ P σ H R Q s hs k=>up.mk s hs fun d δ1 h1 v H1 s1=>by
 replace h1:=qL.ex h1
 obtain ⟨xs,e,r⟩:=h1
 subst e
 have hat:∀ A δ σ H,Sx X.K G A δ ((.lst xs,v) :: P) σ H→∃ a vs,v=.ref a∧H a=some (.lst vs)∧Reps X.K (fun b=>G.M0 b∨A b) H xs vs:=fun A δ σ H x=>by
  have q:=x.pnd (.lst xs,v) (by simp)
  unfold yF at q
  obtain ⟨a,vs,e,_,l,r⟩:=q
  exact⟨a,vs,e,l,r⟩
 obtain ⟨A1,x1⟩:=id s1
 obtain ⟨a,vs0,rfl,l0,_⟩:=hat _ _ _ _ x1
 refine⟨a,rfl,⟨vs0,yI.of l0⟩,k xs δ1 r _ _ H1 (fun q hq=>by simp [hq]) s1 (fun A δ σ i H x hi=>?_) (fun A δ σ H x=>?_) fun A δ σ i y H H2 x hi hy=>?_⟩
 ·obtain ⟨b,vs,e,l,r⟩:=hat _ _ _ _ x
  cases e
  obtain ⟨w',hw,_⟩:=Reps.get _ _ r i xs[i] (by simp [hi])
  exact⟨vs,w',yI.of l,hw⟩
 ·obtain ⟨b,vs,e,l,r⟩:=hat _ _ _ _ x
  cases e
  exact⟨vs,yI.of l,by rw [Reps.length _ _ r];exact Nat.le_refl _⟩
 ·obtain ⟨b,vs,e,l,r⟩:=hat _ _ _ _ x
  cases e
  obtain ⟨e,hy⟩:=hy
  obtain ⟨w',hw,rw'⟩:=Reps.get _ _ r i xs[i] (by simp [hi])
  have z:=hy vs (yI.of l)
  rw [hw] at z
  cases z
  subst e
  exact⟨bh.refl _,xs[i],by simp [hi],rw'⟩⟩
theorem pz (h:DE X e te):CI X tg e (wJ te):=⟨_,qi h,fun G δ P σ H R Q s hs k=>up.mk s hs fun d δ1 h1 v H1 s1=>by
 replace h1:=qT.ex h1
 obtain ⟨xs,e,r⟩:=h1
 subst e
 have hat:∀ A δ σ H,Sx X.K G A δ ((.tup xs,v) :: P) σ H→∃ a vs,v=.ref a∧yR X.K H a vs∧Reps X.K (fun b=>G.M0 b∨A b) H xs vs:=fun A δ σ H x=>by
  have q:=x.pnd (.tup xs,v) (by simp)
  unfold yF at q
  exact q
 obtain ⟨A1,x1⟩:=id s1
 obtain ⟨a,vs0,rfl,l0,_⟩:=hat _ _ _ _ x1
 refine⟨a,rfl,⟨vs0,l0⟩,k xs δ1 r _ _ H1 (fun q hq=>by simp [hq]) s1 (fun A δ σ i H x hi=>?_) (fun A δ σ H x=>?_) fun A δ σ i y H H2 x hi hy=>?_⟩
 ·obtain ⟨b,vs,e,l,r⟩:=hat _ _ _ _ x
  cases e
  obtain ⟨w',hw,_⟩:=Reps.get _ _ r i xs[i] (by simp [hi])
  exact⟨vs,w',l,hw⟩
 ·obtain ⟨b,vs,e,l,r⟩:=hat _ _ _ _ x
  cases e
  exact⟨vs,l,by rw [Reps.length _ _ r];exact Nat.le_refl _⟩
 ·obtain ⟨b,vs,e,l,r⟩:=hat _ _ _ _ x
  cases e
  obtain ⟨e,hy⟩:=hy
  obtain ⟨w',hw,rw'⟩:=Reps.get _ _ r i xs[i] (by simp [hi])
  have z:=hy vs l
  rw [hw] at z
  cases z
  subst e
  exact⟨bh.refl _,xs[i],by simp [hi],rw'⟩⟩
theorem pe {a:Expr} {p pos:Pos} (hg:Gl X "range") (hm:X.mg "range"=none) (ha:DA X [a] ta) (hs:starEach [a] X.env=[(false,eval a X.env)]:=by rfl):CI X tg (.Call (.Name "range" p) [a] [] pos) (vy ta) :=
 ⟨_,gX hg hm ha hs,fun G δ P σ H R Q s hs k=>⟨G,δ,P,_,s,hs,fun ds δ1 h1 vs H1 hl s1=>by
  replace h1:=qC.ex h1
  obtain ⟨x,r,e,h1⟩:=h1
  replace h1:=qN.ex h1
  obtain ⟨e',h1⟩:=h1
  replace h1:=qI.ex h1
  obtain ⟨j,e2,h1,h2,r⟩:=h1
  subst e2 e' e
  match vs,hl with
  | [v],_ =>
   have q:v=.int j:=by
    obtain ⟨A,x⟩:=s1
    exact aJ (x.pnd (.int j,v) (by simp))
   subst q
   refine⟨j,rfl,h1,h2,k _ δ1 r _ P H1 (fun q hq=>hq) (s1.sub fun p hp=>by simp [hp]) (fun A δ σ i H x hi=>?_) (fun A δ σ H x=>?_) fun A δ σ i y H H2 x hi hy=>?_⟩
   ·rw [List.length_map,List.length_range] at hi
    exact hi
   ·rw [List.length_map,List.length_range]
    exact Nat.le_refl _
   ·rw [List.length_map,List.length_range] at hi
    obtain ⟨e,hy⟩:=hy
    subst e
    refine⟨bh.refl _,.int i,by rw [List.getElem?_map,List.getElem?_range hi];rfl,?_⟩
    unfold yF
    rw [hy,Int.zero_add]⟩⟩
def DF (X:Cx) (ifs:List Expr) (t:TDT):Prop:=PF X ifs (upT X.K t)
theorem k7:DF X [] (fun δ R=>R true δ):=fun pins s σ H Q I ⟨G,δ,P,R,s',h,k⟩=>uE pins s σ H Q I (k true δ h H s')
theorem qe {c:Expr} {t:TDT} (h:DT X c t):DF X [c] t:=wK h
theorem eG {elt tgt iter:Expr} {ifs:List Expr} {scope:Scope} {pos:Pos} {src:TDC} {cl:List (Str×Addr)} (tn:List Str) (caps:List (Nat×Str)) {g:TDG} {tc:TDT}
  (hcalm:X.calm=true) (hclos:closureFor scope X.env=pure cl) (hcell:∀ p∈caps,(p.2,NameKind.cell)∉scope.names) (hkind:scope.kind=.function) (hnames:∀ y∈scope.names,y.2=.local→scope.names.lookup y.1=some .local)
  (hcl:∀ x c,cl.lookup x=some c→X.env.cells.lookup x=some c) (hhas:∀ (n:Nat) x,((relabel scope X.env).names.lookup x=some .cell∨(relabel scope X.env).names.lookup x=some .free)→∃ c,(cellsFrom n scope.names []++cl).lookup x=some c)
  (hcap:∀ p∈caps,X.N[p.1]?=some p.2∧X.env.scope.names.lookup p.2=some .cell∧((relabel scope X.env).names.lookup p.2=some .cell∨(relabel scope X.env).names.lookup p.2=some .free))
  (hi:CI X.nox tgt iter src)
  (hb:∀ s2 H2 C fp pn,DG (fg X (tn++caps.map (·.2)) scope cl s2 H2 C fp pn) tgt g∧DF (fg X (tn++caps.map (·.2)) scope cl s2 H2 C fp pn) ifs tc∧DE (fg X (tn++caps.map (·.2)) scope cl s2 H2 C fp pn) elt te)
  (hs:∀ x,foldedSetIterable iter X.env x=pure x:=by intro _;rfl):DE X.nox (.ListComp elt [⟨tgt,iter,ifs,0⟩] scope pos) (wD src tn.length caps g tc te):=by
 obtain ⟨wi,hi,hw⟩:=hi
 refine PE.imp (qz (g:=upG X.K g) (tc:=upT X.K tc) (te:=up X.K te) tn caps hcalm hclos hcell hkind hnames hcl hhas hcap hi hb hs) fun σ H Q ⟨G,δ,P,R,s,h,k,_⟩=>?_
 refine hw G δ P σ H _ _ s h fun xs δ1 ⟨hz,f,hf,r⟩ J P1 H1 hP s1 hgo hst hyl p hp=>?_
 exact mO s1 hz (fun A i H x hi=>hgo A _ _ i H x hi) (fun A H x=>hst A _ _ H x) (fun A i x H H2 s hi hy=>hyl A _ _ i x H H2 s hi hy) hf (fun v H' s'=>k _ δ1 r v H' (s'.sub fun q hq=>by
  rcases List.mem_cons.mp hq with rfl | hq
  ·simp
  ·exact List.mem_cons_of_mem _ (hP q hq))) p hp
end
def wI (cells:List (Str×Addr)):List (Str×Addr)→Prop
 | []=>True
 | y :: r=>cells.lookup y.1=some y.2∧wI cells r
theorem fO {cells:List (Str×Addr)}:∀ {cl:List (Str×Addr)},wI cells cl→∀ x c,cl.lookup x=some c→cells.lookup x=some c
 | [],_,x,c,h=>by cases h
 | y :: r,⟨h1,h2⟩,x,c,h=>by
  rw [List.lookup_cons] at h
  cases e:x == y.1 with
  | true =>
   rw [e] at h
   have e:=eq_of_beq e
   cases h
   rw [e]
   exact h1
  | false =>
   rw [e] at h
   exact fO h2 x c h
theorem g4 {names:List (Str×NameKind)} {cl:List (Str×Addr)} (h:(names.all fun y=>!(y.2 == .cell || y.2 == .free) || (cl.lookup y.1).isSome)=true):∀ x,(names.lookup x=some .cell∨names.lookup x=some .free)→∃ c,cl.lookup x=some c:=fun x hx=>by
 have key:∀ (ns:List (Str×NameKind)) k,ns.lookup x=some k→(x,k)∈ns:=fun ns=>by
  induction ns with
  | nil=>intro k h;cases h
  | cons y r ih =>
   intro k h
   rw [List.lookup_cons] at h
   cases e:x == y.1 with
   | true =>
    rw [e] at h
    have e:=eq_of_beq e
    cases h
    rw [e]
    exact List.mem_cons_self ..
   | false =>
    rw [e] at h
    exact List.mem_cons_of_mem _ (ih k h)
 have go:∀ k,(k=.cell∨k=.free)→names.lookup x=some k→∃ c,cl.lookup x=some c:=fun k hk e=>by
  have m:=key _ _ e
  have q:=List.all_eq_true.mp h _ m
  have hb:((k == NameKind.cell || k == .free))=true:=by rcases hk with rfl | rfl<;>rfl
  simp only [hb,Bool.not_true,Bool.false_or] at q
  exact Option.isSome_iff_exists.mp q
 rcases hx with e | e
 ·exact go _ (.inl rfl) e
 ·exact go _ (.inr rfl) e
def qf (p:Nat×Str→Prop):List (Nat×Str)→Prop
 | []=>True
 | y :: r=>p y∧qf p r
theorem dr {p:Nat×Str→Prop}:∀ {l:List (Nat×Str)},qf p l→∀ y∈l,p y
 | [],_,y,h=>by cases h
 | z :: r,⟨h1,h2⟩,y,h=>by
  rcases List.mem_cons.mp h with rfl | h
  ·exact h1
  ·exact dr h2 y h
end DL
namespace DL
open PySem PySem.Spec PyProof.Rows L2
def spN (K:PySem.W.Frag) (f:List D→(D→Prop)→Prop):Sp:=fun vs H Q _=>∃ (M:Addr→Prop) (ds:List D) (R:D→Prop),(∀ b,M b→H b≠none)∧Reps K M H ds vs∧f ds R ∧
 ∀ d,R d→∀ a H',bh H H'→H a=none→aR K (fun b=>M b∨b=a) H' a d→Q (.ref a) H'
abbrev FO:=D→List D→(D→D→Prop)→Prop
def spO (K:PySem.W.Frag) (f:FO):Sp:=fun vs H Q _=>∃ (M:Addr→Prop) (a:Addr) (d0:D) (vs':List V) (ds:List D) (R:D→D→Prop),vs=.ref a :: vs'∧(∀ b,M b→H b≠none)∧¬ M a∧aR K (fun b=>M b∨b=a) H a d0∧Reps K (fun b=>M b∨b=a) H ds vs'∧f d0 ds R ∧
 ∀ r d1,R r d1→∀ v H',(∀ b o,b≠a→H b=some o→H' b=some o)→aR K (fun b=>M b∨b=a) H' a d1→yF K (fun b=>M b∨b=a) H' r v→Q v H'
def n5 (K:PySem.W.Frag) (f:FO):Sp:=fun vs H Q E=>∃ v0 v1,vs=[v0,v1]∧spO K f [v1,v0] H Q E
theorem rY {K:PySem.W.Frag} {f:List D→(D→Prop)→Prop} {vs:List V} {H:Hp} {Q:VK} {E:XK} (h:yQ K f vs H Q E):spN K f vs H Q E:=by
 obtain ⟨M,ds,R,m,rs,hf,k⟩:=h
 exact⟨M,ds,R,m,rs,hf,fun d r a H' sm fr ow=>k d r (.ref a) H' sm (ow.rep (fun z=>m a z fr) fun b z=>.inl z)⟩
section
variable {P:Program} {w:World} {K:PySem.W.Frag} {mg:Str→Option Value} {base:Heap}
theorem Cal.imp {k:Nat} {x:Str} {ps:List Str} {sp sp':Sp} (C:Cal P w K mg base k x ps sp) (h:∀ vs H Q E,sp' vs H Q E→sp vs H Q E):Cal P w K mg base k x ps sp':=by
 obtain ⟨a,fd,F,b,kp,m⟩:=C.ex
 exact⟨a,fd,F.imp h,b,kp,m⟩
theorem Cal.pure {k:Nat} {x:Str} {ps:List Str} {f:List D→(D→Prop)→Prop} (C:Cal P w K mg base k x ps (spN K f)):Cal P w K mg base k x ps (yQ K f):=C.imp fun _ _ _ _ h=>rY h
theorem jq {x:Str} {st:Stmt} {ps:List Str} {f:List D→(D→Prop)→Prop} (F:Fd K mg x st ps) (k:Nat) (h:∀ ds R,¬ f ds R):Cal P w K mg base k x ps (yQ K f):=by
 obtain ⟨a,fd,Fu,b,m⟩:=F.ex
 have no:∀ vs H Q E,¬ yQ K f vs H Q E:=fun vs H Q E ⟨_,ds,R,_,_,hf,_⟩=>h ds R hf
 exact⟨a,fd,⟨fun vs H Q E h=>absurd h (no vs H Q E),fun A outer s H args us vs Q E _ _ _ _ h=>absurd h (no vs H Q E)⟩,b,Fu.kp,m⟩
theorem mK {x:Str} {st:Stmt} {ps:List Str} {f:FO} (F:Fd K mg x st ps) (k:Nat) (h:∀ d ds R,¬ f d ds R):Cal P w K mg base k x ps (n5 K f):=by
 obtain ⟨a,fd,Fu,b,m⟩:=F.ex
 have no:∀ vs H Q E,¬ n5 K f vs H Q E:=fun vs H Q E ⟨_,_,_,_,_,d0,_,ds,R,_,_,_,_,_,hf,_⟩=>h d0 ds R hf
 exact⟨a,fd,⟨fun vs H Q E h=>absurd h (no vs H Q E),fun A outer s H args us vs Q E _ _ _ _ h=>absurd h (no vs H Q E)⟩,b,Fu.kp,m⟩
theorem fn_N {x:Str} {st:Stmt} {N ps:List Str} {k:Nat} {f:List D→(D→Prop)→Prop} (F:Fd K mg x st ps) (Sc:au N ps (ah st)) (len:∀ ds R,f ds R→ds.length=ps.length)
    (hbody:∀ (a:Addr) (cdv:Value) (A:Around) (outer:List Env) (s:Shared) (H:Hp) (E:XK) (ds:List D) (R:D→Prop),bP k (A.deeper (envOfC x (ah st) s.heap.objs.size a cdv))→f ds R →
      ∃ t,DSs (iB CX0 P w K mg base N x (ah st) a cdv A outer s H E).nox (aI st) t∧t { nx:=fun _=>False,rt:=fun _ _=>False,ro:=R } (bZ N ds)) :
    Cal P w K mg base (k + 1) x ps (spN K f):=by
  obtain ⟨a,fd,Fu,b,m⟩:=F.ex
  refine⟨a,fd,Fu.ok Sc (fun vs H Q E h=>?_) (fun cdv A outer s H vs Q E hr h=>?_),b,Fu.kp,m⟩
  · obtain ⟨M,ds,R,hm,rs,hf,hk⟩:=h
    rw [← Reps.length _ _ rs]
    exact len ds R hf
  · obtain ⟨M,ds,R,hm,rs,hf,hk⟩:=h
    obtain ⟨t,ht,hq⟩:=hbody a cdv A outer s H E ds R hr hf
    refine⟨_,ht,⟨M,H,fun _=>False⟩,bZ N ds,[],_,jm N hm rs,hq,fun _ h=>h.elim,⟨fun _ _ h=>h.elim,fun d r a' H' ⟨o1,o2,o3,o4⟩=>hk d r a' H' (fun b o e=>o1 b o e id) (o2.elim id fun z=>z.elim) o4,fun _ _ _ z=>z.elim⟩,fun _ h=>h.elim,fun _ h=>h.elim,fun z=>z.elim⟩
theorem jK {M:Addr→Prop} {a:Addr} {d0:D} {ds1 ds2:List D} {vs1 vs2:List V} {H:Hp} (N:List Str) (m:∀ b,M b→H b≠none) (na:¬ M a) (ow:aR K (fun b=>M b∨b=a) H a d0) (r1:Reps K (fun b=>M b∨b=a) H ds1 vs1) (r2:Reps K (fun b=>M b∨b=a) H ds2 vs2) :
  S K ⟨M,H,fun b=>b=a⟩ (ds1.map Sl.dat++Sl.own a d0 :: (ds2.map Sl.dat++List.replicate (N.length - (ds1.length + 1 + ds2.length)) Sl.no)) [] (L2.start N (vs1++.ref a :: vs2)) H:=by
 have hl1:=Reps.length _ _ r1
 have hl2:=Reps.length _ _ r2
 have hHa:H a≠none:=by
  cases d0 with
  | lst ds=>obtain ⟨vs,q,_⟩:=ow;rw [q];exact fun z=>nomatch z
  | dct ks ds=>obtain ⟨vs,q,_⟩:=ow;rw [q];exact fun z=>nomatch z
  | _=>exact ow.elim
 have place:∀ (i:Nat) z,(ds1.map Sl.dat++Sl.own a d0 :: (ds2.map Sl.dat++List.replicate (N.length - (ds1.length + 1 + ds2.length)) Sl.no))[i]?=some z →
   (∃ d,ds1[i]?=some d∧z=.dat d)∨(i=ds1.length∧z=.own a d0)∨(∃ d,ds1.length + 1≤i∧ds2[i - (ds1.length + 1)]?=some d∧z=.dat d)∨z=.no:=fun i z e=>by
  by_cases h1:i < ds1.length
  ·rw [List.getElem?_append_left (by rw [List.length_map];exact h1),List.getElem?_map] at e
   cases hd:ds1[i]? with
   | none=>rw [hd] at e;cases e
   | some d=>rw [hd] at e;exact .inl ⟨d,rfl,(Option.some.inj e).symm⟩
  ·rw [List.getElem?_append_right (by rw [List.length_map];omega),List.length_map] at e
   by_cases h2:i=ds1.length
   ·subst h2
    rw [Nat.sub_self,List.getElem?_cons_zero] at e
    exact .inr (.inl ⟨rfl,(Option.some.inj e).symm⟩)
   ·have e3:i - ds1.length=(i - (ds1.length + 1)) + 1:=by omega
    rw [e3,List.getElem?_cons_succ] at e
    by_cases h3:i - (ds1.length + 1) < ds2.length
    ·rw [List.getElem?_append_left (by rw [List.length_map];exact h3),List.getElem?_map] at e
     cases hd:ds2[i - (ds1.length + 1)]? with
     | none=>rw [hd] at e;cases e
     | some d=>rw [hd] at e;exact .inr (.inr (.inl ⟨d,by omega,rfl,(Option.some.inj e).symm⟩))
    ·rw [List.getElem?_append_right (by rw [List.length_map];omega),List.getElem?_replicate] at e
     split at e
     ·exact .inr (.inr (.inr (Option.some.inj e).symm))
     ·cases e
 have st:∀ i,i < (vs1++V.ref a :: vs2).length→(L2.start N (vs1++.ref a :: vs2))[i]?=(vs1++V.ref a :: vs2)[i]?.map some:=fun i hi=>by
  unfold L2.start
  rw [List.getElem?_append_left (by rw [List.length_map];exact hi),List.getElem?_map]
 have hM:∀ b,(M b∨b=a)→(M b∨b=a)∨H b=none:=fun b h=>.inl h
 refine⟨fun b=>b=a,fun b o e _=>e,fun b e=>e,m,fun b h=>⟨by rw [h];exact hHa,by rw [h];exact na⟩,fun b h=>.inr h,fun b h=>by rw [h];exact hHa,?_,fun i d e=>?_,fun i a' d e=>?_,fun i j a' d e h1 h2=>?_,fun p hp=>(nomatch hp)⟩
 ·unfold L2.start
  simp only [List.length_append,List.length_map,List.length_cons,List.length_replicate]
  omega
 ·rcases place i _ e with ⟨d',hd,z⟩ | ⟨_,z⟩ | ⟨d',hi,hd,z⟩ | z
  ·cases z
   obtain ⟨v,ev,rv⟩:=Reps.get _ _ r1 i d hd
   have hi:i < vs1.length:=(List.getElem?_eq_some_iff.mp ev).1
   exact⟨v,by rw [st i (by rw [List.length_append];omega),List.getElem?_append_left hi,ev];rfl,rv⟩
  ·cases z
  ·cases z
   obtain ⟨v,ev,rv⟩:=Reps.get _ _ r2 _ d hd
   have hi2:i - (ds1.length + 1) < vs2.length:=(List.getElem?_eq_some_iff.mp ev).1
   refine⟨v,?_,rv⟩
   rw [st i (by rw [List.length_append,List.length_cons];omega),List.getElem?_append_right (by omega),← hl1]
   have e3:i - ds1.length=(i - (ds1.length + 1)) + 1:=by omega
   rw [e3,List.getElem?_cons_succ,ev]
   rfl
  ·cases z
 ·rcases place i _ e with ⟨d',hd,z⟩ | ⟨hi,z⟩ | ⟨d',hi,hd,z⟩ | z
  ·cases z
  ·cases z
   subst hi
   refine⟨?_,rfl,ow⟩
   rw [st _ (by rw [List.length_append,List.length_cons];omega),List.getElem?_append_right (by omega),hl1,Nat.sub_self]
   rfl
  ·cases z
  ·cases z
 ·have u:∀ i a' d,(ds1.map Sl.dat++Sl.own a d0 :: (ds2.map Sl.dat++List.replicate (N.length - (ds1.length + 1 + ds2.length)) Sl.no))[i]?=some (.own a' d)→i=ds1.length:=fun i a' d e=>by
   rcases place i _ e with ⟨d',hd,z⟩ | ⟨hi,z⟩ | ⟨d',hi,hd,z⟩ | z
   ·cases z
   ·exact hi
   ·cases z
   ·cases z
  rw [u i _ _ h1,u j _ _ h2]
theorem eD {M A':Addr→Prop} {a:Addr} {d:D} {H':Hp} (ha:A' a) (o:aR K (fun b=>M b∨A' b) H' a d):aR K (fun b=>M b∨b=a) H' a d:=aR.more (fun b z=>.inl (z.elim .inl fun e=>.inr (by rw [e];exact ha))) o
theorem fn_O {x:Str} {st:Stmt} {N ps:List Str} {k:Nat} {f:FO} (F:Fd K mg x st ps) (Sc:au N ps (ah st)) (len:∀ d ds R,f d ds R→ds.length + 1=ps.length)
    (hbody:∀ (fa:Addr) (cdv:Value) (A:Around) (outer:List Env) (s:Shared) (H:Hp) (E:XK) (a:Addr) (d0:D) (ds:List D) (R:D→D→Prop),bP k (A.deeper (envOfC x (ah st) s.heap.objs.size fa cdv))→f d0 ds R →
      ∃ t,DSs (iB CX0 P w K mg base N x (ah st) fa cdv A outer s H E).nox (aI st) t ∧
        t { nx:=fun δ=>∃ d1,δ[0]?=some (.own a d1)∧R .non d1,rt:=fun d δ=>∃ d1,δ[0]?=some (.own a d1)∧R d d1 } (Sl.own a d0 :: (ds.map Sl.dat++List.replicate (N.length - (1 + ds.length)) Sl.no))) :
    Cal P w K mg base (k + 1) x ps (spO K f):=by
  obtain ⟨fa,fd,Fu,b,mm⟩:=F.ex
  refine⟨fa,fd,Fu.ok Sc (fun vs H Q E h=>?_) (fun cdv A outer s H vs Q E hr h=>?_),b,Fu.kp,mm⟩
  · obtain ⟨M,a,d0,vs',ds,R,rfl,m,na,ow,rs,hf,hk⟩:=h
    rw [List.length_cons,← Reps.length _ _ rs]
    exact len _ _ _ hf
  · obtain ⟨M,a,d0,vs',ds,R,rfl,m,na,ow,rs,hf,hk⟩:=h
    obtain ⟨t,ht,hq⟩:=hbody fa cdv A outer s H E a d0 ds R hr hf
    have ss:=jK (ds1:=[]) (vs1:=[]) N m na ow Reps.nil rs
    rw [show ([]:List D).length + 1 + ds.length=1 + ds.length by simp] at ss
    refine⟨_,ht,_,_,[],_,ss,hq,fun δ' ⟨d1,e,r⟩ σ' H' ⟨A',x⟩=>?_,⟨fun d δ' ⟨d1,e,r⟩ v σ' H' ⟨A',x⟩=>?_,fun _ h=>h.elim,fun _ _ _ z=>z.elim⟩,fun _ h=>h.elim,fun _ h=>h.elim,fun z=>z.elim⟩
    · obtain ⟨_,aa,oo⟩:=x.own 0 a d1 e
      exact hk _ _ r .non H' (fun b o n e=>x.old b o e n) (eD aa oo) (by unfold yF;rfl)
    · obtain ⟨_,aa,oo⟩:=x.own 0 a d1 e
      exact hk _ _ r v H' (fun b o n e=>x.old b o e n) (eD aa oo) (yF.more (fun b z=>.inl (z.elim .inl fun e=>.inr (by rw [e];exact aa))) _ _ (x.pnd (d,v) (by simp)))
theorem yd {x:Str} {st:Stmt} {N ps:List Str} {k:Nat} {f:FO} (F:Fd K mg x st ps) (Sc:au N ps (ah st)) (hp:ps.length=2) (len:∀ d ds R,f d ds R→ds.length=1)
    (hbody:∀ (fa:Addr) (cdv:Value) (A:Around) (outer:List Env) (s:Shared) (H:Hp) (E:XK) (a:Addr) (d0 d:D) (R:D→D→Prop),bP k (A.deeper (envOfC x (ah st) s.heap.objs.size fa cdv))→f d0 [d] R →
      ∃ t,DSs (iB CX0 P w K mg base N x (ah st) fa cdv A outer s H E).nox (aI st) t ∧
        t { nx:=fun δ=>∃ d1,δ[1]?=some (.own a d1)∧R .non d1,rt:=fun d δ=>∃ d1,δ[1]?=some (.own a d1)∧R d d1 } (Sl.dat d :: Sl.own a d0 :: List.replicate (N.length - 2) Sl.no)) :
    Cal P w K mg base (k + 1) x ps (n5 K f):=by
  obtain ⟨fa,fd,Fu,b,mm⟩:=F.ex
  refine⟨fa,fd,Fu.ok Sc (fun vs H Q E h=>?_) (fun cdv A outer s H vs Q E hr h=>?_),b,Fu.kp,mm⟩
  · obtain ⟨v0,v1,rfl,_⟩:=h
    exact hp.symm
  · obtain ⟨v0,v1,rfl,M,a,d0,vs',ds,R,e,m,na,ow,rs,hf,hk⟩:=h
    cases e
    have hl:=len _ _ _ hf
    match ds,hl with
    | [d],_ =>
      obtain ⟨t,ht,hq⟩:=hbody fa cdv A outer s H E a d0 d R hr hf
      have ss:=jK (ds2:=[]) (vs2:=[]) N m na ow rs Reps.nil
      refine⟨_,ht,_,_,[],_,ss,hq,fun δ' ⟨d1,e,r⟩ σ' H' ⟨A',x⟩=>?_,⟨fun d δ' ⟨d1,e,r⟩ v σ' H' ⟨A',x⟩=>?_,fun _ h=>h.elim,fun _ _ _ z=>z.elim⟩,fun _ h=>h.elim,fun _ h=>h.elim,fun z=>z.elim⟩
      · obtain ⟨_,aa,oo⟩:=x.own 1 a d1 e
        exact hk _ _ r .non H' (fun b o n e=>x.old b o e n) (eD aa oo) (by unfold yF;rfl)
      · obtain ⟨_,aa,oo⟩:=x.own 1 a d1 e
        exact hk _ _ r v H' (fun b o n e=>x.old b o e n) (eD aa oo) (yF.more (fun b z=>.inl (z.elim .inl fun e=>.inr (by rw [e];exact aa))) _ _ (x.pnd (d,v) (by simp)))
end
def kN (i:Nat) (R:ax) (δ:En) (d:D):Prop:=∀ a,fJ δ i (.own a d) R.nx
def kO (i:Nat) (a:Addr) (R:W→En→Prop) (δ:En) (r d:D):Prop:=fJ δ i (.own a d) (R (.d r))
def vg (i:Nat) (f:List D→(D→Prop)→Prop) (t:yS) (R:ax) (δ:En):Prop:=t δ fun ds δ1=>f ds (kN i R δ1)
def wH (i:Nat) (t:yS) (R:ax) (δ:En):Prop:=t δ fun ds δ1=>q9 ds (∀ a,fJ δ1 i (.own a (.lst ds)) R.nx)
def ui (i:Nat) (R:ax) (δ:En):Prop:=∀ a,fJ δ i (.own a (.dct [] [])) R.nx
def wO (i:Nat) (R:ax) (δ:En):Prop:=qW δ[i]? fun _ d=>R.ro d
def wP (t:yS) (R:ax) (δ:En):Prop:=t δ fun ds _=>q9 ds (R.ro (.lst ds))
def qo (i:Nat) (f:FO) (t:yS) (δ:En) (R:W→En→Prop):Prop:=qW δ[i]? fun a _=>t δ fun ds δ1=>qWe δ1[i]? fun d0=>f d0 ds (kO i a R δ1)
def wn (i:Nat) (δ:En) (R:W→En→Prop):Prop:=qWL δ[i]? fun _ ds=>R (.d (.int ds.length)) δ
def mG (i:Nat) (δ:En) (R:W→En→Prop):Prop:=qWL δ[i]? fun _ ds=>R (.d (.tup ds)) δ
def eX (i:Nat) (t:TDS) (R:ax) (δ:En):Prop:=qW δ[i]? fun _ d=>fJ δ i (.dat d) (t R)
def lQ (i:Nat) (f:FO) (ta:yM) (δ:En) (R:W→En→Prop):Prop:=ta δ (wd fun z δ1=>qW δ1[i]? fun a d0=>f d0 [z] (kO i a R δ1))
def dIxO (i:Nat) (tb:yM) (δ:En) (R:W→En→Prop):Prop:=qW δ[i]? fun _ _=>tb δ (wd fun z δ1=>n6 δ1[i]? fun ds=>qI z fun k=>yJ ds k fun v=>R (.d v) δ1)
def vj (i:Nat) (ta tb:yM) (R:ax) (δ:En):Prop:=ta δ (wd fun x δ1=>qW δ1[i]? fun a _=>tb δ1 (wd fun z δ2=>n6 δ2[i]? fun ds=>qI z fun k=>∃ j,ixN ds.length k=some j∧fJ δ2 i (.own a (.lst (ds.set j x))) R.nx))
def uV (i:Nat) (ta:yM) (R:ax) (δ:En):Prop:=qWL δ[i]? fun a _=>ta δ (wd fun x δ1=>n6 δ1[i]? fun ds=>ds.length < 9000∧fJ δ1 i (.own a (.lst (ds++[x]))) R.nx)
section
variable {X:Cx} {pos:Pos} {a b e:Expr} {es:List Expr} {ta tb:yM} {t:yS} {f:List D→(D→Prop)→Prop}
theorem S.ret {K:PySem.W.Frag} {G:Gf} {δ:En} {P:List (D×V)} {σ:L2.St} {H:Hp} {i:Nat} {a:Addr} {d:D} (s:S K G δ P σ H) (e:δ[i]?=some (.own a d)):qq K G H a d:=by
 obtain ⟨A,x⟩:=s
 obtain ⟨_,aa,oo⟩:=x.own i a d e
 exact⟨x.old,x.new a aa,fun z=>(x.new a aa).elim (fun q=>x.m0 a z q) fun q=>(x.pm a q).2 z,eD aa oo⟩
theorem tw (i:Nat) {x:Str} {p:Pos} (hN:X.N[i]?=some x:=by rfl) (hv:Vis X.env.scope x:=by walk_at "v3") (hd:(x == ("__debug__":Str))=false:=by decide)
  (hcd:(x == ("__classdict__":Str))=false:=by decide):DS X (.Return (some (.Name x p)) pos) (wO i) :=
 PS.imp (md (aQ hN hv hd hcd)) fun E σ H ⟨G,δ,P,R,s,h,_,k,_⟩=>let ⟨a,d,e,r⟩:=qW.ex h;⟨.ref a,s.own e,k.2.1 d r a H (s.ret e)⟩
theorem k9 {p:Pos} (h:DA X es t):DS X (.Return (some (.List es p)) pos) (wP t) :=
 PS.imp (md (lT h)) fun E σ H ⟨G,δ,P,R,s,h,_,k,_⟩=>⟨G,δ,P,_,s,h,fun ds δ1 h9 vs H1 hl ⟨A,x⟩=>⟨by rw [← hl];exact bV (q9.ex h9).1,fun p hp=>k.2.1 _ (q9.ex h9).2 p _ (by
  have rs:=x.reps ds vs hl (fun q hq=>List.mem_append_left _ hq)
  have sm:=ap hp (.lst vs)
  have nm:¬ (G.M0 p∨A p):=fun z=>x.mem p z hp
  refine⟨fun b o e n=>sm b o (x.old b o e n),.inl ?_,fun z=>nm (.inl z),vs,al,Reps.kp (Kp.of_same sm) _ _ (Reps.more (fun b z=>?_) _ _ rs)⟩
  ·cases q:G.H0 p with
   | none=>rfl
   | some o=>exact absurd hp (x.stay p (by rw [q];exact fun z=>nomatch z))
  ·rcases z with z | z
   ·exact .inl (.inl z)
   ·exact .inr (by rw [z];exact hp))⟩⟩
theorem mT (i:Nat) {x:Str} {p pos':Pos} (hN:X.N.Nodup) (h:DA X es t) (hi:X.N[i]?=some x:=by rfl) (hx:Loc X.env.scope x:=by walk_at "v2") (hs:swapsWith (.List es p) (some (.Name x pos')) pos.line X.env=pure false:=by rfl)
  (hf:X.fn x=true∨X.env.scope.names.lookup x=some .local :=by walk_at "v1"):DS X (.Assign [.Name x pos'] (.List es p) pos) (wH i t) :=
 PS.imp (dI hN hi hx (lT h) hs hf) fun E σ H ⟨G,δ,P,R,s,h,k,_⟩=>⟨G,δ,P,_,s,h,fun ds δ1 h9 vs H1 hl ⟨A,x⟩=>⟨by rw [← hl];exact bV (q9.ex h9).1,fun p hp=>by
  have r:=(q9.ex h9).2
  have rs:=x.reps ds vs hl (fun q hq=>List.mem_append_left _ hq)
  have sm:=ap hp (.lst vs)
  refine k _ (r p) _ _ ⟨_,x.claim (P':=P) hp sm ⟨vs,al,Reps.kp (Kp.of_same sm) _ _ (Reps.more (fun b z=>?_) _ _ rs)⟩ fun q hq=>List.mem_append_right _ hq⟩
  rcases z with z | z
  ·exact .inl z
  ·exact .inr (by rw [z];exact hp)⟩⟩
theorem iG (i:Nat) {x:Str} {p pos':Pos} (hN:X.N.Nodup) (hi:X.N[i]?=some x:=by rfl) (hx:Loc X.env.scope x:=by walk_at "v2") (hs:swapsWith (.Dict [] [] p) (some (.Name x pos')) pos.line X.env=pure false:=by rfl)
  (hf:X.fn x=true∨X.env.scope.names.lookup x=some .local :=by walk_at "v1"):DS X (.Assign [.Name x pos'] (.Dict [] [] p) pos) (ui i) :=
 PS.imp (dI hN hi hx nC hs hf) fun E σ H ⟨G,δ,P,R,⟨A,x⟩,h,k,_⟩=>fun p hp=>by
  have sm:=ap hp (.dK [])
  exact k _ (h p) _ _ ⟨_,x.claim (P':=P) hp sm ⟨[],by rw [al];rfl,rfl,Reps.nil⟩ fun q hq=>hq⟩
theorem kJ (i:Nat) {x y:Str} {k:Nat} {ps:List Str} {p pos' pos2:Pos} (hN:X.N.Nodup) (C:Cal X.prog X.w X.K X.mg X.base k x ps (spN X.K f)) (hr:bP k X.A) (hg:Gl X x) (ha:DA X (a :: es) t) (hi:X.N[i]?=some y:=by rfl) (hx:Loc X.env.scope y:=by walk_at "v2")
  (hdb:(x == ("__debug__":Str))=false:=by decide) (he:starEach (a :: es) X.env=(false,eval a X.env) :: starEach es X.env:=by rfl) (hpl:(backTo pos2 (starEach es X.env)).any (·.1)=false:=by rfl)
  (hs:swapsWith (.Call (.Name x p) (a :: es) [] pos2) (some (.Name y pos')) pos.line X.env=pure false:=by rfl) (hf:X.fn y=true∨X.env.scope.names.lookup y=some .local :=by walk_at "v1") :
  DS X (.Assign [.Name y pos'] (.Call (.Name x p) (a :: es) [] pos2) pos) (vg i f t):=by
 obtain ⟨g,fd,F,b,kp,m⟩:=C.ex
 refine PS.imp (dI hN hi hx (ff F hr hg m kp b .nil nI ha hdb he hpl) hs hf) fun E σ H ⟨G,δ,P,R,s,h,k,_⟩=>⟨G,δ,P,_,s,h,fun ds δ1 h1 vs H1 hl ⟨A,x⟩=>?_⟩
 show spN X.K f (vs++[]) H1 _ _
 rw [List.append_nil]
 exact⟨_,ds,_,x.mem,x.reps ds vs hl (fun q hq=>List.mem_append_left _ hq),h1,fun d r a H' sm fr ow=>k _ (r a) _ _ ⟨_,x.claim (P':=P) fr sm ow fun q hq=>List.mem_append_right _ hq⟩⟩
theorem mh {K:PySem.W.Frag} {G:Gf} {A:Addr→Prop} {δ:En} {P P':List (D×V)} {σ:L2.St} {H:Hp} {i:Nat} {a:Addr} {d0:D} {ds:List D} {vs:List V} {f:FO} {R:D→D→Prop} {Q:VK} {E:XK} (x:Sx K G A δ P σ H) (hi:δ[i]?=some (.own a d0)) (hl:ds.length=vs.length) (hp:∀ p∈ds.zip vs,p∈P)
  (hP:∀ p∈P',p∈P) (hf:f d0 ds R) (k:∀ r d1,R r d1→∀ v H',S K G (δ.set i (.own a d1)) ((r,v) :: P') σ H'→Q v H'):spO K f (.ref a :: vs) H Q E:=by
 obtain ⟨_,aa,oo⟩:=x.own i a d0 hi
 have e1:∀ b,(((G.M0 b∨A b)∧b≠a)∨b=a)→(G.M0 b∨A b):=fun b h=>h.elim (fun z=>z.1) fun z=>.inr (by rw [z];exact aa)
 have e2:∀ b,(G.M0 b∨A b)→(((G.M0 b∨A b)∧b≠a)∨b=a):=fun b h=>by
  by_cases z:b=a
  ·exact .inr z
  ·exact .inl ⟨h,z⟩
 refine⟨fun b=>(G.M0 b∨A b)∧b≠a,a,d0,vs,ds,R,rfl,fun b z=>x.mem b z.1,fun z=>z.2 rfl,aR.more (fun b z=>.inl (e1 b z)) oo,Reps.more (fun b z=>.inl (e1 b z)) _ _ (x.reps ds vs hl hp),hf,fun r d1 hr v H' hk ow rp=>k r d1 hr v H' ⟨A,?_⟩⟩
 exact ((x.change hi hk (aR.more (fun b z=>.inl (e2 b z)) ow)).sub hP).push (yF.more (fun b z=>.inl (e2 b z)) _ _ rp)
theorem bE (i:Nat) {f:FO} {x y:Str} {k:Nat} {ps:List Str} {p p2 pos:Pos} (C:Cal X.prog X.w X.K X.mg X.base k x ps (spO X.K f)) (hr:bP k X.A) (hg:Gl X x) (ha:DA X es t) (hN:X.N[i]?=some y:=by rfl)
  (hv:Vis X.env.scope y:=by walk_at "v3") (hd:(y == ("__debug__":Str))=false:=by decide) (hcd:(y == ("__classdict__":Str))=false:=by decide) (hdb:(x == ("__debug__":Str))=false:=by decide)
  (he:starEach (.Name y p2 :: es) X.env=(false,eval (.Name y p2) X.env) :: starEach es X.env:=by rfl) (hpl:(backTo pos (starEach es X.env)).any (·.1)=false:=by rfl) :
  DE X (.Call (.Name x p) (.Name y p2 :: es) [] pos) (qo i f t):=by
 obtain ⟨g,fd,F,b,kp,m⟩:=C.ex
 refine PE.imp (ff F hr hg m kp b .nil nI (aA (aQ hN hv hd hcd) ha he) hdb he hpl) fun σ H Q ⟨G,δ,P,R,s,h,k,_⟩=>?_
 replace h:=qW.ex h
 obtain ⟨a,d,e,h⟩:=h
 refine⟨.ref a,s.own e,G,δ,P,_,s,h,fun ds δ1 h1 vs H1 hl ⟨A,x⟩=>?_⟩
 replace h1:=qWe.ex x (s.own e) h1
 obtain ⟨d0,hi,hf⟩:=h1
 show spO X.K f ((V.ref a :: vs)++[]) H1 Q _
 rw [List.append_nil]
 exact mh x hi hl (fun q hq=>List.mem_append_left _ hq) (P':=P) (fun q hq=>List.mem_append_right _ hq) hf fun r d1 hr v H' s'=>k r _ hr v H' s'
theorem hZ (i:Nat) {f:FO} {x y:Str} {k:Nat} {ps:List Str} {p p2 pos:Pos} (C:Cal X.prog X.w X.K X.mg X.base k x ps (n5 X.K f)) (hr:bP k X.A) (hg:Gl X x) (ha:DE X a ta) (hN:X.N[i]?=some y:=by rfl)
  (hv:Vis X.env.scope y:=by walk_at "v3") (hd:(y == ("__debug__":Str))=false:=by decide) (hcd:(y == ("__classdict__":Str))=false:=by decide) (hdb:(x == ("__debug__":Str))=false:=by decide)
  (he:starEach [a,.Name y p2] X.env=(false,eval a X.env) :: starEach [.Name y p2] X.env:=by rfl) (he2:starEach [.Name y p2] X.env=(false,eval (.Name y p2) X.env) :: starEach [] X.env:=by rfl) (hpl:(backTo pos (starEach [.Name y p2] X.env)).any (·.1)=false:=by rfl) :
  DE X (.Call (.Name x p) [a,.Name y p2] [] pos) (lQ i f ta):=by
 obtain ⟨g,fd,F,b,kp,m⟩:=C.ex
 refine PE.imp (ff F hr hg m kp b .nil nI (aA ha (aA (aQ hN hv hd hcd) bN he2) he) hdb he hpl) fun σ H Q ⟨G,δ,P,R,s,h,k,_⟩=>up.mk s h fun z δ1 h1 v H1 s1=>?_
 replace h1:=qW.ex h1
 obtain ⟨a,d0,hi,hf⟩:=h1
 refine⟨.ref a,s1.own hi,?_⟩
 show n5 X.K f [v,.ref a] H1 Q _
 obtain ⟨A,x⟩:=s1
 exact⟨v,.ref a,rfl,mh (ds:=[z]) x hi rfl (by simp) (P':=P) (fun q hq=>List.mem_cons_of_mem _ hq) hf fun r d1 hr v H' s'=>k r _ hr v H' s'⟩
theorem cF {K:PySem.W.Frag} {G:Gf} {A:Addr→Prop} {δ:En} {P:List (D×V)} {σ:L2.St} {H:Hp} {i:Nat} {a:Addr} {ds:List D} (x:Sx K G A δ P σ H) (hi:δ[i]?=some (.own a (.lst ds))):σ[i]?=some (some (.ref a))∧A a∧∃ vs,H a=some (.lst vs)∧Reps K (fun b=>G.M0 b∨A b) H ds vs:=by
 obtain ⟨h1,h2,vs,h3,h4⟩:=x.own i a _ hi
 exact⟨h1,h2,vs,h3,h4⟩
theorem eF (i:Nat) {y:Str} {p pos:Pos} (hb:DE X b tb) (hs:jj b) (hN:X.N[i]?=some y:=by rfl) (hv:Vis X.env.scope y:=by walk_at "v3")
  (hd:(y == ("__debug__":Str))=false:=by decide) (hcd:(y == ("__classdict__":Str))=false:=by decide):DE X (.Subscript (.Name y p) b pos) (dIxO i tb) :=
 PE.imp (wa ma (aQ hN hv hd hcd) hb hs) fun σ H Q ⟨G,δ,P,R,s,h,k,_⟩=>let ⟨a,ds0,e,h⟩:=qW.ex h;⟨.ref a,s.own e,up.mk s h fun z δ1 h1 v H1 s1=>by
  obtain ⟨A,x⟩:=id s1
  replace h1:=n6.ex x (s.own e) h1
  obtain ⟨ds,hi,h1⟩:=h1
  replace h1:=qI.ex h1
  obtain ⟨j,ez,h1⟩:=h1
  replace h1:=yJ.ex h1
  obtain ⟨w,ew,r⟩:=h1
  subst ez
  obtain ⟨_,aa,vs,hvs,rs⟩:=cF x hi
  obtain ⟨n,h1,h2⟩:=lz (Reps.length _ _ rs) ew
  obtain ⟨u,hu,ru⟩:=Reps.get _ _ rs n w h1
  exact⟨a,vs,j,u,rfl,aJ (x.pnd (.int j,v) (by simp)),yI.of hvs,h2 u hu,k w δ1 r u H1 ⟨A,(x.sub (P':=P) fun q hq=>List.mem_cons_of_mem _ hq).push ru⟩⟩⟩
theorem iH (i:Nat) {y:Str} {p p2 pos:Pos} (hg:Gl X "len") (hm:X.mg "len"=none) (hv':bootBuiltins "len"=some (.builtin "len")) (hN:X.N[i]?=some y:=by rfl) (hv:Vis X.env.scope y:=by walk_at "v3")
  (hd:(y == ("__debug__":Str))=false:=by decide) (hcd:(y == ("__classdict__":Str))=false:=by decide) (he:starEach [.Name y p2] X.env=(false,eval (.Name y p2) X.env) :: starEach [] X.env:=by rfl) (hpl:(backTo pos (starEach [] X.env)).any (·.1)=false:=by rfl) :
  DE X (.Call (.Name "len" p) [.Name y p2] [] pos) (wn i) :=
 PE.imp (cL dN hg hm hv' (aA (aQ hN hv hd hcd) bN he) (by decide) (by decide) he hpl) fun σ H Q ⟨G,δ,P,R,s,h,k,_⟩=>by
  replace h:=qWL.ex h
  obtain ⟨a,ds,e,h⟩:=h
  obtain ⟨A,x⟩:=id s
  obtain ⟨h1,aa,vs,hvs,rs⟩:=cF x e
  exact⟨.ref a,h1,a,vs,rfl,.inl (yI.of hvs),k _ δ h _ H (s.sc (by rw [Reps.length _ _ rs];rfl))⟩
theorem m9 (i:Nat) {y:Str} {p p2 pos:Pos} (hg:Gl X "tuple") (hm:X.mg "tuple"=none) (hv':bootBuiltins "tuple"=some (.type "tuple")) (hN:X.N[i]?=some y:=by rfl) (hv:Vis X.env.scope y:=by walk_at "v3")
  (hd:(y == ("__debug__":Str))=false:=by decide) (hcd:(y == ("__classdict__":Str))=false:=by decide) (he:starEach [.Name y p2] X.env=(false,eval (.Name y p2) X.env) :: starEach [] X.env:=by rfl) (hpl:(backTo pos (starEach [] X.env)).any (·.1)=false:=by rfl) :
  DE X (.Call (.Name "tuple" p) [.Name y p2] [] pos) (mG i) :=
 PE.imp (io gE hg hm hv' (aA (aQ hN hv hd hcd) bN he) (by decide) (by decide) he hpl) fun σ H Q ⟨G,δ,P,R,s,h,k,_⟩=>by
  replace h:=qWL.ex h
  obtain ⟨a,ds,e,h⟩:=h
  obtain ⟨A,x⟩:=id s
  obtain ⟨h1,aa,vs,hvs,rs⟩:=cF x e
  refine⟨.ref a,h1,a,vs,rfl,.inl ⟨yI.of hvs,fun l hl=>k _ δ h _ _ ⟨A,(x.same (ap hl _)).push ?_⟩⟩⟩
  unfold yF
  exact⟨l,vs,rfl,yR.of al,Reps.kp (Kp.of_same (ap hl _)) _ _ rs⟩
theorem gB (i:Nat) {y:Str} {p pos':Pos} (he:DE X e ta) (hb:DE X b tb) (hN:X.N[i]?=some y:=by rfl) (hv:Vis X.env.scope y:=by walk_at "v3")
    (hd:(y == ("__debug__":Str))=false:=by decide) (hcd:(y == ("__classdict__":Str))=false:=by decide) (hs:swapsWithSole [.Subscript (.Name y p) b pos'] e pos.line X.env=pure false:=by rfl) (hw:swappedStores [.Subscript (.Name y p) b pos'] e X.env=pure none:=by rfl)
    (h1:(assignEach [.Subscript (.Name y p) b pos'] X.env).map (·.2)=[assign (.Subscript (.Name y p) b pos') X.env]:=by rfl)
    (ha:∀ v,assign (.Subscript (.Name y p) b pos') X.env v=(do
      let ov←holding [v] (eval (.Name y p) X.env)
      let iv←holding [v,ov] (eval b X.env)
      standAt pos'
      holding [v,ov,iv] (setItem ov iv v)
      release [v,ov,iv] []):=by intro _;rfl) :
    DS X (.Assign [.Subscript (.Name y p) b pos'] e pos) (vj i ta tb) :=
  PS.imp (wf he (wM (aQ hN hv hd hcd) hb oG ha) hs hw h1) fun E σ H ⟨G,δ,P,R,s,h,k,_⟩=>up.mk s h fun x δ1 h1 v H1 s1=>let ⟨a,ds0,hi0,h1⟩:=qW.ex h1;⟨.ref a,s1.own hi0,up.mk s1 h1 fun z δ2 h2 u H2 ⟨A,q⟩=>by
    replace h2:=n6.ex q (s1.own hi0) h2
    obtain ⟨ds,hi,h2⟩:=h2
    replace h2:=qI.ex h2
    obtain ⟨n,ez,h2⟩:=h2
    obtain ⟨j,hj,r⟩:=h2
    subst ez
    obtain ⟨_,aa,vs,hvs,rs⟩:=cF q hi
    refine⟨a,vs,n,j,rfl,aJ (q.pnd (.int n,u) (by simp)),hvs,by rw [← Reps.length _ _ rs];exact hj,k _ r _ _ ⟨A,(q.change (d':=.lst (ds.set j x)) hi (fun b o n e=>by rw [ar n];exact e) ⟨vs.set j v,al,?_⟩).sub (P':=P) fun q hq=>List.mem_cons_of_mem _ (List.mem_cons_of_mem _ hq)⟩⟩
    have kp:Kp (fun b=>G.M0 b∨A b) H2 (yV H2 a (.lst (vs.set j v))):=by
      have hk:∀ b o,b≠a→H2 b=some o→yV H2 a (.lst (vs.set j v)) b=some o:=fun b o n e=>by rw [ar n];exact e
      exact⟨fun b o e n=>hk b o (fun z=>n (.inr (by rw [z];exact aa))) e,fun b xs e=>hk b _ (fun z=>by rw [z,hvs] at e;cases e) e,fun b o u e=>hk b _ (fun z=>by rw [z,hvs] at e;cases e) e⟩
    exact Reps.kp kp _ _ (Reps.set (q.pnd (x,v) (by simp)) j _ _ rs)⟩
theorem fX (i:Nat) {y:Str} {p apos cpos:Pos} (he:DE X e ta) (hN:X.N[i]?=some y:=by rfl) (hv:Vis X.env.scope y:=by walk_at "v3")
  (hd:(y == ("__debug__":Str))=false:=by decide) (hcd:(y == ("__classdict__":Str))=false:=by decide)
  (hbase:attributeBase (.Name y p) "append" X.env (eval (.Name y p) X.env)=eval (.Name y p) X.env:=by rfl)
  (hfew:((backTo cpos (starEach [e] X.env)).all (fun x=>!x.1) && (backToKw cpos (keywordEach [] X.env)).all (fun x=>x.1.isSome) && decide ([e].length + ([]:List Keyword).length + (if ([]:List Keyword).isEmpty then 0 else 1) < 30))=true:=by rfl)
  (hline:(apos.endLine == cpos.line)=true:=by rfl) (hs:starEach [e] X.env=(false,eval e X.env) :: starEach [] X.env:=by rfl) (hplain:(backTo cpos (starEach [] X.env)).any (·.1)=false:=by rfl)
  (hsw:swapsWith (.Call (.Attribute (.Name y p) "append" apos) [e] [] cpos) none pos.line X.env=pure false:=by rfl) :
  DS X (.Expr (.Call (.Attribute (.Name y p) "append" apos) [e] [] cpos) pos) (uV i ta) :=
 PS.imp (dh (yp PySem.F.plainAttrs_list PySem.F.slot_list_append PySem.F.type_list_append gT (aQ hN hv hd hcd) (aA he bN hs) hbase hfew hline hs hplain) hsw) fun E σ H ⟨G,δ,P,R,s,h,k,_⟩=>by
  replace h:=qWL.ex h
  obtain ⟨a,ds0,hi0,h⟩:=h
  obtain ⟨A0,x0⟩:=id s
  obtain ⟨h0,_,vs0,hvs0,_⟩:=cF x0 hi0
  refine⟨.ref a,h0,.inl ⟨rfl,vs0,yI.of hvs0⟩,up.mk s h fun x δ1 h1 v H1 ⟨A,q⟩=>?_⟩
  replace h1:=n6.ex q h0 h1
  obtain ⟨ds,hi,hz,r⟩:=h1
  obtain ⟨_,aa,vs,hvs,rs⟩:=cF q hi
  refine⟨a,vs,v,rfl,rfl,hvs,by rw [← Reps.length _ _ rs];exact f7 (Nat.le_of_lt hz),k _ r _ _ ⟨A,(q.change (d':=.lst (ds++[x])) hi (fun b o n e=>by rw [ar n];exact e) ⟨vs++[v],al,?_⟩).sub (P':=P) fun q hq=>List.mem_cons_of_mem _ hq⟩⟩
  have kp:Kp (fun b=>G.M0 b∨A b) H1 (yV H1 a (.lst (vs++[v]))):=by
   have hk:∀ b o,b≠a→H1 b=some o→yV H1 a (.lst (vs++[v])) b=some o:=fun b o n e=>by rw [ar n];exact e
   exact⟨fun b o e n=>hk b o (fun z=>n (.inr (by rw [z];exact aa))) e,fun b xs e=>hk b _ (fun z=>by rw [z,hvs] at e;cases e) e,fun b o u e=>hk b _ (fun z=>by rw [z,hvs] at e;cases e) e⟩
  exact Reps.kp kp _ _ (Reps.append _ _ _ _ rs (Reps.one (q.pnd (x,v) (by simp))))
theorem cY (i:Nat) {st:List Stmt} {u:TDS} (h:DSs X st u):DSs X st (eX i u) :=
 PSs.imp h fun E σ H ⟨G,δ,P,R,⟨A,x⟩,h,k⟩=>let ⟨a,d,e,h⟩:=qW.ex h;⟨G,_,P,R,⟨_,x.freeze e fun z=>(x.new a (x.own i a d e).2.1).elim (fun q=>x.m0 a z q) fun q=>(x.pm a q).2 z⟩,h,k⟩
end
end DL
namespace DL
open PySem PySem.Spec PyProof.Rows L2
def dAt {α:Type}:List Str→List α→Str→Option α
 | k :: ks,d :: ds,x=>if k=x then some d else dAt ks ds x
 | _,_,_=>none
def jE {α:Type}:List Str→List α→Str→α→List α
 | k :: ks,d :: ds,x,y=>(if k=x then y else d) :: jE ks ds x y
 | _,ds,_,_=>ds
def gH (ks:List Str) (x:Str):List Str:=if x∈ks then ks else ks++[x]
def iA {α:Type} (ks:List Str) (ds:List α) (x:Str) (y:α):List α:=if x∈ks then jE ks ds x y else ds++[y]
theorem jX {α:Type}:∀ (ks:List Str) (ds:List α) (x:Str) (y:α),(jE ks ds x y).length=ds.length
 | [],ds,_,_=>by cases ds<;>rfl
 | k :: ks,[],_,_=>rfl
 | k :: ks,d :: ds,x,y=>by unfold jE;rw [List.length_cons,List.length_cons,jX ks ds x y]
theorem qP {α:Type} {ks:List Str} {ds:List α} {x:Str} {y:α} (h:ks.length=ds.length):(gH ks x).length=(iA ks ds x y).length:=by
 unfold gH iA
 by_cases e:x∈ks
 ·rw [if_pos e,if_pos e,jX];exact h
 ·rw [if_neg e,if_neg e,List.length_append,List.length_append,h];rfl
theorem oX {ks:List Str} {vs:List V} (x:Str) (h:ks.length=vs.length):((aO ks vs).any fun kv=>decide (kv.1=Sum.inr x))=decide (x∈ks):=by
 induction ks generalizing vs with
 | nil=>rfl
 | cons k ks ih =>
  cases vs with
  | nil=>cases h
  | cons v vs =>
   show ((Sum.inr k,v) :: aO ks vs).any _=_
   rw [List.any_cons,ih (Nat.succ.inj h)]
   by_cases e:k=x
   ·subst e;simp
   ·have e2:¬ x=k:=fun z=>e z.symm
    simp [e,e2]
theorem ph {ks:List Str} {vs:List V} (x:Str) (y:V):(aO ks vs).map (fun kv=>if kv.1=Sum.inr x then (kv.1,y) else kv)=aO ks (jE ks vs x y):=by
 induction ks generalizing vs with
 | nil=>rfl
 | cons k ks ih =>
  cases vs with
  | nil=>rfl
  | cons v vs =>
   show ((Sum.inr k,v) :: aO ks vs).map _=(Sum.inr k,if k=x then y else v) :: aO ks (jE ks vs x y)
   rw [List.map_cons,ih]
   by_cases e:k=x
   ·subst e;simp
   ·have:¬ (Sum.inr k:yL)=Sum.inr x:=fun z=>e (Sum.inr.inj z)
    simp [e]
theorem tX {ks:List Str} {vs:List V} (x:Str) (y:V) (h:ks.length=vs.length):g6 (aO ks vs) (Sum.inr x) y=aO (gH ks x) (iA ks vs x y):=by
 unfold g6
 rw [oX x h]
 unfold gH iA
 by_cases e:x∈ks
 ·rw [decide_eq_true e,if_pos rfl,if_pos e,if_pos e,ph]
 ·rw [decide_eq_false e,if_neg Bool.false_ne_true,if_neg e,if_neg e]
  unfold aO
  rw [List.map_append,List.zip_append (by rw [List.length_map];exact h)]
  rfl
theorem d5 {ks:List Str} {vs:List V} (x:Str):jV (aO ks vs) (Sum.inr x)=dAt ks vs x:=by
 induction ks generalizing vs with
 | nil=>rfl
 | cons k ks ih =>
  cases vs with
  | nil=>rfl
  | cons v vs =>
   show jV ((Sum.inr k,v) :: aO ks vs) _=if k=x then some v else dAt ks vs x
   by_cases e:k=x
   ·subst e;rw [d6 rfl,if_pos rfl]
   ·rw [d3 (fun z=>e (Sum.inr.inj z)),if_neg e,ih]
section
variable {K:PySem.W.Frag} {M:Addr→Prop} {H:Hp}
theorem Reps.rep {d:D} {v:V} (r:yF K M H d v) (x:Str):∀ (ks:List Str) (ds:List D) (vs:List V),Reps K M H ds vs→Reps K M H (jE ks ds x d) (jE ks vs x v)
 | [],ds,vs,h=>by
  have e1:jE [] ds x d=ds:=by cases ds<;>rfl
  have e2:jE [] vs x v=vs:=by cases vs<;>rfl
  rw [e1,e2];exact h
 | k :: ks,[],vs,h=>by unfold Reps at h;subst h;exact Reps.nil
 | k :: ks,e :: ds,vs,h=>by
  unfold Reps at h
  obtain ⟨w,rs,rfl,q,s⟩:=h
  show Reps K M H ((if k=x then d else e) :: jE ks ds x d) ((if k=x then v else w) :: jE ks rs x v)
  refine Reps.cons ?_ (Reps.rep r x ks ds rs s)
  by_cases z:k=x
  ·rw [if_pos z,if_pos z];exact r
  ·rw [if_neg z,if_neg z];exact q
theorem Reps.put {ks:List Str} {ds:List D} {vs:List V} {d:D} {v:V} (x:Str) (h:Reps K M H ds vs) (r:yF K M H d v):Reps K M H (iA ks ds x d) (iA ks vs x v):=by
 unfold iA
 by_cases e:x∈ks
 ·rw [if_pos e,if_pos e];exact Reps.rep r x ks ds vs h
 ·rw [if_neg e,if_neg e];exact Reps.append _ _ _ _ h (Reps.one r)
theorem Reps.dAt (x:Str):∀ (ks:List Str) (ds:List D) (vs:List V),Reps K M H ds vs→(∀ d,DL.dAt ks ds x=some d→∃ v,DL.dAt ks vs x=some v∧yF K M H d v)∧(DL.dAt ks ds x=none→DL.dAt ks vs x=none)
 | [],ds,vs,h=>⟨fun d e=>(nomatch e),fun _=>rfl⟩
 | k :: ks,[],vs,h=>by unfold Reps at h;subst h;exact⟨fun d e=>(nomatch e),fun _=>rfl⟩
 | k :: ks,e :: ds,vs,h=>by
  unfold Reps at h
  obtain ⟨w,rs,rfl,q,s⟩:=h
  obtain ⟨h1,h2⟩:=Reps.dAt x ks ds rs s
  show (∀ d,(if k=x then some e else DL.dAt ks ds x)=some d→∃ v,(if k=x then some w else DL.dAt ks rs x)=some v∧_)∧((if k=x then some e else DL.dAt ks ds x)=none→(if k=x then some w else DL.dAt ks rs x)=none)
  by_cases z:k=x
  ·simp only [if_pos z]
   exact⟨fun d e=>by cases e;exact⟨w,rfl,q⟩,fun e=>(nomatch e)⟩
  ·simp only [if_neg z]
   exact⟨h1,h2⟩
theorem gd {α:Type} {ks:List Str} {ds:List α} {x:Str} (h:ks.length=ds.length):(dAt ks ds x).isSome=decide (x∈ks):=by
 induction ks generalizing ds with
 | nil=>rfl
 | cons k ks ih =>
  cases ds with
  | nil=>cases h
  | cons v vs =>
   show (if k=x then some v else dAt ks vs x).isSome=_
   by_cases e:k=x
   ·subst e;simp
   ·have e2:¬ x=k:=fun z=>e z.symm
    rw [if_neg e,ih (Nat.succ.inj h)]
    simp [e2]
end
def oF:List D→(D→Prop)→Prop
 | [.dct ks ds,.str x],R=>∃ d,dAt ks ds x=some d∧R d
 | [.fd ks ds,.str x],R=>∃ d,dAt ks ds x=some d∧R d
 | _,_=>False
theorem nD:∀ {d0:List D} {R:D→Prop},oF d0 R→((∃ (ks:List Str) (ds:List D) (x:Str),d0=[.dct ks ds,.str x]∧∃ d,dAt ks ds x=some d∧R d)∨(∃ (ks:List Str) (ds:List D) (x:Str),d0=[.fd ks ds,.str x]∧∃ d,dAt ks ds x=some d∧R d)):=by walk_at "or"
theorem nO {ks:List Str} {ds:List D} {x:Str} {R:D→Prop}:oF [.fd ks ds,.str x] R=(∃ d,dAt ks ds x=some d∧R d):=rfl
theorem oQ {ks:List Str} {ds:List D} {x:Str} {R:D→Prop}:oF [.dct ks ds,.str x] R=(∃ d,dAt ks ds x=some d∧R d):=rfl
def fIn (g:Bool→Bool):List D→(D→Prop)→Prop
 | [.str x,.dct ks _],R=>R (.bl (g (decide (x∈ks))))
 | [.str x,.lst ds],R=>∃ ss:List Str,ds=ss.map D.str∧R (.bl (g (decide (x∈ss))))
 | _,_=>False
theorem pH {g:Bool→Bool} {d0:List D} {R:D→Prop} (h:fIn g d0 R):(∃ (x:Str) (ks:List Str) (z1:List D),d0=[.str x,.dct ks z1]∧R (.bl (g (decide (x∈ks)))))∨(∃ (x:Str) (ds:List D),d0=[.str x,.lst ds]∧∃ ss:List Str,ds=ss.map D.str∧R (.bl (g (decide (x∈ss))))):=by
 rcases d0 with _ | ⟨a,_ | ⟨b,_ | ⟨c,l⟩⟩⟩
 ·exact False.elim h
 ·cases a<;>exact False.elim h
 ·cases a<;>first | exact False.elim h | (cases b<;>first | exact False.elim h | exact .inl ⟨_,_,_,rfl,h⟩ | exact .inr ⟨_,_,rfl,h⟩)
 ·cases a<;>first | exact False.elim h | (cases b<;>exact False.elim h)
theorem t8 {g:Bool→Bool} {ks:List Str} {ds:List D} {x:Str} {R:D→Prop}:fIn g [.str x,.dct ks ds] R=(R (.bl (g (decide (x∈ks))))):=rfl
theorem t9 {g:Bool→Bool} {ds:List D} {x:Str} {R:D→Prop}:fIn g [.str x,.lst ds] R=(∃ ss:List Str,ds=ss.map D.str∧R (.bl (g (decide (x∈ss))))):=rfl
theorem b9 {K:PySem.W.Frag} {M:Addr→Prop} {H:Hp}:∀ {ss:List Str} {vs:List V},Reps K M H (ss.map D.str) vs→vs=ss.map V.str
 | [],vs,h=>by unfold Reps at h;exact h
 | s :: ss,vs,h=>by
  rw [List.map_cons] at h
  unfold Reps at h
  obtain ⟨v,r,rfl,q,t⟩:=h
  rw [aW q,b9 t];rfl
theorem bj {K:PySem.W.Frag} {M:Addr→Prop} {H:Hp}:∀ (ss:List Str),Reps K M H (ss.map D.str) (ss.map V.str)
 | []=>Reps.nil
 | s :: ss=>Reps.cons (by unfold yF;rfl) (bj ss)
theorem bR:∀ {ss:List Str} {us:List Value},aV (ss.map V.str) us→StrsAre us ss
 | [],_,r=>by rw [List.map_nil] at r;cases r;exact .nil
 | s :: ss,_,r=>by
  rw [List.map_cons] at r
  cases r with
  | @cons _ u _ us h t =>
   obtain ⟨t',e⟩:=(show ∃ t,u=Value.str s t from h)
   subst e
   exact .cons _ _ (bR t)
theorem bq:∀ {ss:List Str} {us:List Value},StrsAre us ss→aV (ss.map V.str) us
 | _,_,.nil=>.nil
 | _,_,.cons _ _ h=>.cons ⟨_,rfl⟩ (bq h)
theorem gt (x:Str):∀ {us:List Value} {ss:List Str},StrsAre us ss→us.any (fun y=>match y with | .str z _=>z == x | _=>false)=decide (x∈ss)
 | _,_,.nil=>rfl
 | _,_,.cons y t (vs:=us) (ys:=ss) h=>by
  rw [List.any_cons,gt x h]
  by_cases e:y=x
  ·subst e;simp
  ·have e2:¬ x=y:=fun z=>e z.symm
   simp [e,e2]
theorem jt {us:List Value} {ss:List Str} (h:StrsAre us ss):∀ y∈us,∃ z t,y=Value.str z t:=by
 induction h with
 | nil=>intro y hy;cases hy
 | cons z t h ih =>
  intro y hy
  rcases List.mem_cons.mp hy with rfl | hy
  ·exact⟨z,t,rfl⟩
  ·exact ih y hy
section
variable {X:Cx}
theorem o_in (hu:X.A.units + 64 < cLine):yK X (compareOp .In) fun x y=>aB X.K (fIn id) [x,y]:=by
 intro pins s σ H x y v u Q I rx ry h
 obtain ⟨M,ds,R,m,rs,h,k⟩:=h
 have fin:∀ b s',Inv X pins σ H s'→R (.bl b)→EP X pins σ Q (.bool b) s':=fun b s' I' r=>⟨.bl b,H,I',rfl,k _ r _ H (bh.refl H) (yF.sc rfl)⟩
 replace h:=pH h
 rcases h with ⟨_,_,_,rfl,h⟩ | ⟨x0,_,rfl,h⟩
 ·obtain ⟨h1,h2⟩:=bg rs
  cases aW h1
  unfold yF at h2
  obtain ⟨a,vs,rfl,_,e,l,r⟩:=h2
  cases ry
  refine d_in (by omega) I (mn.k (k:=Sum.inr _) e) rx fun s' I'=>?_
  rw [d5,gd (by rw [l,Reps.length _ _ r])]
  exact fin _ _ I' h
 ·obtain ⟨ss,rfl,h⟩:=h
  obtain ⟨h1,h2⟩:=bg rs
  cases aW h1
  unfold yF at h2
  obtain ⟨a,vs,rfl,_,e,r⟩:=h2
  cases ry
  cases b9 r
  obtain ⟨t,rfl⟩:=rx
  obtain ⟨its,rv,pl,_⟩:=I.list (yI.of e)
  have hs:=bR rv
  refine SeqAt.in_listAt (fun y=>match y with | .str z _=>z == x0 | _=>false) pl.isList (fun y hy=>?_) ?_
  ·obtain ⟨z,t',rfl⟩:=jt hs y (by simpa using hy)
   exact SeqAt.EqAt.str_str z t' x0 t
  ·rw [List.any_toArray,gt x0 hs]
   exact fin _ _ I h
theorem i7 (hu:X.A.units + 64 < cLine):yK X (compareOp .NotIn) fun x y=>aB X.K (fIn Bool.not) [x,y]:=by
 intro pins s σ H x y v u Q I rx ry h
 obtain ⟨M,ds,R,m,rs,h,k⟩:=h
 have fin:∀ b s',Inv X pins σ H s'→R (.bl b)→EP X pins σ Q (.bool b) s':=fun b s' I' r=>⟨.bl b,H,I',rfl,k _ r _ H (bh.refl H) (yF.sc rfl)⟩
 replace h:=pH h
 rcases h with ⟨_,_,_,rfl,h⟩ | ⟨x0,_,rfl,h⟩
 ·obtain ⟨h1,h2⟩:=bg rs
  cases aW h1
  unfold yF at h2
  obtain ⟨a,vs,rfl,_,e,l,r⟩:=h2
  cases ry
  refine r8 (by omega) I (mn.k (k:=Sum.inr _) e) rx fun s' I'=>?_
  rw [d5,gd (by rw [l,Reps.length _ _ r])]
  exact fin _ _ I' h
 ·obtain ⟨ss,rfl,h⟩:=h
  obtain ⟨h1,h2⟩:=bg rs
  cases aW h1
  unfold yF at h2
  obtain ⟨a,vs,rfl,_,e,r⟩:=h2
  cases ry
  cases b9 r
  obtain ⟨t,rfl⟩:=rx
  obtain ⟨its,rv,pl,_⟩:=I.list (yI.of e)
  have hs:=bR rv
  refine SeqAt.notIn_listAt (fun y=>match y with | .str z _=>z == x0 | _=>false) pl.isList (fun y hy=>?_) ?_
  ·obtain ⟨z,t',rfl⟩:=jt hs y (by simpa using hy)
   exact SeqAt.EqAt.str_str z t' x0 t
  ·rw [List.any_toArray,gt x0 hs]
   exact fin _ _ I h
def rN:List D→(D→Prop)→Prop
 | [.int i,.int j],R=>R (.bl (!decide (i=j)))
 | [.str x,.str y],R=>R (.bl (!decide (x=y)))
 | [.bl a,.bl b],R=>R (.bl (!decide (a=b)))
 | [.tup xs,.tup ys],R=>(xs=ys∧D.nds xs=true∧D.dps xs≤60)∧R (.bl false)
 | [.lst xs,.lst ys],R=>(xs=ys∧D.nds xs=true∧D.dps xs≤60)∧R (.bl false)
 | _,_=>False
theorem rJ:∀ {d0:List D} {R:D→Prop},rN d0 R→((∃ (i:Int) (j:Int),d0=[.int i,.int j]∧R (.bl (!decide (i=j))))∨(∃ (x:Str) (y:Str),d0=[.str x,.str y]∧R (.bl (!decide (x=y))))∨(∃ (a:Bool) (b:Bool),d0=[.bl a,.bl b]∧R (.bl (!decide (a=b))))∨(∃ (xs:List D) (ys:List D),d0=[.tup xs,.tup ys]∧(xs=ys∧D.nds xs=true∧D.dps xs≤60)∧R (.bl false))∨(∃ (xs:List D) (ys:List D),d0=[.lst xs,.lst ys]∧(xs=ys∧D.nds xs=true∧D.dps xs≤60)∧R (.bl false))):=by walk_at "or"
theorem o5 {i j:Int} {R:D→Prop}:rN [.int i,.int j] R=(R (.bl (!decide (i=j)))):=rfl
theorem nU {i j:Str} {R:D→Prop}:rN [.str i,.str j] R=(R (.bl (!decide (i=j)))):=rfl
theorem t4 {i j:Bool} {R:D→Prop}:rN [.bl i,.bl j] R=(R (.bl (!decide (i=j)))):=rfl
theorem pk {xs ys:List D} {R:D→Prop}:rN [.tup xs,.tup ys] R=((xs=ys∧D.nds xs=true∧D.dps xs≤60)∧R (.bl false)):=rfl
theorem nT {xs ys:List D} {R:D→Prop}:rN [.lst xs,.lst ys] R=((xs=ys∧D.nds xs=true∧D.dps xs≤60)∧R (.bl false)):=rfl
def uI:List D→(D→Prop)→Prop:=fun d0 R=>∃ ks ds,d0=[.dct ks ds,.dct ks ds]∧ks.Nodup∧D.nds ds=true∧D.dps ds≤60∧R (.bl false)
theorem nK {ks ks':List Str} {ds ds':List D} {R:D→Prop}:uI [.dct ks ds,.dct ks' ds'] R↔(ks=ks'∧ds=ds'∧ks.Nodup∧D.nds ds=true∧D.dps ds≤60)∧R (.bl false):=by
 constructor
 ·intro h
  obtain ⟨_,_,e,h⟩:=h
  cases e
  exact⟨⟨rfl,rfl,h.1,h.2.1,h.2.2.1⟩,h.2.2.2⟩
 ·intro h
  obtain ⟨⟨rfl,rfl,h1,h2,h3⟩,h⟩:=h
  exact⟨_,_,rfl,h1,h2,h3,h⟩
theorem lM {A:Around} {s:Shared}:∀ (kb:List (yL×Value)) (ka:List (yL×Value)),(∀ (j:Nat) k v,ka[j]?=some (k,v)→∃ y,valueAt kb k=some y∧SeqAt.EqAt A s v y true)→PySem.W.KeqHits A s kb ka true
 | kb,[],_=>.nil
 | kb,(k,v) :: r,h=>by
  obtain ⟨y,hy,he⟩:=h 0 k v rfl
  have q:=PySem.W.KeqHits.hit hy he (lM kb r fun j k' v' e=>h (j + 1) k' v' (by simpa using e))
  exact q
theorem kl {kb:List (yL×Value)} (hn:(kb.map (·.1)).Nodup) {j:Nat} {k:yL} {y:Value} (e:kb[j]?=some (k,y)):valueAt kb k=some y:=by
 induction kb generalizing j with
 | nil=>simp at e
 | cons p r ih =>
  rw [List.map_cons,List.nodup_cons] at hn
  cases j with
  | zero=>simp at e;subst e;simp [valueAt]
  | succ j =>
   have e':r[j]?=some (k,y):=by simpa using e
   have ne:¬ p.1=k:=fun z=>hn.1 (by rw [z];exact List.mem_map.mpr ⟨(k,y),List.mem_of_getElem? e',rfl⟩)
   have q:=ih hn.2 e'
   unfold valueAt at q ⊢
   rw [List.find?_cons]
   simp only [ne,decide_false]
   exact q
theorem gG {α β:Type} {F:α→β→Prop}:∀ {l₁:List α} {l₂:List β} {j:Nat} {b:β},Paired F l₁ l₂→l₂[j]?=some b→∃ a,l₁[j]?=some a∧F a b
 | _,_,_,_,.nil,e=>by simp at e
 | _,_,0,_,.cons h t,e=>by simp at e;subst e;exact⟨_,rfl,h⟩
 | _,_,j + 1,_,.cons h t,e=>by
  obtain ⟨a,q,f⟩:=gG (j:=j) t (by simpa using e)
  exact⟨a,by simpa using q,f⟩
theorem me {α β:Type} {F:α→β→Prop}:∀ {l₁:List α} {l₂:List β} {j:Nat} {a:α},Paired F l₁ l₂→l₁[j]?=some a→∃ b,l₂[j]?=some b∧F a b
 | _,_,_,_,.nil,e=>by simp at e
 | _,_,0,_,.cons h t,e=>by simp at e;subst e;exact⟨_,rfl,h⟩
 | _,_,j + 1,_,.cons h t,e=>by
  obtain ⟨a,q,f⟩:=me (j:=j) t (by simpa using e)
  exact⟨a,by simpa using q,f⟩
theorem l5:∀ {ds:List D} {j:Nat} {d:D},D.nds ds=true→ds[j]?=some d→d.nd=true
 | [],_,_,_,e=>by simp at e
 | x :: r,0,d,h,e=>by
  simp at e;subst e
  unfold D.nds at h
  exact (Bool.and_eq_true_iff.mp h).1
 | x :: r,j + 1,d,h,e=>by
  unfold D.nds at h
  exact l5 (j:=j) (Bool.and_eq_true_iff.mp h).2 (by simpa using e)
theorem ms:∀ {ds:List D} {j:Nat} {d:D},ds[j]?=some d→d.dp≤D.dps ds
 | [],_,_,e=>by simp at e
 | x :: r,0,d,e=>by
  simp at e;subst e
  unfold D.dps
  exact Nat.le_max_left _ _
 | x :: r,j + 1,d,e=>by
  unfold D.dps
  exact Nat.le_trans (ms (j:=j) (by simpa using e)) (Nat.le_max_right _ _)
theorem iK {ks:List Str} {vs:List V} {j:Nat} {k:yL} {v:V} (e:(aO ks vs)[j]?=some (k,v)):∃ x,k=Sum.inr x∧ks[j]?=some x∧vs[j]?=some v:=by
 unfold aO at e
 rw [List.getElem?_zip_eq_some] at e
 obtain ⟨e1,e2⟩:=e
 rw [List.getElem?_map] at e1
 cases h:ks[j]? with
 | none=>rw [h] at e1;cases e1
 | some x=>rw [h] at e1;exact⟨x,(Option.some.inj e1).symm,rfl,e2⟩
theorem um {ks:List Str} {vs:List V} {j:Nat} {x:Str} {v:V} (e1:ks[j]?=some x) (e2:vs[j]?=some v):(aO ks vs)[j]?=some (Sum.inr x,v):=by
 unfold aO
 rw [List.getElem?_zip_eq_some]
 exact⟨by rw [List.getElem?_map,e1];rfl,e2⟩
theorem po {pins:List (Addr×Obj)} {σ:L2.St} {H:Hp} {s:Shared} {M:Addr→Prop} {A:Around} {ks:List Str} {ds:List D} {vs ws:List V} {va vb:List (yL×Value)} (I:L2.Inv X pins σ H s) (nd:ks.Nodup) (hn:D.nds ds=true) (hd:A.units + D.dps ds < cLine) (l1:ks.length=ds.length)
  (rs1:Reps X.K M H ds vs) (rs2:Reps X.K M H ds ws) (ra:KV (aO ks vs) va) (rb:KV (aO ks ws) vb):PySem.W.KeqHits A s vb va true:=by
 have lw:=Reps.length _ _ rs2
 have hkb:(vb.map (·.1)).Nodup:=by
  rw [← rb.keys]
  have:(aO ks ws).map (·.1)=ks.map Sum.inr:=by unfold aO;rw [List.map_fst_zip (by rw [List.length_map];omega)]
  rw [this]
  exact List.Pairwise.map _ (fun a b ne z=>ne (Sum.inr.inj z)) nd
 refine lM vb va fun j k1 v1 e1=>?_
 obtain ⟨⟨k2,v2⟩,q1,z1,z2⟩:=gG ra e1
 obtain ⟨x,rfl,kx,vx⟩:=iK q1
 simp only at z1 z2
 subst z1
 have hj:j < ds.length:=by rw [← l1];exact (List.getElem?_eq_some_iff.mp kx).1
 have ed:ds[j]?=some ds[j]:=by simp [hj]
 obtain ⟨v',ev,rv⟩:=Reps.get _ _ rs1 j _ ed
 rw [vx] at ev
 cases ev
 obtain ⟨w',ew,rw'⟩:=Reps.get _ _ rs2 j _ ed
 obtain ⟨⟨k3,y⟩,qy,y1,y2⟩:=me rb (um kx ew)
 simp only at y1 y2
 subst y1
 exact⟨y,kl hkb qy,p8 I ds[j] A v2 w' v1 y (l5 hn ed) (by have:=ms ed;omega) rv rw' z2 y2⟩
theorem ud (hu:X.A.units + 64 < cLine):yK X (compareOp .NotEq) fun x y=>aB X.K rN [x,y]:=by
 intro pins s σ H x y v u Q I rx ry h
 obtain ⟨M,ds,R,m,rs,h,k⟩:=h
 have fin:∀ b,R (.bl b)→EP X pins σ Q (.bool b) s:=fun b r=>⟨.bl b,H,I,rfl,k _ r _ H (bh.refl H) (yF.sc rfl)⟩
 replace h:=rJ h
 rcases h with ⟨_,_,rfl,h⟩ | ⟨_,_,rfl,h⟩ | ⟨_,_,rfl,h⟩ | ⟨_,_,rfl,h⟩ | ⟨_,_,rfl,h⟩
 ·exact o_ne hu pins s σ H x y v u Q I rx ry ⟨M,_,R,m,rs,h,k⟩
 ·exact o_ne hu pins s σ H x y v u Q I rx ry ⟨M,_,R,m,rs,h,k⟩
 ·exact o_ne hu pins s σ H x y v u Q I rx ry ⟨M,_,R,m,rs,h,k⟩
 ·obtain ⟨⟨e,hn,hd⟩,h⟩:=h
  subst e
  obtain ⟨h1,h2⟩:=bg rs
  unfold yF at h1 h2
  obtain ⟨a,vs,rfl,sq,rs1⟩:=h1
  obtain ⟨b,ws,rfl,sq',rs2⟩:=h2
  cases rx
  cases ry
  obtain ⟨its,r1,t1,_⟩:=I.tuple sq
  obtain ⟨its',r2,t2,_⟩:=I.tuple sq'
  have hs:its.length=its'.length:=by rw [← r1.length,← r2.length,← Reps.length _ _ rs1,← Reps.length _ _ rs2]
  refine SeqAt.RcNeAt.tuples (e:=fun _=>true) t1 t2 (by omega) (eqAt_Ds I _ X.A.in1 vs ws its its' hn (by rw [bf];omega) rs1 rs2 r1 r2) _ _ _ _ ?_
  have z:((List.range (min its.toArray.size its'.toArray.size)).all (fun _=>true) && its.toArray.size == its'.toArray.size)=true:=by simp [hs]
  rw [z]
  exact fin _ h
 ·obtain ⟨⟨e,hn,hd⟩,h⟩:=h
  subst e
  obtain ⟨h1,h2⟩:=bg rs
  unfold yF at h1 h2
  obtain ⟨a,vs,rfl,_,sq,rs1⟩:=h1
  obtain ⟨b,ws,rfl,_,sq',rs2⟩:=h2
  cases rx
  cases ry
  obtain ⟨its,r1,t1,_⟩:=I.list (yI.of sq)
  obtain ⟨its',r2,t2,_⟩:=I.list (yI.of sq')
  have hs:its.length=its'.length:=by rw [← r1.length,← r2.length,← Reps.length _ _ rs1,← Reps.length _ _ rs2]
  refine SeqAt.RcNeAt.lists (e:=fun _=>true) t1.isList t2.isList (by simp [hs]) (by omega) (eqAt_Ds I _ X.A.in1 vs ws its its' hn (by rw [bf];omega) rs1 rs2 r1 r2) _ _ _ _ ?_
  rw [cI]
  exact fin _ h
theorem v5 (hu:X.A.units + 64 < cLine):yK X (compareOp .NotEq) fun x y=>aB X.K uI [x,y]:=by
 intro pins s σ H x y v u Q I rx ry h
 obtain ⟨M,ds,R,m,rs,h,k⟩:=h
 have fin:∀ b,R (.bl b)→EP X pins σ Q (.bool b) s:=fun b r=>⟨.bl b,H,I,rfl,k _ r _ H (bh.refl H) (yF.sc rfl)⟩
 obtain ⟨ks,ds,rfl,nd,hn,hd,h⟩:=h
 obtain ⟨h1,h2⟩:=bg rs
 unfold yF at h1 h2
 obtain ⟨a,vs,rfl,_,sq,l1,rs1⟩:=h1
 obtain ⟨b,ws,rfl,_,sq',l2,rs2⟩:=h2
 cases rx
 cases ry
 obtain ⟨_,lo,va,ra,da⟩:=ki I.hok sq
 obtain ⟨_,lo',vb,rb,db⟩:=ki I.hok sq'
 have lv:=Reps.length _ _ rs1
 have lw:=Reps.length _ _ rs2
 have la:=ra.length
 have lb:=rb.length
 refine PySem.W.keq_ne (r:=true) lo lo' da db (by omega) (fun _=>po I nd hn (by rw [bf];omega) l1 rs1 rs2 ra rb) ?_
 have e3:va.length=vb.length:=by
  rw [← la,← lb]
  unfold aO
  rw [List.length_zip,List.length_zip,← lv,← lw]
 have:(va.length == vb.length)=true:=by rw [e3];simp
 rw [this]
 exact fin _ h
end
end DL
namespace DL
open PySem PySem.Spec PyProof.Rows L2
section
variable {prog:Program} {w:World} {A:Around} {E:Value→Shared→Prop} {s:Shared}
theorem fT {a:Addr} {vs:List Value} {ss:List Str} {n:Nat} {Q:Value→Shared→Prop} (ho:s.heap.get? a=some (seqObj "list" vs.toArray n)) (hS:StrsAre vs ss) (h64:vs.length < 64)
  (h:∀ (out:Array Value) (ss':List Str),StrsAre out.toList ss'→ss'.Perm ss→sortedS ss'=true→Q .none { s with heap:=sortedHeap s.heap a vs out }) :
  wpAny (model prog w) A (call (.builtin "list.sort") [.ref a]) Q E s:=by
 refine wpAny_call_entry slot_list_sort ⟨_,ho,rfl⟩ entry_list_sort (list_sort_treeK strKind_oneLt ho hS.keysOf (fun v₁ v₂ bW e=>keyKind_strs (by rw [← e];exact hS)) h64 fun st' hp hs=>?_) (args_list_sort _)
 obtain ⟨ss',h1,h2,h3⟩:=sorted_out_str hS hp hs
 exact⟨_,rfl,h _ ss' h1 h2 h3⟩
end
abbrev Srt (ss:List Str):Prop:=sortedS ss=true
def et:List D→(D→Prop)→Prop
 | [.lst ds],R=>∃ ss:List Str,ds=ss.map D.str∧ss.length < 64∧∀ ss',ss'.Perm ss→Srt ss'→R (.lst (ss'.map D.str))
 | [.dct ks _],R=>ks.length < 64∧∀ ss',ss'.Perm ks→Srt ss'→R (.lst (ss'.map D.str))
 | [.fd ks _],R=>ks.length < 64∧∀ ss',ss'.Perm ks→Srt ss'→R (.lst (ss'.map D.str))
 | _,_=>False
theorem jY:∀ {d0:List D} {R:D→Prop},et d0 R→((∃ (ds:List D),d0=[.lst ds]∧∃ ss:List Str,ds=ss.map D.str∧ss.length < 64∧∀ ss',ss'.Perm ss→Srt ss'→R (.lst (ss'.map D.str)))∨(∃ (ks:List Str) (z1:List D),d0=[.dct ks z1]∧ks.length < 64∧∀ ss',ss'.Perm ks→Srt ss'→R (.lst (ss'.map D.str)))∨(∃ (ks:List Str) (z1:List D),d0=[.fd ks z1]∧ks.length < 64∧∀ ss',ss'.Perm ks→Srt ss'→R (.lst (ss'.map D.str)))):=by walk_at "or"
theorem jb {ds:List D} {R:D→Prop}:et [.lst ds] R=(∃ ss:List Str,ds=ss.map D.str∧ss.length < 64∧∀ ss',ss'.Perm ss→Srt ss'→R (.lst (ss'.map D.str))):=rfl
theorem kA {ks:List Str} {ds:List D} {R:D→Prop}:et [.fd ks ds] R=(ks.length < 64∧∀ ss',ss'.Perm ks→Srt ss'→R (.lst (ss'.map D.str))):=rfl
theorem iX {ks:List Str} {ds:List D} {R:D→Prop}:et [.dct ks ds] R=(ks.length < 64∧∀ ss',ss'.Perm ks→Srt ss'→R (.lst (ss'.map D.str))):=rfl
def rg:List D→(D→Prop)→Prop
 | [.dct ks ds],R=>R (.dct ks ds)
 | _,_=>False
theorem oJ:∀ {d0:List D} {R:D→Prop},rg d0 R→∃ (ks:List Str) (ds:List D),d0=[.dct ks ds]∧R (.dct ks ds):=by walk_at "or"
theorem k8 {ks:List Str} {ds:List D} {R:D→Prop}:rg [.dct ks ds] R=(R (.dct ks ds)):=rfl
theorem d8 {P:Program} {w:World}:∀ {ks:List Str} {us:List Value},ks.length=us.length→(∀ (j:Nat) v k,us[j]?=some v→ks[j]?=some k→(aL P w).is (Sum.inr k) v=true)→StrsAre us ks
 | [],[],_,_=>.nil
 | [],_ :: _,l,_=>by cases l
 | _ :: _,[],l,_=>by cases l
 | k :: ks,u :: us,l,h=>by
  have h0:=h 0 u k rfl rfl
  obtain ⟨t,rfl⟩:∃ t,u=Value.str k t:=by
   have:iN (Sum.inr k) u=true:=h0
   rcases aD this with ⟨i,t,e,_⟩ | ⟨x,t,e,e2⟩
   ·cases e
   ·cases e;exact⟨t,e2⟩
  exact .cons _ _ (d8 (Nat.succ.inj l) fun j v k' e1 e2=>h (j + 1) v k' (by simpa using e1) (by simpa using e2))
section
variable {X:Cx}
theorem f6 (hc:X.calm=true):bI X (.builtin "sorted") (aB X.K et):=by
 intro pins s σ H xs us Q I rv h
 obtain ⟨M,ds,R,m,rs,h,k⟩:=h
 replace h:=jY h
 rcases h with ⟨_,rfl,h⟩ | ⟨_,_,rfl,h⟩ | ⟨_,_,rfl,h⟩
 ·obtain ⟨ss,rfl,h64,h⟩:=h
  obtain ⟨x,rfl,q⟩:=a7 rs
  unfold yF at q
  obtain ⟨a,vs,rfl,_,e,r⟩:=q
  obtain ⟨u,rfl,ru⟩:=fK rv
  cases ru
  cases b9 r
  obtain ⟨its,rv2,pl,_⟩:=I.list (yI.of e)
  have hs:=bR rv2
  have hl:its.length=ss.length:=by rw [← rv2.length,List.length_map]
  refine sorted_strs pl.isList hs (by omega) fun out ss' h1 h2 h3=>?_
  obtain ⟨ep,he⟩:=sortedAll_at s.heap its out
  have hz:(ss'.map V.str).length≤sizeLine:=by rw [List.length_map,h2.length_eq];exact bV (by omega)
  have I2:L2.Inv X pins σ (yV H (s.heap.objs.size + 1) (.lst (ss'.map V.str))) { s with heap:=sortedAll s.heap its out } :=
   I.laid (t':=s.toks) (fun b o=>sortedAll_old) (Nat.le_succ _) (show bd X.prog X.w _ _ _ (.lst (ss'.map V.str)) from ⟨hz,out.toList,ep,bq h1,he⟩)
  have fr:H (s.heap.objs.size + 1)=none:=I.hok.fresh (Nat.le_succ _)
  refine⟨.ref _,_,I2,rfl,k _ (h ss' h2 h3) _ _ (ap fr _) ?_⟩
  unfold yF
  exact⟨_,_,rfl,fun z=>m _ z fr,al,bj ss'⟩
 ·obtain ⟨h64,h⟩:=h
  rename_i ks ds
  obtain ⟨x,rfl,q⟩:=a7 rs
  unfold yF at q
  obtain ⟨a,vs,rfl,_,e,l,r⟩:=q
  obtain ⟨u,rfl,ru⟩:=fK rv
  cases ru
  obtain ⟨hz,lo,va,ra,da⟩:=ki I.hok e
  obtain ⟨ep,hat⟩:=da.dictAt
  have lv:=Reps.length _ _ r
  have hlen:va.length=ks.length:=by
   rw [← ra.length]
   unfold aO
   rw [List.length_zip,List.length_map];omega
  refine Calls.call_function_entry kind_sorted plain_sorted entry_sorted (args_sorted1 _) ?_
  unfold Builtin.«sorted»
  refine wpAny_bind (m:=checkCount "sorted" 1 1 _) (wpAny_pure ?_)
  refine wpAny_bind (PySem.W.kdu_collect (A:=X.A.in1) (PySem.W.kdl_dict (knd:=aL X.prog X.w) (kvs:=va) (ep:=ep) lo) (I.ok.hd hc) hat (by rw [hlen];exact bV (by omega)) fun h' tk acc hk hacc=>?_)
  have hl:acc.toList.length=ks.length:=by rw [Array.length_toList,← hlen];exact hacc.1
  have hS:StrsAre acc.toList ks:=d8 hl.symm fun j v k' e1 e2=>by
   obtain ⟨k2,x2,h1,h2⟩:=hacc.2 j v (by rw [← Array.getElem?_toList];exact e1)
   obtain ⟨⟨k3,v3⟩,q1,z1,_⟩:=gG ra h1
   obtain ⟨x,rfl,kx,_⟩:=iK q1
   simp only at z1
   rw [kx] at e2
   cases e2
   rw [z1]
   exact h2
  refine wpAny_bind (wpAny_newList ?_ (by rw [hl];exact bV (by omega)))
  have hoL:(h'.push { cls:=.type "list",data:=.seq acc.toList.toArray }).get? h'.objs.size=some (seqObj "list" acc.toList.toArray 0):=Heap.get?_push_size _ rfl
  refine wpAny_bind (wpAny_holding (fT hoL hS (by omega) fun out ss' h1 h2 h3=>?_))
  refine wpAny_pure ⟨_,rfl,?_⟩
  obtain ⟨ep2,he⟩:=sortedHeap_at (out:=out) hoL
  have I1:L2.Inv X pins σ H { s with heap:=h',toks:=tk }:=I.kept (t':=tk) hk
  have kp:∀ b o,h'.get? b=some o→(sortedHeap (h'.push { cls:=.type "list",data:=.seq acc.toList.toArray }) h'.objs.size acc.toList out).get? b=some o:=fun b o e=>by
   have hb:=Heap.lt_size e
   rw [sortedHeap_old (Nat.ne_of_lt hb) (by rw [Heap.size_push];exact Nat.lt_succ_of_lt hb)]
   exact Heap.get?_push_of_some _ e
  have hz2:(ss'.map V.str).length≤sizeLine:=by rw [List.length_map,h2.length_eq];exact bV (by omega)
  have I2:L2.Inv X pins σ (yV H h'.objs.size (.lst (ss'.map V.str))) { s with heap:=sortedHeap (h'.push { cls:=.type "list",data:=.seq acc.toList.toArray }) h'.objs.size acc.toList out,toks:=tk } :=
   I1.laid (t':=tk) kp (Nat.le_refl _) (show bd X.prog X.w _ _ _ (.lst (ss'.map V.str)) from ⟨hz2,out.toList,ep2,bq h1,he⟩)
  have fr:H h'.objs.size=none:=I1.hok.fresh (Nat.le_refl _)
  refine⟨.ref _,_,I2,rfl,k _ (h ss' h2 h3) _ _ (ap fr _) ?_⟩
  unfold yF
  exact⟨_,_,rfl,fun z=>m _ z fr,al,bj ss'⟩
 ·obtain ⟨h64,h⟩:=h
  rename_i ks ds
  obtain ⟨x,rfl,q⟩:=a7 rs
  unfold yF at q
  obtain ⟨a,vs,o9,rfl,e,l,r⟩:=q
  obtain ⟨u,rfl,ru⟩:=fK rv
  cases ru
  obtain ⟨hz,lo,va,ra,da⟩:=kd I.hok (.inr ⟨o9,e⟩)
  obtain ⟨ep,hat⟩:=da.dictAt
  have lv:=Reps.length _ _ r
  have hlen:va.length=ks.length:=by
   rw [← ra.length]
   unfold aO
   rw [List.length_zip,List.length_map];omega
  refine Calls.call_function_entry kind_sorted plain_sorted entry_sorted (args_sorted1 _) ?_
  unfold Builtin.«sorted»
  refine wpAny_bind (m:=checkCount "sorted" 1 1 _) (wpAny_pure ?_)
  refine wpAny_bind (PySem.W.kdu_collect (A:=X.A.in1) (PySem.W.kdl_dict (knd:=aL X.prog X.w) (kvs:=va) (ep:=ep) lo) (I.ok.hd hc) hat (by rw [hlen];exact bV (by omega)) fun h' tk acc hk hacc=>?_)
  have hl:acc.toList.length=ks.length:=by rw [Array.length_toList,← hlen];exact hacc.1
  have hS:StrsAre acc.toList ks:=d8 hl.symm fun j v k' e1 e2=>by
   obtain ⟨k2,x2,h1,h2⟩:=hacc.2 j v (by rw [← Array.getElem?_toList];exact e1)
   obtain ⟨⟨k3,v3⟩,q1,z1,_⟩:=gG ra h1
   obtain ⟨x,rfl,kx,_⟩:=iK q1
   simp only at z1
   rw [kx] at e2
   cases e2
   rw [z1]
   exact h2
  refine wpAny_bind (wpAny_newList ?_ (by rw [hl];exact bV (by omega)))
  have hoL:(h'.push { cls:=.type "list",data:=.seq acc.toList.toArray }).get? h'.objs.size=some (seqObj "list" acc.toList.toArray 0):=Heap.get?_push_size _ rfl
  refine wpAny_bind (wpAny_holding (fT hoL hS (by omega) fun out ss' h1 h2 h3=>?_))
  refine wpAny_pure ⟨_,rfl,?_⟩
  obtain ⟨ep2,he⟩:=sortedHeap_at (out:=out) hoL
  have I1:L2.Inv X pins σ H { s with heap:=h',toks:=tk }:=I.kept (t':=tk) hk
  have kp:∀ b o,h'.get? b=some o→(sortedHeap (h'.push { cls:=.type "list",data:=.seq acc.toList.toArray }) h'.objs.size acc.toList out).get? b=some o:=fun b o e=>by
   have hb:=Heap.lt_size e
   rw [sortedHeap_old (Nat.ne_of_lt hb) (by rw [Heap.size_push];exact Nat.lt_succ_of_lt hb)]
   exact Heap.get?_push_of_some _ e
  have hz2:(ss'.map V.str).length≤sizeLine:=by rw [List.length_map,h2.length_eq];exact bV (by omega)
  have I2:L2.Inv X pins σ (yV H h'.objs.size (.lst (ss'.map V.str))) { s with heap:=sortedHeap (h'.push { cls:=.type "list",data:=.seq acc.toList.toArray }) h'.objs.size acc.toList out,toks:=tk } :=
   I1.laid (t':=tk) kp (Nat.le_refl _) (show bd X.prog X.w _ _ _ (.lst (ss'.map V.str)) from ⟨hz2,out.toList,ep2,bq h1,he⟩)
  have fr:H h'.objs.size=none:=I1.hok.fresh (Nat.le_refl _)
  refine⟨.ref _,_,I2,rfl,k _ (h ss' h2 h3) _ _ (ap fr _) ?_⟩
  unfold yF
  exact⟨_,_,rfl,fun z=>m _ z fr,al,bj ss'⟩
theorem wR:bI X (.type "dict") (aB X.K rg):=by
 intro pins s σ H xs us Q I rv h
 obtain ⟨M,ds,R,m,rs,h,k⟩:=h
 replace h:=oJ h
 obtain ⟨ks,ds,rfl,h⟩:=h
 ·skip
  obtain ⟨x,rfl,q⟩:=a7 rs
  unfold yF at q
  obtain ⟨a,vs,rfl,_,e,l,r⟩:=q
  obtain ⟨u,rfl,ru⟩:=fK rv
  cases ru
  obtain ⟨hz,lo,va,ra,da⟩:=ki I.hok e
  have fr:H s.heap.objs.size=none:=I.hok.fresh (Nat.le_refl _)
  refine kt_call_dict lo da (by rw [← ra.length];exact hz) fun h' dd sb=>?_
  have kp:∀ b o,s.heap.get? b=some o→h'.get? b=some o:=fun b o e=>sb.extBut b o (Nat.ne_of_lt (Heap.lt_size e)) (Heap.get?_push_of_some _ e)
  have lo2:(s.heap.objs.size == sysModules)=false:=beq_eq_false_iff_ne.mpr (Nat.ne_of_gt I.big)
  have I2:L2.Inv X pins σ (yV H s.heap.objs.size (.dK (aO ks vs))) { s with heap:=h' }:=I.laid (t':=s.toks) kp (Nat.le_refl _) (lB hz lo2 ra dd)
  refine⟨.ref _,_,I2,rfl,k _ h _ _ (ap fr _) ?_⟩
  unfold yF
  exact⟨_,vs,rfl,fun z=>m _ z fr,al,l,Reps.kp (Kp.of_same (ap fr _)) _ _ r⟩
variable {a b e:Expr} {ta tb:yM} {pos:Pos}
theorem fZ (hu:X.A.units + 64 < cLine) (ha:DE X a ta) (hb:DE X b tb) (hs:NoSl b):DE X (.Subscript a b pos) (dOp oF ta tb) :=
 PE.imp (sj (by omega) ha hb hs) fun σ H Q ⟨G,δ,P,R,s,h,k,_⟩=>up.mk s h fun x δ1 h1 v H1 s1=>up.mk s1 h1 fun y δ2 h2 u H2 s2=>by
  replace h2:=nD h2
  rcases h2 with ⟨ks,ds,z,eq,h2⟩ | ⟨ks,ds,z,eq,h2⟩
  ·skip
   cases eq
   obtain ⟨d,ed,r⟩:=h2
   obtain ⟨A,q⟩:=id s2
   have p1:=q.pnd (.dct ks ds,v) (by simp)
   have p2:u=.str z:=aW (q.pnd (.str z,u) (by simp))
   unfold yF at p1
   obtain ⟨a,vs,rfl,_,he,l,rs⟩:=p1
   obtain ⟨w',hw,rw'⟩:=(Reps.dAt z ks ds vs rs).1 d ed
   refine⟨a,w',rfl,?_,k d δ2 r w' H2 ⟨A,(q.sub (P':=P) fun p hp=>by simp [hp]).push rw'⟩⟩
   have g:=mn.k (k:=Sum.inr z) he
   rw [d5,hw] at g
   rw [p2]
   exact g
  ·skip
   cases eq
   obtain ⟨d,ed,r⟩:=h2
   obtain ⟨A,q⟩:=id s2
   have p1:=q.pnd (.fd ks ds,v) (by simp)
   have p2:u=.str z:=aW (q.pnd (.str z,u) (by simp))
   unfold yF at p1
   obtain ⟨a,vs,o,rfl,he,l,rs⟩:=p1
   obtain ⟨w',hw,rw'⟩:=(Reps.dAt z ks ds vs rs).1 d ed
   refine⟨a,w',rfl,?_,k d δ2 r w' H2 ⟨A,(q.sub (P':=P) fun p hp=>by simp [hp]).push rw'⟩⟩
   have g:mn H2 a (kV (Sum.inr z)) (jV (aO ks vs) (Sum.inr z)):=.inl ⟨_,_,.inr ⟨o,he⟩,rfl,rfl⟩
   rw [d5,hw] at g
   rw [p2]
   exact g
def uD (i:Nat) (tv tk:yM) (R:ax) (δ:En):Prop:=tv δ (wd fun x δ1=>qW δ1[i]? fun a _=>tk δ1 (wd fun z δ2=>qWDe δ2[i]? fun ks ds=>qX z fun y=>ks.length < 9000∧fJ δ2 i (.own a (.dct (gH ks y) (iA ks ds y x))) R.nx))
theorem gm (i:Nat) {y:Str} {p pos':Pos} (hu:X.A.units + 64 < cLine) (he:DE X e ta) (hb:DE X b tb) (hN:X.N[i]?=some y:=by rfl) (hv:Vis X.env.scope y:=by walk_at "v3")
  (hd:(y == ("__debug__":Str))=false:=by decide) (hcd:(y == ("__classdict__":Str))=false:=by decide) (hs:swapsWith e (some (.Subscript (.Name y p) b pos')) pos.line X.env=pure false:=by rfl) :
  DS X (.Assign [.Subscript (.Name y p) b pos'] e pos) (uD i ta tb) :=
 PS.imp (rT (by omega) (aQ hN hv hd hcd) hb he hs) fun E σ H ⟨G,δ,P,R,s,h,k,_⟩=>up.mk s h fun x δ1 h1 v H1 s1=>let ⟨a,ds0,hi0,h1⟩:=qW.ex h1;⟨.ref a,s1.own hi0,up.mk s1 h1 fun z δ2 h2 u H2 ⟨A,q⟩=>by
  replace h2:=qWDe.ex q (s1.own hi0) h2
  obtain ⟨ks,ds,hi,h2⟩:=h2
  replace h2:=qX.ex h2
  obtain ⟨y,ez,hz,r⟩:=h2
  subst ez
  obtain ⟨_,aa,vs,hvs,l,rs⟩:=q.own i a _ hi
  have lv:=Reps.length _ _ rs
  have p2:u=.str y:=aW (q.pnd (.str y,u) (by simp))
  have hlen:(aO ks vs).length < sizeLine:=by
   unfold aO
   rw [List.length_zip,List.length_map]
   exact f7 (by omega)
  have g:=DPut.k (k:=Sum.inr y) (v:=v) hvs hlen
  rw [tX y v (by omega)] at g
  refine⟨a,_,rfl,by rw [p2];exact g,k _ r _ _ ⟨A,(q.change (d':=.dct (gH ks y) (iA ks ds y x)) hi (fun b o n e=>by rw [ar n];exact e) ⟨iA ks vs y v,al,qP l,?_⟩).sub (P':=P) fun q hq=>List.mem_cons_of_mem _ (List.mem_cons_of_mem _ hq)⟩⟩
  have kp:Kp (fun b=>G.M0 b∨A b) H2 (yV H2 a (.dK (aO (gH ks y) (iA ks vs y v)))):=by
   have hk:∀ b o,b≠a→H2 b=some o→yV H2 a (.dK (aO (gH ks y) (iA ks vs y v))) b=some o:=fun b o n e=>by rw [ar n];exact e
   exact⟨fun b o e n=>hk b o (fun z=>n (.inr (by rw [z];exact aa))) e,fun b xs e=>hk b _ (fun z=>by rw [z,hvs] at e;cases e) e,fun b o u e=>hk b _ (fun z=>by rw [z,hvs] at e;cases e) e⟩
  exact Reps.kp kp _ _ (Reps.put y rs (q.pnd (x,v) (by simp)))⟩
def v4 (R:ax) (δ:En):Prop:=R.rt .non δ
theorem rB {pos:Pos}:DS X (.Return none pos) v4:=PS.imp sF fun E σ H ⟨G,δ,P,R,s,h,_,k,_⟩=>k.1 .non δ h .non σ H (s.sc rfl)
def Its (x:Str):It:=⟨fun i _=>i < x.cps.size,fun i H v H'=>H'=H∧∃ c,x.cps[i]?=some c∧v=.str ⟨#[c]⟩,fun i _=>x.cps.size≤i⟩
theorem jA {P:Program} {w:World} {K:PySem.W.Frag} {tg:Expr} (it:Addr) (x:Str) (t:Tok) (ty:String) (hty:ty="str_ascii_iterator"∨ty="str_iterator"):Turn P w K tg (Its x) [it] it (fun i h=>h.IsStrIter it ty x t i) where
 mem:=by simp
 obj:=fun i h st b hb=>by
  have e:b=it:=by simpa using hb
  subst e
  obtain ⟨o,e,c,d⟩:=st
  exact⟨o,e,fun v z=>by rw [d] at z;cases z⟩
 keep:=fun i h h' st k=>let ⟨o,ho,r⟩:=st;⟨o,k it (by simp) o ho,r⟩
 item:=by
  intro X hP hw hK hc i pins s σ H E I hf st hg
  subst hP hw hK
  have hg:i < x.cps.size:=hg
  obtain ⟨f0,f1,f2,f3,f4,f5⟩:=hf it (by simp)
  have fin:∀ h',h'.IsStrIter it ty x t (i + 1)→Heap.SameBut it s.heap h'→∃ u,some (Value.str ⟨#[x.cps[i]]⟩ s.toks)=some u∧wpAny (model X.prog X.w) X.A (letOwnedTupleGo tg (.ref it) u) (fun _ s2=>∃ x' H',L2.Inv X pins σ H' s2∧aN x' u∧(Its x).yld i H x' H'∧s2.heap.IsStrIter it ty x t (i + 1)∧∀ b∈[it],H' b=none) E { s with heap:=h',toks:=s.toks + 1 }:=fun h' st' sb=>by
   have I1:L2.Inv X pins σ H { s with heap:=h',toks:=s.toks + 1 }:=I.turned (t':=s.toks + 1) (fun b o hb e=>(sb.2 b hb).trans e) f0 f1 f3 f4 f5
   obtain ⟨o,e,c,d⟩:=id st'
   refine⟨_,rfl,nE (s:={ s with heap:=h',toks:=s.toks + 1 }) e c d (by rcases hty with rfl | rfl<;>decide) ⟨.str ⟨#[x.cps[i]]⟩,H,I1,⟨_,rfl⟩,⟨rfl,x.cps[i],by simp [hg],rfl⟩,st',fun b hb=>(hf b hb).1⟩⟩
  rcases hty with rfl | rfl
  ·exact wpAny_pyNext_ascii_item st (c:=x.cps[i]) (by simp [hg]) fun h' st' sb=>fin h' st' sb
  ·exact wpAny_pyNext_wide_item st (c:=x.cps[i]) (by simp [hg]) fun h' st' sb=>fin h' st' sb
 done:=by
  intro X hP hw hK hc i pins s σ H E I hf st hg
  subst hP hw hK
  have hg:x.cps.size≤i:=hg
  obtain ⟨f0,f1,f2,f3,f4,f5⟩:=hf it (by simp)
  rcases hty with rfl | rfl
  ·exact wpAny_pyNext_ascii_end (I.ok.hd hc) st (by simp;omega) fun h' eb=>⟨rfl,I.turned (t':=s.toks) (fun b o hb e=>eb b o hb e) f0 f1 f3 f4 f5⟩
  ·exact wpAny_pyNext_wide_end (I.ok.hd hc) st (by simp;omega) fun h' eb=>⟨rfl,I.turned (t':=s.toks) (fun b o hb e=>eb b o hb e) f0 f1 f3 f4 f5⟩
 self:=fun _ _ _ _ _ st h=>by
  rcases hty with rfl | rfl
  ·exact wpAny_pyIter_striter_ascii st h
  ·exact wpAny_pyIter_striter_wide st h
def iStr (tl:TE):TI:=fun σ H R=>tl σ H fun v H1=>∃ x,v=.str x∧R (Its x) H1
theorem u5 {tg l:Expr} {tl:TE} (hl:PE X l tl):PI X tg l (iStr tl):=by
 intro pins s σ H R I h
 refine yT (hl pins s σ H _ I h) fun v s1 ⟨y,H1,I1,r1,q1⟩=>?_
 obtain ⟨x,e,q⟩:=q1
 subst e
 obtain ⟨t,rfl⟩:=r1
 have fp:∀ b∈[s1.heap.objs.size],o7 X pins H1 b:=fun b hb=>by
  have e:b=s1.heap.objs.size:=by simpa using hb
  subst e
  exact I1.fpOk (Nat.le_refl _) (I1.hok.fresh (Nat.le_refl _))
 cases ha:x.cps.all (· < 128)
 ·exact wpAny_pyIter_wide ha ⟨s1.heap.objs.size,[s1.heap.objs.size],_,_,H1,rfl,I1.kept (t':=s1.toks) fun b o e=>Heap.get?_push_of_some _ e,jA _ x t _ (.inr rfl),⟨_,Heap.get?_push_size _ rfl,rfl,rfl⟩,fp,q⟩
 ·exact wpAny_pyIter_ascii ha ⟨s1.heap.objs.size,[s1.heap.objs.size],_,_,H1,rfl,I1.kept (t':=s1.toks) fun b o e=>Heap.get?_push_of_some _ e,jA _ x t _ (.inl rfl),⟨_,Heap.get?_push_size _ rfl,rfl,rfl⟩,fp,q⟩
def lV (x:Str):List D:=x.cps.toList.map fun c=>D.str ⟨#[c]⟩
def uq (t:yM) (δ:En) (R:List D→En→Prop):Prop:=t δ (wd fun d δ1=>qX d fun x=>R (lV x) δ1)
theorem uS {tg:Expr} (h:DE X e ta):CI X tg e (uq ta):=⟨_,u5 h,fun G δ P σ H R Q s hs k=>up.mk s hs fun d δ1 h1 v H1 s1=>by
 replace h1:=qX.ex h1
 obtain ⟨x,rfl,r⟩:=h1
 obtain ⟨A1,x1⟩:=id s1
 cases aW (x1.pnd (.str x,v) (by simp))
 have hl:(lV x).length=x.cps.size:=by unfold lV;rw [List.length_map,Array.length_toList]
 refine⟨x,rfl,k _ δ1 r _ _ H1 (fun q hq=>by simp [hq]) s1 (fun A δ σ i H _ hi=>?_) (fun A δ σ H _=>?_) fun A δ σ i y H H2 _ hi hy=>?_⟩
 ·show i < x.cps.size;omega
 ·show x.cps.size≤_;omega
 ·obtain ⟨e,c,hc,rfl⟩:=hy
  subst e
  refine⟨bh.refl _,.str ⟨#[c]⟩,?_,by unfold yF;rfl⟩
  unfold lV
  rw [List.getElem?_map,Array.getElem?_toList,hc]
  rfl⟩
def dPop (i j:Nat) (R:ax) (δ:En):Prop:=∃ a ds y,δ[i]?=some (.own a (.lst (ds++[y])))∧fJ δ i (.own a (.lst ds)) fun δ1=>fJ δ1 j (.dat y) R.nx
theorem kU (i j:Nat) {x y:Str} {p apos cpos pos':Pos} (hN:X.N.Nodup) (hi:X.N[i]?=some y:=by rfl) (hj:X.N[j]?=some x:=by rfl) (hx:Loc X.env.scope x:=by walk_at "v2") (hv:Vis X.env.scope y:=by walk_at "v3")
  (hd:(y == ("__debug__":Str))=false:=by decide) (hcd:(y == ("__classdict__":Str))=false:=by decide)
  (hbase:attributeBase (.Name y p) "pop" X.env (eval (.Name y p) X.env)=eval (.Name y p) X.env:=by rfl) (hline:(apos.endLine == cpos.line)=true:=by rfl)
  (hsw:swapsWith (.Call (.Attribute (.Name y p) "pop" apos) [] [] cpos) (some (.Name x pos')) pos.line X.env=pure false:=by rfl)
  (hf:X.fn x=true∨X.env.scope.names.lookup x=some .local :=by walk_at "v1") :
  DS X (.Assign [.Name x pos'] (.Call (.Attribute (.Name y p) "pop" apos) [] [] cpos) pos) (dPop i j) :=
 PS.imp (dI hN hj hx (ul PySem.F.plainAttrs_list PySem.F.slot_list_pop PySem.F.type_list_pop uK (aQ hi hv hd hcd) hbase hline) hsw hf) fun E σ H ⟨G,δ,P,R,⟨A,q⟩,⟨a,ds,y,e,r⟩,k,_⟩=>by
  obtain ⟨h1,aa,vs,hvs,rs⟩:=cF q e
  have hl:=Reps.length _ _ rs
  rw [List.length_append,List.length_singleton] at hl
  obtain ⟨v,ev,rv⟩:=Reps.get _ _ rs ds.length y (by simp)
  have e1:vs.length - 1=ds.length:=by omega
  refine⟨.ref a,h1,.inl ⟨rfl,vs,yI.of hvs⟩,a,vs,v,rfl,rfl,hvs,by rw [e1];exact ev,k _ r _ _ ?_⟩
  have rt:=Reps.take ds.length _ _ rs
  rw [List.take_left] at rt
  have e2:vs.take ds.length=vs.dropLast:=by rw [List.dropLast_eq_take,e1]
  rw [e2] at rt
  have hk:∀ b o,b≠a→H b=some o→yV H a (.lst vs.dropLast) b=some o:=fun b o n e=>by rw [ar n];exact e
  have kp:Kp (fun b=>G.M0 b∨A b) H (yV H a (.lst vs.dropLast)) :=
   ⟨fun b o e n=>hk b o (fun z=>n (.inr (by rw [z];exact aa))) e,fun b xs e=>hk b _ (fun z=>by rw [z,hvs] at e;cases e) e,fun b o u e=>hk b _ (fun z=>by rw [z,hvs] at e;cases e) e⟩
  have q1:=(q.change (d':=.lst ds) e hk ⟨vs.dropLast,al,Reps.kp kp _ _ rt⟩).push (yF.kp kp _ _ rv)
  exact⟨A,q1.set (P':=P) (by simp) fun p hp=>by simp [hp]⟩
end
end DL
namespace DL
open PySem PySem.Spec PyProof.Rows L2
section
variable {prog:Program} {w:World} {A:Around} {E:Value→Shared→Prop}
end
section
variable {X:Cx} {pos:Pos}
def uQ (n:Nat) (t:tW) (d:D) (δ:En) (R:En→Prop):Prop:=qL d fun xs=>nr xs n (t xs δ R)
end
end DL
namespace DL
open PySem PySem.Spec PyProof.Rows L2
section
variable {X:Cx} {b:Expr} {tb:yM} {pos p:Pos}
end
end DL
namespace DL
open PySem PySem.Spec PyProof.Rows L2
end DL
namespace Mf
def gc (a b:Int):Int:=(Int.gcd a b:Nat)
theorem lq (a b:Int):gc b (a.fmod b)=gc a b:=by
 unfold gc
 rw [Int.fmod_def,Int.gcd_sub_mul_left_right,Int.gcd_comm]
theorem cz (a b:Int) (hb:b≠0):(a.fmod b).natAbs < b.natAbs:=by
 rcases Int.lt_or_gt_of_ne hb with h | h
 ·have e:a.fmod b=-((-a).fmod (-b)):=by
   have h1:(-a).fdiv (-b)=a.fdiv b:=Int.neg_fdiv_neg a b
   rw [Int.fmod_def,Int.fmod_def,h1,Int.neg_mul]
   omega
  have h1:=Int.fmod_nonneg_of_pos (-a) (b:=-b) (by omega)
  have h2:=Int.fmod_lt_of_pos (-a) (b:=-b) (by omega)
  rw [e]
  omega
 ·have h1:=Int.fmod_nonneg_of_pos a h
  have h2:=Int.fmod_lt_of_pos a h
  omega
theorem nq (a:Int):gc a 0=if a < 0 then -a else a:=by
 unfold gc
 rw [Int.gcd_zero_right]
 split<;>omega
theorem ls (a:Int) {b:Int} (h:b≠0):0 < gc a b:=by
 unfold gc
 have:=Int.gcd_pos_of_ne_zero_right a h
 omega
theorem eh (a b:Int):gc a b ∣ a:=Int.gcd_dvd_left a b
theorem dJ (a b:Int):gc a b ∣ b:=Int.gcd_dvd_right a b
theorem jd (a:Int) {b:Int} (h:b≠0):(gc a b).natAbs≤b.natAbs:=by
 unfold gc
 have:=Int.gcd_le_natAbs_right a h
 omega
structure Low (p q:Int):Prop where
 pos:0 < q
 cop:gc p q=1
def dv (t b:Int):Int:=if b < 0 then -(gc t b) else gc t b
def mkT (t b:Int):Int:=t.fdiv (dv t b)
def mkB (t b:Int):Int:=b.fdiv (dv t b)
theorem vV (t:Int) {b:Int} (h:b≠0):dv t b≠0:=by
 have:=ls t h
 unfold dv
 split<;>omega
theorem iU (t b:Int):dv t b ∣ t:=by
 unfold dv
 split
 ·exact (Int.neg_dvd).mpr (eh t b)
 ·exact eh t b
theorem gM (t b:Int):dv t b ∣ b:=by
 unfold dv
 split
 ·exact (Int.neg_dvd).mpr (dJ t b)
 ·exact dJ t b
theorem rj (t b:Int):mkT t b * dv t b=t:=Int.fdiv_mul_cancel (iU t b)
theorem rV (t b:Int):mkB t b * dv t b=b:=Int.fdiv_mul_cancel (gM t b)
theorem iz (t b:Int):(dv t b).natAbs=Int.gcd t b:=by
 unfold dv gc
 split<;>omega
theorem wt (t:Int) {b:Int} (h:b≠0):Low (mkT t b) (mkB t b):=by
 have e1:=rj t b
 have e2:=rV t b
 have hd:=vV t h
 constructor
 ·unfold dv at e2 hd
  have gp:=ls t h
  by_cases hb:b < 0
  ·rw [if_pos hb] at e2
   have:mkB t b * gc t b=-b:=by rw [Int.mul_neg] at e2;omega
   exact Int.pos_of_mul_pos_left (by omega) gp |> fun z=>z
  ·rw [if_neg hb] at e2
   exact Int.pos_of_mul_pos_left (by omega) gp |> fun z=>z
 ·have g:Int.gcd (mkT t b * dv t b) (mkB t b * dv t b)=Int.gcd (mkT t b) (mkB t b) * (dv t b).natAbs:=Int.gcd_mul_right _ _ _
  rw [e1,e2,iz] at g
  have gp:=Int.gcd_pos_of_ne_zero_right t h
  unfold gc
  have:Int.gcd (mkT t b) (mkB t b)=1:=by
   have g2:1 * Int.gcd t b=Int.gcd (mkT t b) (mkB t b) * Int.gcd t b:=by rw [Nat.one_mul];exact g
   exact (Nat.eq_of_mul_eq_mul_right gp g2).symm
  omega
end Mf
namespace Mf
open PySem L2 DL
def yH (q:Str→Int):List Str→Int
 | []=>1
 | n :: r=>q n * yH q r
theorem km (q:Str→Int) (l r:List Str):yH q (l++r)=yH q l * yH q r:=by
 induction l with
 | nil=>show yH q r=1 * yH q r;rw [Int.one_mul]
 | cons x l ih=>show q x * yH q (l++r)=q x * yH q l * yH q r;rw [ih,Int.mul_assoc]
theorem rA (q:Str→Int) (n:Str):yH q [n]=q n:=by show q n * 1=q n;rw [Int.mul_one]
theorem gi {q:Str→Int}:∀ {l:List Str},(∀ n∈l,0 < q n)→0 < yH q l
 | [],_=>(by decide:(0:Int) < 1)
 | n :: r,h=>Int.mul_pos (h n (List.mem_cons_self ..)) (gi fun m hm=>h m (List.mem_cons_of_mem _ hm))
theorem lH {q:Str→Int}:∀ {l:List Str} {n:Str},n∈l→q n ∣ yH q l
 | x :: r,n,h=>by
  rcases List.mem_cons.mp h with rfl | h
  ·exact Int.dvd_mul_right _ _
  ·exact Int.dvd_trans (lH h) (Int.dvd_mul_left _ _)
theorem nG {q:Str→Int} {l r:List Str} (h:l.Perm r):yH q l=yH q r:=by
 induction h with
 | nil=>rfl
 | cons x _ ih=>show q x * _=q x * _;rw [ih]
 | swap x y l=>show q y * (q x * yH q l)=q x * (q y * yH q l);rw [← Int.mul_assoc,← Int.mul_assoc,Int.mul_comm (q y)]
 | trans _ _ h1 h2=>rw [h1,h2]
def jL (f:Str→Int):List (Str×Int)→Int
 | []=>0
 | t :: r=>t.2 * f t.1 + jL f r
theorem jh (f:Str→Int) (l r:List (Str×Int)):jL f (l++r)=jL f l + jL f r:=by
 induction l with
 | nil=>show jL f r=0 + jL f r;rw [Int.zero_add]
 | cons x l ih=>show x.2 * f x.1 + jL f (l++r)=x.2 * f x.1 + jL f l + jL f r;rw [ih,Int.add_assoc]
theorem oK (f:Str→Int) (t:Str×Int):jL f [t]=t.2 * f t.1:=by show t.2 * f t.1 + 0=_;rw [Int.add_zero]
def ov (p q:Str→Int) (B:Int) (n:Str):Int:=p n * B.fdiv (q n)
end Mf
namespace DL
open PySem PySem.Spec PyProof.Rows L2
theorem jg {x y:Nat} {r t:List Nat}:ltCps (x :: r) (y :: t)=if x < y then true else if y < x then false else ltCps r t:=by
 show (decide (x < y) || (x == y && ltCps r t))=_
 rcases Nat.lt_trichotomy x y with h | h | h
 ·rw [if_pos h,decide_eq_true h];rfl
 ·subst h
  rw [if_neg (Nat.lt_irrefl x),if_neg (Nat.lt_irrefl x)]
  simp
 ·rw [if_neg (Nat.lt_asymm h),if_pos h,decide_eq_false (Nat.lt_asymm h)]
  have:(x == y)=false:=by simp;omega
  rw [this];rfl
theorem dL:∀ a:List Nat,ltCps a a=false
 | []=>rfl
 | x :: r=>by
  rw [jg]
  rw [if_neg (Nat.lt_irrefl x),if_neg (Nat.lt_irrefl x)]
  exact dL r
theorem ju:∀ {a b:List Nat},ltCps a b=false→ltCps b a=false→a=b
 | [],[],_,_=>rfl
 | [],y :: s,h,_=>by simp [ltCps] at h
 | x :: r,[],_,h=>by simp [ltCps] at h
 | x :: r,y :: s,h1,h2=>by
  rw [jg] at h1 h2
  rcases Nat.lt_trichotomy x y with h | h | h
  ·rw [if_pos h] at h1;cases h1
  ·subst h
   rw [if_neg (Nat.lt_irrefl x),if_neg (Nat.lt_irrefl x)] at h1 h2
   rw [ju h1 h2]
  ·rw [if_pos h] at h2;cases h2
theorem eO:∀ {a b c:List Nat},ltCps b a=false→ltCps c b=false→ltCps c a=false
 | [],b,c,_,_=>by cases c<;>rfl
 | x :: r,[],c,h,_=>by simp [ltCps] at h
 | x :: r,y :: s,[],_,h=>by simp [ltCps] at h
 | x :: r,y :: s,z :: t,h1,h2=>by
  rw [jg] at h1 h2 ⊢
  rcases Nat.lt_trichotomy y x with h | h | h
  ·rw [if_pos h] at h1;cases h1
  ·subst h
   rw [if_neg (Nat.lt_irrefl y),if_neg (Nat.lt_irrefl y)] at h1
   rcases Nat.lt_trichotomy z y with g | g | g
   ·rw [if_pos g] at h2;cases h2
   ·subst g
    rw [if_neg (Nat.lt_irrefl z),if_neg (Nat.lt_irrefl z)] at h2 ⊢
    exact eO h1 h2
   ·rw [if_neg (Nat.lt_asymm g),if_pos g]
  ·rcases Nat.lt_trichotomy z y with g | g | g
   ·rw [if_pos g] at h2;cases h2
   ·subst g
    rw [if_neg (Nat.lt_asymm h),if_pos h]
   ·have:x < z:=Nat.lt_trans h g
    rw [if_neg (Nat.lt_asymm this),if_pos this]
def leS (a b:Str):Prop:=ltCps b.cps.toList a.cps.toList=false
theorem vo {a b:Str} (h1:leS a b) (h2:leS b a):a=b:=by
 have:=ju h2 h1
 cases a;cases b
 simp only [Str.mk.injEq] at *
 exact Array.toList_inj.mp this
theorem jH (a:Str):leS a a:=dL _
theorem lY:∀ {ss:List Str},Srt ss→ss.Pairwise leS
 | [],_=>.nil
 | x :: r,h=>by
  have h:risingS x r=true:=h
  have key:∀ (r:List Str) (x:Str),risingS x r=true→(∀ y∈r,leS x y)∧r.Pairwise leS:=by
   intro r
   induction r with
   | nil=>intro x _;exact⟨fun y hy=>(nomatch hy),.nil⟩
   | cons y r ih =>
    intro x h
    unfold risingS at h
    obtain ⟨h1,h2⟩:=Bool.and_eq_true_iff.mp h
    have h1:leS x y:=by unfold leS;cases q:ltCps y.cps.toList x.cps.toList with
     | false=>rfl
     | true=>rw [q] at h1;cases h1
    obtain ⟨i1,i2⟩:=ih y h2
    refine⟨fun z hz=>?_,.cons i1 i2⟩
    rcases List.mem_cons.mp hz with rfl | hz
    ·exact h1
    ·exact eO h1 (i1 z hz)
  obtain ⟨k1,k2⟩:=key r x h
  exact .cons k1 k2
end DL
namespace DL
open PySem PySem.Spec PyProof.Rows L2
def ItA (k:Bool) (h:Heap) (it a:Addr) (i:Nat):Prop:=match k with | true=>h.IsListIter it a i | false=>h.IsTupleIter it a i
def SqA (k:Bool) (h:Heap) (a:Addr) (xs:Array Value):Prop:=match k with | true=>h.IsList a xs | false=>h.IsTuple a xs
section
variable {prog:Program} {w:World} {A:Around} {E:Value→Shared→Prop} {s:Shared}
end
def SqV (k:Bool) (K:PySem.W.Frag) (H:Hp) (a:Addr) (xs:List V):Prop:=match k with | true=>yI K H a xs | false=>yR K H a xs
theorem SqV.at {k:Bool} {X:Cx} {pins:List (Addr×Obj)} {σ:L2.St} {H:Hp} {s:Shared} {a:Addr} {xs:List V} (I:Inv X pins σ H s) (h:SqV k X.K H a xs):∃ its:List Value,aV xs its∧SqA k s.heap a its.toArray:=by
 cases k
 ·obtain ⟨its,r,p,_⟩:=I.tuple h
  exact⟨its,r,p⟩
 ·obtain ⟨its,r,p,_⟩:=I.list h
  exact⟨its,r,p.isList⟩
section
variable {X:Cx}
end
def sq (k:Bool) (xs:List D):D:=match k with | true=>.lst xs | false=>.tup xs
def qS:Bool→D→(List D→Prop)→Prop
 | true,d,k=>qL d k
 | false,d,k=>qT d k
section
variable {X:Cx} {ta:yS}
theorem uz {k:Bool} {K:PySem.W.Frag} {M:Addr→Prop} {H:Hp} {xs:List D} {v:V} (h:yF K M H (sq k xs) v):∃ a vs,v=.ref a∧SqV k K H a vs∧Reps K M H xs vs:=by
 cases k
 ·unfold sq yF at h
  exact h
 ·unfold sq yF at h
  obtain ⟨a,vs,e,_,l,r⟩:=h
  exact⟨a,vs,e,yI.of l,r⟩
end
def dFor (src:TDC) (g:TDG) (tb:TDS) (R:ax) (δ:En):Prop:=src δ fun xs δ1=>∃ I:Nat→En→Prop,I 0 δ1 ∧
 (∀ i x δ',xs[i]?=some x→I i δ'→g x δ' (tb { R with nx:=I (i + 1),ct:=I (i + 1),bk:=R.nx,tp:=False }))∧∀ δ',I xs.length δ'→R.nx δ'
theorem exsP {K:PySem.W.Frag} {G:Gf} {P P1:List (D×V)} {W:XK} {R:Str→Str→D→Prop} (hP:∀ p∈P,p∈P1) (k:∀ c f d,R c f d→∀ e C dx δ' σ' H',S K G δ' ((.exn c f d,.ref e) :: P) σ' H'→H' e=some (XAt e C dx)→W (.ref e) (some dx) H') :
  ∀ c f d,R c f d→∀ e C dx δ' σ' H',S K G δ' ((.exn c f d,.ref e) :: P1) σ' H'→H' e=some (XAt e C dx)→W (.ref e) (some dx) H':=fun c f d r e C dx δ' σ' H' s=>k c f d r e C dx δ' σ' H' (s.sub fun p hp=>by
 rcases List.mem_cons.mp hp with rfl | hp
 ·simp
 ·simp [hP p hp])
theorem vG {X:Cx} {pos:Pos} {tg e:Expr} {src:TDC} {g:TDG} {t:TDS} {body:List Stmt} (hp:PassesOwn (model X.prog X.w) X.A X.env X.xe) (hc:X.calm=true) (hi:CI X tg e src) (hg:DG X tg g) (hb:DSs X body t) (hs:∀ x,foldedSetIterable e X.env x=pure x:=by intro _;rfl) :
  DS X (.For tg e body [] pos) (dFor src g t):=by
 obtain ⟨wi,hi,hw⟩:=hi
 refine PS.imp (jp hp hc hi hg hb hs) fun E σ H ⟨G,δ,P,R,s,h,k1,k2,k3,k4⟩=>?_
 refine hw G δ P σ H _ _ s h fun xs δ1 ⟨I,i0,turn,fin⟩ J P1 H1 hP s1 hgo hst hyl=>?_
 refine⟨fun i m σ H=>m=xs.length - i∧i≤xs.length∧∃ δ,I i δ∧S X.K G δ P1 σ H,⟨xs.length,by simp,Nat.zero_le _,δ1,i0,s1⟩,?_⟩
 rintro i m σ H ⟨rfl,hi,δ',ii,s'⟩
 obtain ⟨A,x⟩:=id s'
 by_cases hlt:i < xs.length
 ·refine .inr ⟨hgo A _ _ i H x hlt,fun σ' H'=>∃ δ',I (i + 1) δ'∧S X.K G δ' P1 σ' H',fun σ' H' ⟨δ',p',s'⟩=>⟨xs.length - (i + 1),by omega,rfl,hlt,δ',p',s'⟩,fun y H' hy=>?_⟩
  obtain ⟨sm,d,hd,rd⟩:=hyl A _ _ i y H H' x hlt hy
  refine⟨G,δ',P1,d,_,⟨A,(x.same sm).push rd⟩,turn i d δ' hd ii,fun δ2 h2 σ2 H2 s2=>?_⟩
  refine⟨G,δ2,P1,_,s2,h2,fun δ3 h3 σ3 H3 s3=>⟨δ3,h3,s3⟩,⟨fun d δ3 h3 v3 σ3 H3 s3=>k2.1 d δ3 h3 v3 σ3 H3 (s3.sub fun p hp=>?_),k2.2.1,exsP hP k2.2.2⟩,fun δ3 h3 σ3 H3 s3=>k1 δ3 h3 σ3 H3 (s3.sub fun p hp=>hP p hp),fun δ3 h3 σ3 H3 s3=>⟨δ3,h3,s3⟩,fun z=>z.elim⟩
  rcases List.mem_cons.mp hp with rfl | hp
  ·simp
  ·simp [hP p hp]
 ·have e:i=xs.length:=by omega
  subst e
  exact .inl ⟨hst A _ _ H x,k1 δ' (fin δ' ii) σ H (s'.sub fun p hp=>hP p hp)⟩
end DL
namespace DL
open PySem PySem.Spec PyProof.Rows L2
section
variable {X:Cx}
variable {e f:Expr} {ta tb:yM} {pos:Pos}
end
end DL
namespace DL
open PySem PyProof.Rows
end DL
namespace DL
open PySem PySem.Spec PyProof.Rows L2
end DL
namespace Mf
open PySem L2 DL
def tmD (t:Str×Int):D:=.tup [.str t.1,.int t.2]
structure nV (names:List Str) (ts:List (Str×Int)):Prop where
 sub:(ts.map (·.1)).Sublist names
 nz:∀ t∈ts,t.2≠0
 bits:∀ t∈ts,Builtin.Int.intBits t.2≤10000
theorem ik {ts:List (Str×Int)} {i:Nat} {d:D} (h:(ts.map tmD)[i]?=some d):∃ t,ts[i]?=some t∧d=.tup [.str t.1,.int t.2]:=by
 rw [List.getElem?_map] at h
 cases e:ts[i]? with
 | none=>rw [e] at h;cases h
 | some n=>rw [e] at h;exact⟨n,rfl,(Option.some.inj h).symm⟩
theorem aP {α:Type} {l:List α} {i:Nat} {x:α} (h:l[i]?=some x):l.take (i + 1)=l.take i++[x]:=by rw [List.take_add_one,h];rfl
inductive Kd where
 | least | more
def kdS:Kd→Str
 | .least=>"least"
 | .more=>"more"
def oP (k:Kd) (ts:List (Str×Int)) (b:Int):D:=.tup [.str (kdS k),.tup (ts.map tmD),.int b]
def frD (p:Int×Int):D:=.tup [.int p.1,.int p.2]
def uf (ks:List Str) (ps:List (Int×Int)) (n:Str):Int×Int:=(dAt ks ps n).getD (0,1)
def pT (ks:List Str) (ps:List (Int×Int)) (n:Str):Int:=(uf ks ps n).1
def pB (ks:List Str) (ps:List (Int×Int)) (n:Str):Int:=(uf ks ps n).2
theorem mC {α β:Type} (f:α→β):∀ (ks:List Str) (ps:List α) (n:Str),dAt ks (ps.map f) n=(dAt ks ps n).map f
 | [],ps,n=>by cases ps<;>rfl
 | k :: ks,[],n=>rfl
 | k :: ks,p :: ps,n=>by
  show (if k=n then some (f p) else dAt ks (ps.map f) n)=(if k=n then some p else dAt ks ps n).map f
  by_cases e:k=n
  ·rw [if_pos e,if_pos e];rfl
  ·rw [if_neg e,if_neg e];exact mC f ks ps n
theorem m6 {α:Type}:∀ {ks:List Str} {ps:List α} {n:Str} {p:α},dAt ks ps n=some p→p∈ps
 | [],ps,n,p,h=>by cases ps<;>cases h
 | k :: ks,[],n,p,h=>by cases h
 | k :: ks,x :: ps,n,p,h=>by
  have h:(if k=n then some x else dAt ks ps n)=some p:=h
  by_cases e:k=n
  ·rw [if_pos e] at h;cases h;exact List.mem_cons_self ..
  ·rw [if_neg e] at h;exact List.mem_cons_of_mem _ (m6 h)
theorem eT {names:List Str} {i:Nat} {d:D} (h:(names.map D.str)[i]?=some d):∃ n,names[i]?=some n∧d=.str n:=by
 rw [List.getElem?_map] at h
 cases e:names[i]? with
 | none=>rw [e] at h;cases h
 | some n=>rw [e] at h;exact⟨n,rfl,(Option.some.inj h).symm⟩
theorem dZ {ks:List Str} {x:Str} (h:x∉ks):gH ks x=ks++[x]:=by unfold gH;rw [if_neg h]
theorem f9 {ks:List Str} {ds:List D} {x:Str} {y:D} (h:x∉ks):iA ks ds x y=ds++[y]:=by unfold iA;rw [if_neg h]
theorem gr {l:List Str} {i:Nat} {x:Str} (nd:l.Nodup) (h:l[i]?=some x):x∉l.take i:=by
 intro hm
 obtain ⟨j,hj,e⟩:=List.getElem_of_mem hm
 rw [List.length_take] at hj
 rw [List.getElem_take] at e
 obtain ⟨hi,e2⟩:=List.getElem?_eq_some_iff.mp h
 have:=(List.getElem_inj (h₀:=by omega) (h₁:=hi) nd).mp (e.trans e2.symm)
 omega
theorem iO {l:List Str} {i:Nat} {x:Str} (h:l[i]?=some x):x∈l:=List.mem_of_getElem? h
theorem vk {α:Type} {l:List α} {i:Nat} {x:α} (h:l[i]?=some x):i < l.length:=(List.getElem?_eq_some_iff.mp h).1
theorem gl {α:Type} (f:Str→α):∀ {names:List Str} {n:Str},n∈names→dAt names (names.map f) n=some (f n)
 | x :: r,n,h=>by
  show (if x=n then some (f x) else dAt r (r.map f) n)=_
  by_cases e:x=n
  ·rw [if_pos e,e]
  ·rw [if_neg e]
   exact gl f ((List.mem_cons.mp h).resolve_left fun z=>e z.symm)
abbrev Rw:=Kd×List (Str×Int)×Int
def cf:List (Str×Int)→Str→Int
 | [],_=>0
 | t :: r,n=>(if t.1=n then t.2 else 0) + cf r n
theorem IsSum.ext {F:Str→Int} {ts us:List (Str×Int)} (h1:∀ t∈ts,t.2=F t.1) (h2:∀ t∈us,t.2=F t.1) (h:ts.map (·.1)=us.map (·.1)):ts=us:=by
 have e:∀ {l:List (Str×Int)},(∀ t∈l,t.2=F t.1)→l=(l.map (·.1)).map fun n=>(n,F n):=fun {l} hl=>by
  rw [List.map_map]
  conv=>lhs;rw [← List.map_id l]
  refine List.map_congr_left fun t ht=>?_
  show t=(t.1,F t.1)
  rw [← hl t ht]
 rw [e h1,e h2,h]
theorem sX {ks:List Str} {x:Str} (h:ks.Nodup):(gH ks x).Nodup:=by
 unfold gH
 by_cases e:x∈ks
 ·rw [if_pos e];exact h
 ·rw [if_neg e,List.nodup_append]
  exact⟨h,by simp,fun a ha b hb z=>by rw [List.mem_singleton.mp hb] at z;exact e (z ▸ ha)⟩
theorem mj:∀ {ks nm:List Str},ks.Nodup→(∀ n∈ks,n∈nm)→ks.length≤nm.length
 | [],_,_,_=>Nat.zero_le _
 | k :: ks,nm,h,hs=>by
  obtain ⟨h1,h2⟩:=List.nodup_cons.mp h
  have hk:=hs k (List.mem_cons_self ..)
  have:=mj (ks:=ks) (nm:=nm.erase k) h2 fun n hn=>(List.mem_erase_of_ne (fun z=>h1 (by rw [← z];exact hn))).mpr (hs n (List.mem_cons_of_mem _ hn))
  rw [List.length_erase_of_mem hk] at this
  have:0 < nm.length:=List.length_pos_of_mem hk
  rw [List.length_cons]
  omega
structure Pt (ks:List Str) (ps:List (Int×Int)) (X:Nat):Prop where
 len:ps.length=ks.length
 low:∀ p∈ps,Low p.1 p.2
 b1:∀ p∈ps,Builtin.Int.intBits p.1≤X
 b2:∀ p∈ps,Builtin.Int.intBits p.2≤X
theorem Pt.at {ks:List Str} {ps:List (Int×Int)} {X:Nat} {n:Str} (hp:Pt ks ps X) (h:n∈ks):dAt ks ps n=some (uf ks ps n)∧uf ks ps n∈ps:=by
 have e:=gd (ks:=ks) (ds:=ps) (x:=n) hp.len.symm
 rw [decide_eq_true h] at e
 cases q:dAt ks ps n with
 | none=>rw [q] at e;cases e
 | some p =>
  have:uf ks ps n=p:=by unfold uf;rw [q];rfl
  rw [this]
  exact⟨rfl,m6 q⟩
theorem Pt.D {ks:List Str} {ps:List (Int×Int)} {X:Nat} {n:Str} (hp:Pt ks ps X) (h:n∈ks):dAt ks (ps.map frD) n=some (.tup [.int (pT ks ps n),.int (pB ks ps n)]):=by
 rw [mC,(hp.at h).1];rfl
theorem Pt.pos {ks:List Str} {ps:List (Int×Int)} {X:Nat} {n:Str} (hp:Pt ks ps X) (h:n∈ks):0 < pB ks ps n:=(hp.low _ (hp.at h).2).pos
theorem Pt.Tb {ks:List Str} {ps:List (Int×Int)} {X:Nat} {n:Str} (hp:Pt ks ps X) (h:n∈ks):Builtin.Int.intBits (pT ks ps n)≤X:=hp.b1 _ (hp.at h).2
theorem Pt.mono {ks:List Str} {ps:List (Int×Int)} {X Y:Nat} (hp:Pt ks ps X) (h:X≤Y):Pt ks ps Y:=⟨hp.len,hp.low,fun p hq=>Nat.le_trans (hp.b1 p hq) h,fun p hq=>Nat.le_trans (hp.b2 p hq) h⟩
end Mf
namespace DL
open PySem PySem.Spec PyProof.Rows L2
section
variable {X:Cx} {pos:Pos} {a b e:Expr} {es:List Expr} {ta tb:yM} {t:yS}
def qZ:D→(List Str→List D→Prop)→Prop
 | .dct ks ds,k=>k ks ds
 | .fd ks ds,k=>k ks ds
 | _,_=>False
end
end DL
namespace DL
open PySem PySem.Spec PyProof.Rows L2
section
variable {prog:Program} {w:World} {A:Around} {E:Value→Shared→Prop} {s:Shared}
end
section
variable {X:Cx}
end
section
variable {X:Cx} {tg:Expr}
end
end DL
namespace DL
open PySem PySem.Spec PyProof.Rows L2
section
variable {P:Program} {w:World} {h h':Heap} {a:Addr} {es:Array (Int×Value)} {ep:Nat} {t:SetTable}
end
section
variable {prog:Program} {w:World} {A:Around} {E:Value→Shared→Prop} {s:Shared}
end
section
variable {prog:Program} {w:World} {A:Around} {R:Result→Shared→Prop} {I:Addr} {fp wr:List Addr} {G:Array GenState→Array GenState→Prop} {n:Nat} {P:Nat→Value→Prop} {St:Nat→Shared→Prop}
end
section
variable {prog:Program} {w:World} {A:Around} {E:Value→Shared→Prop} {s:Shared}
set_option maxRecDepth 100000 in
set_option maxHeartbeats 3200000 in
end
end DL
namespace DL
open PySem PySem.Spec PyProof.Rows L2
namespace FS
end FS
section
variable {prog:Program} {w:World} {A:Around} {E:Value→Shared→Prop} {s:Shared}
end
section
variable {prog:Program} {w:World} {A:Around} {E:Value→Shared→Prop} {s:Shared} {I S:Addr} {es:Array (Int×Value)} {ep:Nat} {t:SetTable} {F:Heap→Nat→Value→Prop} {vs:List Value}
set_option maxHeartbeats 1000000 in
set_option maxHeartbeats 1000000 in
end
end DL
namespace DL
open PySem PySem.Spec PyProof.Rows L2
section
variable {prog:Program} {w:World} {A:Around} {E:Value→Shared→Prop} {s:Shared} {I S:Addr} {es:Array (Int×Value)} {ep:Nat} {t:SetTable} {F:Heap→Nat→Value→Prop} {vs:List Value}
set_option maxHeartbeats 2000000 in
end
section
variable {X:Cx} {e:Expr} {p p2 pos pos2:Pos} {te:TE}
end
end DL
namespace DL
open PySem PySem.Spec PyProof.Rows L2
section
variable {K:PySem.W.Frag} {G:Gf} {A:Addr→Prop} {δ:List Sl} {P:List (D×V)} {σ:L2.St} {H:Hp}
end
def jN (i:Nat) (t:TDS) (R:ax) (δ:En):Prop:=qWD δ[i]? fun _ ks ds=>fJ δ i (.dat (.fd ks ds)) (t R)
section
variable {X:Cx} {tg e:Expr} {te:yM}
end
end DL
namespace DL
open PySem PySem.Spec PyProof.Rows L2
section
variable {X:Cx} {pos:Pos} {e:Expr}
end
section
variable {X:Cx} {pos:Pos} {e:Expr} {ta:yM}
end
section
variable {P:Program} {w:World} {K:PySem.W.Frag} {mg:Str→Option Value} {base:Heap}
end
section
variable {X:Cx}
end
end DL
namespace DL
open PySem PySem.Spec PyProof.Rows L2
section
variable {X:Cx}
end
end DL
namespace DL
open PySem PySem.Spec PyProof.Rows L2
def kI (R:W→En→Prop) (δ:En) (r:D):Prop:=r.im=true∧R (.d r) δ
theorem Sx.slot {K:PySem.W.Frag} {G:Gf} {A:Addr→Prop} {δ:List Sl} {P P':List (D×V)} {σ:L2.St} {H:Hp} {i:Nat} {p:Addr} {d:D} (s:Sx K G A δ P σ H) (aa:A p) (oo:aR K (fun b=>G.M0 b∨A b) H p d) (hno:∀ (j:Nat) e,δ[j]?≠some (.own p e)) (hP:∀ q∈P',q∈P) :
  Sx K G A (δ.set i (.own p d)) P' (σ.set i (some (.ref p))) H:=by
 refine⟨s.old,s.stay,s.m0,s.pm,s.new,s.thr,by rw [List.length_set,List.length_set,s.len],fun j d' e=>?_,fun j b d' e=>?_,fun j k b d' e' h1 h2=>?_,fun q hq=>s.pnd q (hP q hq)⟩
 ·rcases aM e with ⟨_,z,_⟩ | ⟨hij,e⟩
  ·cases z
  ·obtain ⟨v,q,r⟩:=s.dat j d' e
   exact⟨v,by rw [List.getElem?_set_ne hij];exact q,r⟩
 ·rcases aM e with ⟨hij,z,hl⟩ | ⟨hij,e⟩
  ·cases z
   subst hij
   exact⟨by rw [List.getElem?_set_self (by rw [← s.len];exact hl)],aa,oo⟩
  ·obtain ⟨q,r,o⟩:=s.own j b d' e
   exact⟨by rw [List.getElem?_set_ne hij];exact q,r,o⟩
 ·rcases aM h1 with ⟨hij,z,hl⟩ | ⟨hij,e⟩
  ·cases z
   rcases aM h2 with ⟨hik,_,_⟩ | ⟨hik,e2⟩
   ·rw [← hij,← hik]
   ·exact absurd e2 (hno k _)
  ·rcases aM h2 with ⟨hik,z,_⟩ | ⟨hik,e2⟩
   ·cases z
    exact absurd e (hno j _)
   ·exact s.inj j k b d' e' e e2
section
variable {X:Cx} {tg e:Expr} {te:yM}
def iSeq (K:PySem.W.Frag) (tl:TE):TI:=fun σ H R=>tl σ H fun x H1=>(∃ a,x=.ref a∧(∃ xs,yI K H1 a xs)∧R (Itl K a) H1)∨∃ a,x=.ref a∧(∃ xs,yR K H1 a xs)∧R (Itt K a) H1
theorem v7 {l:Expr} {tl:TE} (hl:PE X l tl):PI X tg l (iSeq X.K tl):=by
 intro pins s σ H R I h
 refine yT (hl pins s σ H _ I h) fun v s1 ⟨x,H1,I1,r1,q1⟩=>?_
 rcases q1 with ⟨a,e,⟨xs,hq⟩,q⟩ | ⟨a,e,⟨xs,hq⟩,q⟩
 ·subst e
  cases r1
  obtain ⟨its,rv,p,hz⟩:=I1.list hq
  refine wpAny_pyIter_list p.isList ?_
  refine⟨s1.heap.objs.size,[s1.heap.objs.size],_,_,H1,rfl,I1.kept (t':=s1.toks) fun b o e=>Heap.get?_push_of_some _ e,gQ a _,⟨_,Heap.get?_push_size _ rfl,rfl,rfl⟩,fun b hb=>?_,q⟩
  have e:b=s1.heap.objs.size:=by simpa using hb
  subst e
  exact I1.fpOk (Nat.le_refl _) (I1.hok.fresh (Nat.le_refl _))
 ·subst e
  cases r1
  obtain ⟨its,rv,p,hz⟩:=I1.tuple hq
  refine wpAny_pyIter_tuple p ?_
  refine⟨s1.heap.objs.size,[s1.heap.objs.size],_,_,H1,rfl,I1.kept (t':=s1.toks) fun b o e=>Heap.get?_push_of_some _ e,fQ a _,⟨_,Heap.get?_push_size _ rfl,rfl,rfl⟩,fun b hb=>?_,q⟩
  have e:b=s1.heap.objs.size:=by simpa using hb
  subst e
  exact I1.fpOk (Nat.le_refl _) (I1.hok.fresh (Nat.le_refl _))
def qY:D→(List D→Prop)→Prop
 | .lst xs,k=>k xs
 | .tup xs,k=>k xs
 | _,_=>False
theorem qY.ex {d:D} {k:List D→Prop} (h:qY d k):∃ b xs,d=sq b xs∧k xs:=by
 cases d<;>first | exact False.elim h | exact⟨true,_,rfl,h⟩ | exact⟨false,_,rfl,h⟩
def dcSq (t:yM) (δ:En) (R:List D→En→Prop):Prop:=t δ (wd fun d δ1=>qY d fun xs=>R xs δ1)
theorem yb (h:DE X e te):CI X tg e (dcSq te):=⟨_,v7 h,fun G δ P σ H R Q s hs k=>up.mk s hs fun d δ1 h1 v H1 s1=>by
 replace h1:=qY.ex h1
 obtain ⟨kk,xs,e,r⟩:=h1
 subst e
 have hat:∀ A δ σ H,Sx X.K G A δ ((sq kk xs,v) :: P) σ H→∃ a vs,v=.ref a∧SqV kk X.K H a vs∧Reps X.K (fun b=>G.M0 b∨A b) H xs vs:=fun A δ σ H x=>uz (x.pnd (sq kk xs,v) (by simp))
 obtain ⟨A1,x1⟩:=id s1
 obtain ⟨a,vs0,rfl,l0,_⟩:=hat _ _ _ _ x1
 cases kk
 ·refine .inr ⟨a,rfl,⟨vs0,l0⟩,k xs δ1 r _ _ H1 (fun q hq=>by simp [hq]) s1 (fun A δ σ i H x hi=>?_) (fun A δ σ H x=>?_) fun A δ σ i y H H2 x hi hy=>?_⟩
  ·obtain ⟨b,vs,e,l,r⟩:=hat _ _ _ _ x
   cases e
   obtain ⟨w',hw,_⟩:=Reps.get _ _ r i xs[i] (by simp [hi])
   exact⟨vs,w',l,hw⟩
  ·obtain ⟨b,vs,e,l,r⟩:=hat _ _ _ _ x
   cases e
   exact⟨vs,l,by rw [Reps.length _ _ r];exact Nat.le_refl _⟩
  ·obtain ⟨b,vs,e,l,r⟩:=hat _ _ _ _ x
   cases e
   obtain ⟨e,hy⟩:=hy
   obtain ⟨w',hw,rw'⟩:=Reps.get _ _ r i xs[i] (by simp [hi])
   have z:=hy vs l
   rw [hw] at z
   cases z
   subst e
   exact⟨bh.refl _,xs[i],by simp [hi],rw'⟩
 ·refine .inl ⟨a,rfl,⟨vs0,l0⟩,k xs δ1 r _ _ H1 (fun q hq=>by simp [hq]) s1 (fun A δ σ i H x hi=>?_) (fun A δ σ H x=>?_) fun A δ σ i y H H2 x hi hy=>?_⟩
  ·obtain ⟨b,vs,e,l,r⟩:=hat _ _ _ _ x
   cases e
   obtain ⟨w',hw,_⟩:=Reps.get _ _ r i xs[i] (by simp [hi])
   exact⟨vs,w',l,hw⟩
  ·obtain ⟨b,vs,e,l,r⟩:=hat _ _ _ _ x
   cases e
   exact⟨vs,l,by rw [Reps.length _ _ r];exact Nat.le_refl _⟩
  ·obtain ⟨b,vs,e,l,r⟩:=hat _ _ _ _ x
   cases e
   obtain ⟨e,hy⟩:=hy
   obtain ⟨w',hw,rw'⟩:=Reps.get _ _ r i xs[i] (by simp [hi])
   have z:=hy vs l
   rw [hw] at z
   cases z
   subst e
   exact⟨bh.refl _,xs[i],by simp [hi],rw'⟩⟩
end
end DL
namespace DL
open PySem PySem.Spec PyProof.Rows L2
end DL
namespace DL
open PySem PySem.Spec PyProof.Rows L2
section
variable {X:Cx} {pos:Pos} {a b e:Expr} {ta tb:yM}
end
section
variable {K:PySem.W.Frag} {G:Gf} {A A':Addr→Prop} {δ δ':List Sl} {P P':List (D×V)} {σ σ':L2.St} {H H':Hp} {p:Addr}
theorem Sx.inner (s:Sx K G (fun b=>A b∨b=p) δ P σ H) (hp:¬ A p) (ho:∀ (i:Nat) a d,δ[i]?=some (.own a d)→A a):Sx K ⟨fun b=>G.M0 b∨b=p,H,A⟩ A δ P σ H:=by
 have hM:∀ b,((G.M0 b∨b=p)∨A b)→(G.M0 b∨(A b∨b=p))∨H b=none:=fun b h=>.inl (by
  rcases h with (h | h) | h
  ·exact .inl h
  ·exact .inr (.inr h)
  ·exact .inr (.inl h))
 refine⟨fun b o h _=>h,fun b h=>h,fun b h=>?_,fun b h=>⟨s.thr b (.inl h),?_⟩,fun b h=>.inr h,fun b h=>s.thr b (.inl h),s.len,fun i d e=>let ⟨v,q,r⟩:=s.dat i d e;⟨v,q,yF.more hM _ _ r⟩,fun i a d e=>let ⟨q,_,o⟩:=s.own i a d e;⟨q,ho i a d e,aR.more hM o⟩,s.inj,fun q hq=>yF.more hM _ _ (s.pnd q hq)⟩
 ·rcases h with h | h
  ·exact s.stay b (s.m0 b h)
  ·exact s.thr b (.inr h)
 ·rintro (z | z)
  ·rcases s.new b (.inl h) with q | q
   ·exact s.m0 b z q
   ·exact (s.pm b q).2 z
  ·exact hp (by rw [← z];exact h)
theorem Sx.outer (s:Sx K G (fun b=>A b∨b=p) δ P σ H) (h0:G.H0 p=none) (t:Sx K ⟨fun b=>G.M0 b∨b=p,H,A⟩ A' δ' P' σ' H'):Sx K G (fun b=>A' b∨b=p) δ' P' σ' H':=by
 have hM:∀ b,(G.M0 b∨(A' b∨b=p))→((G.M0 b∨b=p)∨A' b)∨H' b=none:=fun b h=>.inl (by
  rcases h with h | h | h
  ·exact .inl (.inl h)
  ·exact .inr h
  ·exact .inl (.inr h))
 refine⟨fun b o h hn=>t.old b o (s.old b o h hn) (fun z=>?_),fun b h=>t.stay b (s.stay b h),s.m0,s.pm,fun b h=>?_,fun b h=>?_,t.len,fun i d e=>let ⟨v,q,r⟩:=t.dat i d e;⟨v,q,yF.more hM _ _ r⟩,fun i a d e=>let ⟨q,r,o⟩:=t.own i a d e;⟨q,.inl r,aR.more hM o⟩,t.inj,fun q hq=>yF.more hM _ _ (t.pnd q hq)⟩
 ·rcases s.new b (.inl z) with q | q
  ·rw [q] at h;cases h
  ·exact hn q
 ·rcases h with h | h
  ·rcases t.new b h with q | q
   ·refine .inl ?_
    cases e:G.H0 b with
    | none=>rfl
    | some o=>exact absurd q (s.stay b (by rw [e];exact fun z=>nomatch z))
   ·exact s.new b (.inl q)
  ·exact .inl (by rw [h];exact h0)
 ·rcases h with h | h
  ·exact t.thr b h
  ·exact t.stay b (s.thr b (.inr h))
theorem Sx.pokeD {kvs kvs':List (yL×V)} (s:Sx K G A δ P σ H) (hp:A p) (hv:H p=some (.dK kvs)) (hno:∀ (i:Nat) d,δ[i]?≠some (.own p d)):Sx K G A δ P σ (yV H p (.dK kvs')):=by
 have hk:∀ b o,b≠p→H b=some o→yV H p (.dK kvs') b=some o:=fun b o n e=>by rw [ar n];exact e
 have kp:Kp (fun b=>G.M0 b∨A b) H (yV H p (.dK kvs')):=⟨fun b o e n=>hk b o (fun z=>n (.inr (by rw [z];exact hp))) e,fun b xs e=>hk b _ (fun z=>by rw [z,hv] at e;cases e) e,fun b o u e=>hk b _ (fun z=>by rw [z,hv] at e;cases e) e⟩
 have stay:∀ b,H b≠none→yV H p (.dK kvs') b≠none:=fun b e=>by
  by_cases z:b=p
  ·rw [z,al];exact fun z=>nomatch z
  ·rw [ar z];exact e
 have na:∀ b o,G.H0 b=some o→¬ G.Pm b→b≠p:=fun b o e n z=>(s.new p hp).elim (fun q=>by rw [z] at e;rw [e] at q;cases q) fun q=>n (by rw [z];exact q)
 refine⟨fun b o e n=>hk b o (na b o e n) (s.old b o e n),fun b e=>stay b (s.stay b e),s.m0,s.pm,s.new,fun b e=>stay b (s.thr b e),s.len,fun i d e=>let ⟨v,q,r⟩:=s.dat i d e;⟨v,q,yF.kp kp _ _ r⟩,fun i a d e=>?_,s.inj,fun q hq=>yF.kp kp _ _ (s.pnd q hq)⟩
 obtain ⟨q,r,o⟩:=s.own i a d e
 have ne:a≠p:=fun z=>by subst z;exact hno i d e
 exact⟨q,r,aR.kp kp (by rw [ar ne]) o⟩
end
section
variable {X:Cx} {pos:Pos} {a b e:Expr} {ta tb:yM}
end
end DL
namespace DL
open PySem PySem.Spec PyProof.Rows L2
theorem FdK.fd {K:PySem.W.Frag} {x:Str} {st:Stmt} {h:Heap} {mg:Str→Option Value} {ps:List Str} (q:FdK K x st) (X:K.In h) (G:h.Ns mainGlobals mg)
  (b:∀ (kV doc pm:Value) (an:Option Addr) (cdv ct:Value) (us:List Value),us.length=ps.length→bindArgs (PySem.W.fnOf x x (a8 st) (aI st) (ah st) .none kV doc pm an cdv ct) ⟨us,[]⟩=pure (ps.zip us)):Fd K mg x st ps:=by
 obtain ⟨f,oc,od,an,sl,kV,dc,pm,cd,ct,a,l,c,k⟩:=q.ex
 have F:=pV (st:=st) l c k
 exact⟨_,_,F,F.binds (ps:=ps) b,PySem.W.mg_of X G a⟩
theorem gq {α:Type} {l:List α} {n:Nat} (h:l.length=n + 1):∃ a r,l=a :: r∧r.length=n:=by
 cases l with
 | nil=>cases h
 | cons a r=>exact⟨a,r,rfl,Nat.succ.inj h⟩
theorem len1 {α:Type} {l:List α} (h:l.length=1):∃ a,l=[a]:=by
 obtain ⟨a,r,rfl,h1⟩:=gq h
 rw [List.eq_nil_of_length_eq_zero h1]
 exact⟨a,rfl⟩
theorem len2 {α:Type} {l:List α} (h:l.length=2):∃ a b,l=[a,b]:=by
 obtain ⟨a,r,rfl,h1⟩:=gq h
 obtain ⟨b,rfl⟩:=len1 h1
 exact⟨a,b,rfl⟩
theorem len3 {α:Type} {l:List α} (h:l.length=3):∃ a b c,l=[a,b,c]:=by
 obtain ⟨a,r,rfl,h1⟩:=gq h
 obtain ⟨b,c,rfl⟩:=len2 h1
 exact⟨a,b,c,rfl⟩
theorem FdK.fd1 {K:PySem.W.Frag} {x x1:Str} {st:Stmt} {h:Heap} {mg:Str→Option Value} (q:FdK K x st) (X:K.In h) (G:h.Ns mainGlobals mg)
  (b:∀ (kV doc pm:Value) (an:Option Addr) (cdv ct u1:Value),bindArgs (PySem.W.fnOf x x (a8 st) (aI st) (ah st) .none kV doc pm an cdv ct) ⟨[u1],[]⟩=pure [(x1,u1)]):Fd K mg x st [x1] :=
 q.fd X G fun kV doc pm an cdv ct us hl=>by
  obtain ⟨u1,rfl⟩:=len1 hl
  exact b kV doc pm an cdv ct u1
theorem FdK.fd2 {K:PySem.W.Frag} {x x1 x2:Str} {st:Stmt} {h:Heap} {mg:Str→Option Value} (q:FdK K x st) (X:K.In h) (G:h.Ns mainGlobals mg)
  (b:∀ (kV doc pm:Value) (an:Option Addr) (cdv ct u1 u2:Value),bindArgs (PySem.W.fnOf x x (a8 st) (aI st) (ah st) .none kV doc pm an cdv ct) ⟨[u1,u2],[]⟩=pure [(x1,u1),(x2,u2)]):Fd K mg x st [x1,x2] :=
 q.fd X G fun kV doc pm an cdv ct us hl=>by
  obtain ⟨u1,u2,rfl⟩:=len2 hl
  exact b kV doc pm an cdv ct u1 u2
theorem FdK.fd3 {K:PySem.W.Frag} {x x1 x2 x3:Str} {st:Stmt} {h:Heap} {mg:Str→Option Value} (q:FdK K x st) (X:K.In h) (G:h.Ns mainGlobals mg)
  (b:∀ (kV doc pm:Value) (an:Option Addr) (cdv ct u1 u2 u3:Value),bindArgs (PySem.W.fnOf x x (a8 st) (aI st) (ah st) .none kV doc pm an cdv ct) ⟨[u1,u2,u3],[]⟩=pure [(x1,u1),(x2,u2),(x3,u3)]):Fd K mg x st [x1,x2,x3] :=
 q.fd X G fun kV doc pm an cdv ct us hl=>by
  obtain ⟨u1,u2,u3,rfl⟩:=len3 hl
  exact b kV doc pm an cdv ct u1 u2 u3
theorem rm {j k:Nat} {A:Around} (h:bP k A) (e:j≤k:=by decide):bP j A:=h.mono e
end DL
namespace DL
open PySem PySem.Spec PyProof.Rows L2
end DL
namespace DL
open PySem PySem.Spec PyProof.Rows L2
section
variable {X:Cx}
end
end DL
namespace DL
open PySem PySem.Spec PyProof.Rows L2
section
variable {X:Cx}
end
end DL
namespace DL
open PySem PySem.Spec PyProof.Rows L2
def fNef:List D→(D→Prop)→Prop
 | [.tup xs,.tup ys],R=>∃ a b c d,xs=[.int a,.int b]∧ys=[.int c,.int d]∧R (.bl (!decide ((a,b)=(c,d))))
 | _,_=>False
theorem sE {a b c d:Int} {R:D→Prop}:fNef [.tup [.int a,.int b],.tup [.int c,.int d]] R↔R (.bl (!decide ((a,b)=(c,d)))):=by
 constructor
 ·intro h
  obtain ⟨_,_,_,_,e,e',h⟩:=h
  cases e
  cases e'
  exact h
 ·exact fun h=>⟨_,_,_,_,rfl,rfl,h⟩
def fNif:List D→(D→Prop)→Prop
 | [.tup xs,.lst ds],R=>∃ (a b:Int) (ps:List (Int×Int)),xs=[.int a,.int b]∧ds=ps.map (fun q=>.tup [.int q.1,.int q.2])∧R (.bl (!decide ((a,b)∈ps)))
 | _,_=>False
def fEql:List D→(D→Prop)→Prop
 | [.lst xs,.lst []],R=>R (.bl (decide (xs.length=0)))
 | _,_=>False
theorem sM {d0:List D} {R:D→Prop} (h:fEql d0 R):∃ xs,d0=[.lst xs,.lst []]∧R (.bl (decide (xs.length=0))):=by
 rcases d0 with _ | ⟨a,_ | ⟨b,_ | ⟨c,l⟩⟩⟩
 ·exact False.elim h
 ·cases a<;>exact False.elim h
 ·cases a<;>first | exact False.elim h | (cases b<;>first | exact False.elim h | (rename_i xs ys;cases ys<;>first | exact False.elim h | exact⟨_,rfl,h⟩))
 ·cases a<;>first | exact False.elim h | (cases b<;>first | exact False.elim h | (rename_i xs ys;cases ys<;>exact False.elim h))
theorem uY {xs:List D} {R:D→Prop}:fEql [.lst xs,.lst []] R=R (.bl (decide (xs.length=0))):=rfl
section
variable {X:Cx} {pins:List (Addr×Obj)} {σ:L2.St} {H:Hp} {s:Shared}
open Classical in
theorem ye (hu:X.A.units + 64 < cLine):yK X (compareOp .Eq) fun x y=>aB X.K fEql [x,y]:=by
 intro pins s σ H x y v u Q I rx ry h
 obtain ⟨M,ds,R,m,rs,h,k⟩:=h
 obtain ⟨xs,rfl,z⟩:=sM h
 have fin:∀ b,R (.bl b)→EP X pins σ Q (.bool b) s:=fun b r=>⟨.bl b,H,I,rfl,k _ r _ H (bh.refl H) (yF.sc rfl)⟩
 obtain ⟨h1,h2⟩:=bg rs
 unfold yF at h1 h2
 obtain ⟨a,vs,rfl,_,sq,rs1⟩:=h1
 obtain ⟨b,ws,rfl,_,sq',rs2⟩:=h2
 cases rx
 cases ry
 obtain ⟨its,r1,t1,_⟩:=I.list (yI.of sq)
 obtain ⟨its',r2,t2,_⟩:=I.list (yI.of sq')
 have l1:its.length=xs.length:=by rw [← r1.length,← Reps.length _ _ rs1]
 have l2:its'.length=0:=by rw [← r2.length,← Reps.length _ _ rs2];rfl
 by_cases e:xs.length=0
 ·rw [decide_eq_true e] at z
  refine SeqAt.eq_listAt (e:=fun _=>true) t1.isList t2.isList (by rw [List.size_toArray,List.size_toArray];omega) (by omega) (fun n h1 _=>?_) ?_
  ·rw [List.size_toArray] at h1;omega
  ·rw [cI]
   exact fin _ z
 ·rw [decide_eq_false e] at z
  refine SeqAt.eq_list_lengthsAt t1.isList t2.isList ?_ (by omega) (fin _ z)
  rw [List.size_toArray,List.size_toArray,bne_iff_ne]
  omega
end
end DL
namespace DL
open PySem PySem.Spec PyProof.Rows L2
section
variable {K:PySem.W.Frag} {G:Gf} {A:Addr→Prop} {δ:En} {P:List (D×V)} {σ:L2.St} {H:Hp} {a:Addr} {us:List V} {u:HO}
end
section
variable {X:Cx} {pos:Pos} {e:Expr} {ta:yM}
end
end DL
namespace DL
open PySem PySem.Spec PySem.W PyProof.Rows L2
section
variable {prog:Program} {w:World} {A:Around} {E:Value→Shared→Prop} {s:Shared}
end
section
variable {X:Cx}
end
end DL
namespace DL
open PySem PySem.Spec PyProof.Rows L2
section
variable {K:PySem.W.Frag} {G:Gf} {δ:List Sl} {P:List (D×V)} {σ:L2.St}
end
section
variable {X:Cx} {tg e:Expr} {te:yM} {ta:yS}
end
end DL
namespace HT
open PySem PyProof.Rows
open PySem.SeqAt
open PySem.AutoSeq1 (wpAny_loadPart')
open PySem.MeetsSeq PySem.MeetsSeq2 PySem.MeetsSeq3
section
variable {prog:Program} {w:World} {A:Around} {E:Value→Shared→Prop} {s:Shared}
end
end HT
namespace DL
open PySem PySem.Spec PyProof.Rows L2
section
variable {X:Cx} {pos:Pos}
end
end DL
namespace DL
open PySem PySem.Spec PyProof.Rows L2
section
variable {X:Cx} {pos:Pos}
end
end DL
namespace DL
open PySem PySem.Spec PyProof.Rows L2
def j8:En→Bool
 | []=>true
 | .own _ _ :: _=>false
 | .dat _ :: r=>j8 r
 | .no :: r=>j8 r
theorem j8.at:∀ {δ:En} (i:Nat) (a:Addr) (d:D),j8 δ=true→δ[i]?≠some (.own a d)
 | [],i,a,d,_,e=>by simp at e
 | .own _ _ :: _,i,a,d,h,_=>by cases h
 | .dat _ :: r,i,a,d,h,e=>by
  cases i with
  | zero=>simp at e
  | succ i=>exact j8.at (δ:=r) i a d h (by simpa using e)
 | .no :: r,i,a,d,h,e=>by
  cases i with
  | zero=>simp at e
  | succ i=>exact j8.at (δ:=r) i a d h (by simpa using e)
section
variable {K:PySem.W.Frag} {G:Gf} {A:Addr→Prop} {δ:En} {P:List (D×V)} {σ:L2.St} {H H2:Hp}
end
section
variable {X:Cx}
end
end DL
namespace DL
open PySem PySem.Spec PyProof.Rows L2
section
variable {X:Cx}
end
end DL
namespace DL
open PySem PySem.Spec PyProof.Rows L2
section
variable {X:Cx}
end
end DL
namespace TS
open PySem PyProof.Rows
def gal':Bool→Keyed→Array Keyed→Nat→Nat→Nat→StateT SortSt Sem (Option Nat):=sortPriv% PySem.Builtin.gallop
def mlo':Array Keyed→Array Keyed→StateT SortSt Sem (Array Keyed):=sortPriv% PySem.Builtin.mergeLo
def mhi':Array Keyed→Array Keyed→StateT SortSt Sem (Array Keyed):=sortPriv% PySem.Builtin.mergeHi
def yU (κ:KeyKind) (p:Keyed):κ.α:=(κ.keyOf p.1).getD κ.dflt
def Ky (κ:KeyKind) (p:Keyed):Prop:=∃ a,κ.keyOf p.1=some a
section
variable {prog:Program} {w:World} {A:Around} {E:Value→Shared→Prop} {s:Shared} {κ:KeyKind}
theorem w_lt (hO:κ.OneLt) {x y:Keyed} {st:SortSt} {Q:Option Bool→SortSt→Prop} (hk:kindOf st=oneType') (hx:Ky κ x) (hy:Ky κ y) (h:Q (some (κ.blt (yU κ x) (yU κ y))) st):wpS (model prog w) A E s (lt' x y) Q st:=by
 obtain ⟨a,ha⟩:=hx
 obtain ⟨b,hb⟩:=hy
 have ea:yU κ x=a:=by unfold yU;rw [ha];rfl
 have eb:yU κ y=b:=by unfold yU;rw [hb];rfl
 rw [ea,eb] at h
 rw [lt'_eq]
 refine wpS_bind (wpS_get ?_)
 rw [hk,keyLt'_oneType]
 refine wpS_bind (wpS_lift (wpAny_attempt (hO prog w A _ s x.1 y.1 a b ha hb ⟨rfl,?_⟩)))
 exact wpS_pure h
theorem eB {arr:Array Keyed} {i:Nat} {p:Keyed} {st:SortSt} {Q:Keyed→SortSt→Prop} (e:arr[i]?=some p) (h:Q p st):wpS (model prog w) A E s (elem' arr i) Q st:=by
 rw [elem'_eq,e]
 exact wpS_pure h
def yP (κ:KeyKind) (left:Bool) (key:Keyed) (arr:Array Keyed) (base i:Nat):Bool:=match arr[base + i]? with
 | some x=>if left then κ.blt (yU κ x) (yU κ key) else !κ.blt (yU κ key) (yU κ x)
 | none=>false
theorem yA (hO:κ.OneLt) {left:Bool} {key:Keyed} {arr:Array Keyed} {base i:Nat} {st:SortSt} {Q:Option Bool→SortSt→Prop} (hk:kindOf st=oneType') (hkey:Ky κ key) (hx:∃ x,arr[base + i]?=some x∧Ky κ x) (h:Q (some (yP κ left key arr base i)) st) :
  wpS (model prog w) A E s (elem' arr (base + i) >>= fun x=>if left=true then lt' x key else lt' key x >>= fun r=>pure (r.map fun b=>!b)) Q st:=by
 obtain ⟨x,e,kx⟩:=hx
 unfold yP at h
 rw [e] at h
 refine wpS_bind (eB e ?_)
 cases left with
 | true=>exact w_lt hO hk kx hkey h
 | false=>exact wpS_bind (w_lt hO hk hkey kx (wpS_pure h))
theorem vf (hO:κ.OneLt) {left:Bool} {key:Keyed} {arr:Array Keyed} {base n hint:Nat} {st:SortSt} {Q:Option Nat→SortSt→Prop} (hk:kindOf st=oneType') (hkey:Ky κ key) (harr:∀ i,i < n→∃ x,arr[base + i]?=some x∧Ky κ x) (hh:hint < n)
    (mono:∀ i j,i≤j→j < n→yP κ left key arr base j=true→yP κ left key arr base i=true)
    (h:∀ k,k≤n→(∀ i,i < k→yP κ left key arr base i=true)→(∀ i,k≤i→i < n→yP κ left key arr base i=false)→Q (some k) st) :
    wpS (model prog w) A E s (gal' left key arr base n hint) Q st:=by
  have by_:∀ {i:Nat} {Q:Option Bool→SortSt→Prop},i < n→Q (some (yP κ left key arr base i)) st→wpS (model prog w) A E s (elem' arr (base + i) >>= fun x=>if left=true then lt' x key else lt' key x >>= fun r=>pure (r.map fun b=>!b)) Q st:=fun hi q=>yA hO hk hkey (harr _ hi) q
  have fin:∀ {lo hi:Nat} {R:(Option (Option Nat)×Nat×Nat)→StateT SortSt Sem (Option Nat)},lo≤hi→hi≤n→(∀ i,i < lo→yP κ left key arr base i=true)→(∀ i,hi≤i→i < n→yP κ left key arr base i=false)→(∀ k k':Nat,R (none,k',k)=pure (some k))→∀ {f:Nat→(Option (Option Nat)×Nat×Nat)→StateT SortSt Sem (ForInStep (Option (Option Nat)×Nat×Nat))},
      (∀ x lo hi,f x (none,lo,hi)=if lo ≥ hi then pure (ForInStep.done (none,lo,hi)) else (elem' arr (base + (lo + (hi - lo) / 2)) >>= fun x=>if left=true then lt' x key else lt' key x >>= fun r=>pure (r.map fun b=>!b)) >>= fun r=>match r with
        | some m=>if m=true then pure (ForInStep.yield (none,lo + (hi - lo) / 2 + 1,hi)) else pure (ForInStep.yield (none,lo,lo + (hi - lo) / 2))
        | _=>pure (ForInStep.done (some none,lo,hi)))→wpS (model prog w) A E s (forIn [0:n] (none,lo,hi) f >>= R) Q st:=by
    intro lo hi R h1 h2 h3 h4 hR f hf
    refine wpS_bind (wpS_mono (wpS_forRange (I:=fun x c st'=>st'=st∧∃ lo hi,c=(none,lo,hi)∧lo≤hi∧hi≤n∧hi - lo≤n - x∧(∀ i,i < lo→yP κ left key arr base i=true)∧∀ i,hi≤i→i < n→yP κ left key arr base i=false)
      (Q:=fun c st'=>st'=st∧∃ k,c=(none,k,k)∧k≤n∧(∀ i,i < k→yP κ left key arr base i=true)∧∀ i,k≤i→i < n→yP κ left key arr base i=false) ?_ ?_ ⟨rfl,lo,hi,rfl,h1,h2,by omega,h3,h4⟩) ?_)
    · rintro x c st' _ hx ⟨rfl,lo,hi,rfl,h1,h2,h5,h3,h4⟩
      rw [hf]
      by_cases c:lo ≥ hi
      · rw [if_pos c]
        have e:lo=hi:=by omega
        subst e
        exact wpS_pure ⟨rfl,lo,rfl,h2,h3,h4⟩
      · rw [if_neg c]
        refine wpS_bind (by_ (by omega) ?_)
        cases b:yP κ left key arr base (lo + (hi - lo) / 2) with
        | true =>
          refine wpS_pure ⟨rfl,_,_,rfl,by omega,h2,by omega,fun i hi'=>?_,h4⟩
          exact mono i (lo + (hi - lo) / 2) (by omega) (by omega) b
        | false =>
          refine wpS_pure ⟨rfl,_,_,rfl,by omega,by omega,by omega,h3,fun i hi' hn=>?_⟩
          cases b':yP κ left key arr base i with
          | false=>rfl
          | true=>rw [mono _ i hi' hn b'] at b;cases b
    · rintro c st' ⟨rfl,lo,hi,rfl,h1,h2,h5,h3,h4⟩
      have e:lo=hi:=by omega
      subst e
      exact⟨rfl,lo,rfl,h2,h3,h4⟩
    · rintro c st' ⟨rfl,k,rfl,h2,h3,h4⟩
      rw [hR]
      exact wpS_pure (h k h2 h3 h4)
  unfold gal'
  refine wpS_bind (by_ hh ?_)
  cases b:yP κ left key arr base hint with
  | true =>
    refine wpS_bind (wpS_mono (wpS_forRange (I:=fun x c st'=>st'=st∧∃ la of,c=(none,la,of)∧la < of∧x < of∧hint + la < n∧yP κ left key arr base (hint + la)=true)
      (Q:=fun c st'=>st'=st∧∃ la of,c=(none,la,of)∧la < of∧hint + la < n∧yP κ left key arr base (hint + la)=true∧(n - hint≤of∨(hint + of < n∧yP κ left key arr base (hint + of)=false))) ?_ ?_ ⟨rfl,0,1,rfl,by omega,by omega,hh,b⟩) ?_)
    · rintro x c st' _ hx ⟨rfl,la,of,rfl,h1,h2,h3,h4⟩
      dsimp only
      by_cases c:of ≥ n - hint
      · rw [if_pos c]
        exact wpS_pure ⟨rfl,la,of,rfl,h1,h3,h4,.inl c⟩
      · rw [if_neg c]
        refine wpS_bind (by_ (by omega) ?_)
        cases b2:yP κ left key arr base (hint + of) with
        | true=>exact wpS_pure ⟨rfl,of,2 * of + 1,rfl,by omega,by omega,by omega,b2⟩
        | false=>exact wpS_pure ⟨rfl,la,of,rfl,h1,h3,h4,.inr ⟨by omega,b2⟩⟩
    · rintro c st' ⟨rfl,la,of,rfl,h1,h2,h3,h4⟩
      exact⟨rfl,la,of,rfl,h1,h3,h4,.inl (by omega)⟩
    · rintro c st' ⟨rfl,la,of,rfl,h1,h3,h4,h5⟩
      dsimp only
      refine fin (by omega) (by omega) (fun i hi=>mono i (hint + la) (by omega) h3 h4) (fun i h6 h7=>?_) (fun _ _=>rfl) (fun _ _ _=>rfl)
      rcases h5 with h5 | ⟨h5,h8⟩
      · omega
      · cases b':yP κ left key arr base i with
        | false=>rfl
        | true=>rw [mono (hint + of) i (by omega) h7 b'] at h8;cases h8
  | false =>
    refine wpS_bind (wpS_mono (wpS_forRange (I:=fun x c st'=>st'=st∧∃ la of,c=(none,la,of)∧la < of∧x < of∧la≤hint∧yP κ left key arr base (hint - la)=false)
      (Q:=fun c st'=>st'=st∧∃ la of,c=(none,la,of)∧la < of∧la≤hint∧yP κ left key arr base (hint - la)=false∧(hint + 1≤of∨(of≤hint∧yP κ left key arr base (hint - of)=true))) ?_ ?_ ⟨rfl,0,1,rfl,by omega,by omega,by omega,b⟩) ?_)
    · rintro x c st' _ hx ⟨rfl,la,of,rfl,h1,h2,h3,h4⟩
      dsimp only
      by_cases c:of ≥ hint + 1
      · rw [if_pos c]
        exact wpS_pure ⟨rfl,la,of,rfl,h1,h3,h4,.inl c⟩
      · rw [if_neg c]
        refine wpS_bind (by_ (by omega) ?_)
        cases b2:yP κ left key arr base (hint - of) with
        | true=>exact wpS_pure ⟨rfl,la,of,rfl,h1,h3,h4,.inr ⟨by omega,b2⟩⟩
        | false=>exact wpS_pure ⟨rfl,of,2 * of + 1,rfl,by omega,by omega,by omega,b2⟩
    · rintro c st' ⟨rfl,la,of,rfl,h1,h2,h3,h4⟩
      exact⟨rfl,la,of,rfl,h1,h3,h4,.inl (by omega)⟩
    · rintro c st' ⟨rfl,la,of,rfl,h1,h3,h4,h5⟩
      dsimp only
      refine fin (by omega) (by omega) (fun i hi=>?_) (fun i h6 h7=>?_) (fun _ _=>rfl) (fun _ _ _=>rfl)
      · rcases h5 with h5 | ⟨h5,h8⟩
        · omega
        · exact mono i (hint - of) (by omega) (by omega) h8
      · cases b':yP κ left key arr base i with
        | false=>rfl
        | true=>rw [mono (hint - la) i h6 h7 b'] at h4;cases h4
end
def le (κ:KeyKind) (p q:Keyed):Prop:=κ.kle (yU κ p) (yU κ q)
structure Mg {α:Type} (r:α→α→Prop) (o xs ys T:List α):Prop where
 pm:(o++(xs++ys)).Perm T
 so:o.Pairwise r
 sx:xs.Pairwise r
 sy:ys.Pairwise r
 le:∀ u∈o,∀ v∈xs++ys,r u v
section
variable {α:Type} {r:α→α→Prop} {o xs ys T x1 x2 y1 y2:List α}
theorem Mg.appX (h:Mg r o (x1++x2) ys T) (hc:∀ x∈x1,∀ y∈ys,r x y):Mg r (o++x1) x2 ys T:=by
 obtain ⟨p1,p2,p3⟩:=List.pairwise_append.mp h.sx
 refine⟨?_,List.pairwise_append.mpr ⟨h.so,p1,fun u hu v hv=>h.le u hu v (by simp [hv])⟩,p2,h.sy,fun u hu v hv=>?_⟩
 ·have:=h.pm
  rwa [List.append_assoc,← List.append_assoc o] at this
 ·rcases List.mem_append.mp hu with hu | hu
  ·exact h.le u hu v (by rcases List.mem_append.mp hv with z | z<;>simp [z])
  ·exact (List.mem_append.mp hv).elim (p3 u hu v) (hc u hu v)
theorem Mg.swap (h:Mg r o xs ys T):Mg r o ys xs T:=⟨(List.perm_append_comm.append_left o).trans h.pm,h.so,h.sy,h.sx,fun u hu v hv=>h.le u hu v (by rcases List.mem_append.mp hv with z | z<;>simp [z])⟩
theorem Mg.appY (h:Mg r o xs (y1++y2) T) (hc:∀ y∈y1,∀ x∈xs,r y x):Mg r (o++y1) xs y2 T:=(h.swap.appX hc).swap
theorem Mg.fin (h:Mg r o xs ys T) (hc:∀ x∈xs,∀ y∈ys,r x y):(o++xs++ys).Perm T∧(o++xs++ys).Pairwise r:=by
 rw [List.append_assoc]
 exact⟨h.pm,List.pairwise_append.mpr ⟨h.so,List.pairwise_append.mpr ⟨h.sx,h.sy,hc⟩,h.le⟩⟩
theorem Mg.finY (h:Mg r o xs ys T) (hc:∀ y∈ys,∀ x∈xs,r y x):(o++ys++xs).Perm T∧(o++ys++xs).Pairwise r:=h.swap.fin hc
end
section
variable {α:Type} {a:Array α}
theorem nQ {i:Nat}:(a.extract i).toList=a.toList.drop i:=by
 simp only [Array.toList_extract,List.extract_eq_drop_take]
 exact List.take_of_length_le (by rw [List.length_drop];simp)
theorem nL {i k:Nat}:(a.extract i (i + k)).toList=(a.toList.drop i).take k:=by simp [List.extract_eq_drop_take]
theorem kg {i:Nat} {x:α} (h:a[i]?=some x):a.toList.drop i=x :: a.toList.drop (i + 1):=by
 have h:a.toList[i]?=some x:=by simpa using h
 obtain ⟨hi,e⟩:=List.getElem?_eq_some_iff.mp h
 rw [List.drop_eq_getElem_cons hi,e]
theorem dH {i:Nat} {x:α} (h:x∈a.toList.drop i):∃ j,i≤j∧a[j]?=some x:=by
 obtain ⟨j,hj⟩:=List.getElem?_of_mem h
 rw [List.getElem?_drop] at hj
 exact⟨i + j,by omega,by simpa using hj⟩
theorem pZ {i k:Nat} {x:α} (h:x∈(a.toList.drop i).take k):∃ j,j < k∧a[i + j]?=some x:=by
 obtain ⟨j,hj⟩:=List.getElem?_of_mem h
 have hl:=(List.getElem?_eq_some_iff.mp hj).1
 rw [List.length_take] at hl
 rw [List.getElem?_take_of_lt (by omega),List.getElem?_drop] at hj
 exact⟨j,by omega,by simpa using hj⟩
theorem aZ {i:Nat} {x:α} (h:a[i]?=some x):x∈a.toList:=by
 have h:a.toList[i]?=some x:=by simpa using h
 exact List.mem_of_getElem? h
theorem at_some {i:Nat} (h:i < a.size):∃ x,a[i]?=some x:=⟨a[i],by simp [h]⟩
theorem om {i:Nat} {x:α} (h:a[i]?=some x):i < a.size:=by
 have:=Array.getElem?_eq_some_iff.mp h
 exact this.1
theorem mI {r:α→α→Prop} (rf:∀ x,r x x) (h:a.toList.Pairwise r) {i j:Nat} {x y:α} (hij:i≤j) (hx:a[i]?=some x) (hy:a[j]?=some y):r x y:=by
 by_cases e:i=j
 ·subst e
  rw [hx] at hy
  cases hy
  exact rf x
 ·obtain ⟨hi,e1⟩:=Array.getElem?_eq_some_iff.mp hx
  obtain ⟨hj,e2⟩:=Array.getElem?_eq_some_iff.mp hy
  have:=List.pairwise_iff_getElem.mp h i j (by simpa using hi) (by simpa using hj) (by omega)
  simpa [e1,e2] using this
end
structure Smm (st st':SortSt):Prop where
 k:kindOf st'=kindOf st
 a:arrOf st'=arrOf st
 p:pendingOf st'=pendingOf st
 f:failedOf st'=failedOf st
theorem Smm.refl (st:SortSt):Smm st st:=⟨rfl,rfl,rfl,rfl⟩
theorem cR {κ:KeyKind} (x:Keyed):le κ x x:=KeyOrd.kle_refl _
end TS
namespace TS
open PySem PyProof.Rows
def smg':Nat→StateT SortSt Sem PUnit:=sortPriv% PySem.Builtin.setMinGallop
section
variable {prog:Program} {w:World} {A:Around} {E:Value→Shared→Prop} {s:Shared} {κ:KeyKind}
theorem nY {g:Nat} {st st0:SortSt} {Q:PUnit→SortSt→Prop} (m:Smm st0 st) (h:∀ st',Smm st0 st'→Q ⟨⟩ st'):wpS (model prog w) A E s (smg' g) Q st:=wpS_modify (h _ ⟨m.k,m.a,m.p,m.f⟩)
theorem w_gr (hO:κ.OneLt) {key:Keyed} {arr:Array Keyed} {base n hint:Nat} {st:SortSt} {Q:Option Nat→SortSt→Prop} (hk:kindOf st=oneType') (hkey:Ky κ key) (kya:∀ p∈arr.toList,Ky κ p) (ha:∀ i j x y,base≤i→i≤j→j < base + n→arr[i]?=some x→arr[j]?=some y→le κ x y) (hn:base + n≤arr.size) (hh:hint < n)
  (h:∀ k,k≤n→(∀ i x,base≤i→i < base + k→arr[i]?=some x→le κ x key)→(∀ i x,base + k≤i→i < base + n→arr[i]?=some x→κ.klt (yU κ key) (yU κ x))→Q (some k) st) :
  wpS (model prog w) A E s (gal' false key arr base n hint) Q st:=by
 have at':∀ i,i < n→∃ x,arr[base + i]?=some x∧Ky κ x:=fun i hi=>let ⟨x,e⟩:=at_some (a:=arr) (i:=base + i) (by omega);⟨x,e,kya x (aZ e)⟩
 have bv:∀ i x,arr[base + i]?=some x→yP κ false key arr base i=!κ.blt (yU κ key) (yU κ x):=fun i x e=>by unfold yP;rw [e];rfl
 refine vf hO hk hkey at' hh (fun i j hij hj hb=>?_) fun k hkn h1 h2=>h k hkn (fun i x hi hik e=>?_) fun i x hi hik e=>?_
 ·obtain ⟨x,ex,_⟩:=at' i (by omega)
  obtain ⟨y,ey,_⟩:=at' j hj
  rw [bv i x ex]
  rw [bv j y ey] at hb
  have h3:=ha _ _ x y (by omega) (by omega) (by omega) ex ey
  have h4:κ.kle (yU κ y) (yU κ key):=by simpa [KeyOrd.kle] using hb
  have h5:κ.blt (yU κ key) (yU κ x)=false:=KeyOrd.kle_trans h3 h4
  rw [h5];rfl
 ·have e':arr[base + (i - base)]?=some x:=by rw [show base + (i - base)=i by omega];exact e
  have:=h1 (i - base) (by omega)
  rw [bv _ x e'] at this
  show κ.blt _ _=false
  simpa using this
 ·have e':arr[base + (i - base)]?=some x:=by rw [show base + (i - base)=i by omega];exact e
  have:=h2 (i - base) (by omega) (by omega)
  rw [bv _ x e'] at this
  show κ.blt _ _=true
  simpa using this
theorem w_gl (hO:κ.OneLt) {key:Keyed} {arr:Array Keyed} {base n hint:Nat} {st:SortSt} {Q:Option Nat→SortSt→Prop} (hk:kindOf st=oneType') (hkey:Ky κ key) (kya:∀ p∈arr.toList,Ky κ p) (ha:∀ i j x y,base≤i→i≤j→j < base + n→arr[i]?=some x→arr[j]?=some y→le κ x y) (hn:base + n≤arr.size) (hh:hint < n)
  (h:∀ k,k≤n→(∀ i x,base≤i→i < base + k→arr[i]?=some x→κ.klt (yU κ x) (yU κ key))→(∀ i x,base + k≤i→i < base + n→arr[i]?=some x→le κ key x)→Q (some k) st) :
  wpS (model prog w) A E s (gal' true key arr base n hint) Q st:=by
 have at':∀ i,i < n→∃ x,arr[base + i]?=some x∧Ky κ x:=fun i hi=>let ⟨x,e⟩:=at_some (a:=arr) (i:=base + i) (by omega);⟨x,e,kya x (aZ e)⟩
 have bv:∀ i x,arr[base + i]?=some x→yP κ true key arr base i=κ.blt (yU κ x) (yU κ key):=fun i x e=>by unfold yP;rw [e];rfl
 refine vf hO hk hkey at' hh (fun i j hij hj hb=>?_) fun k hkn h1 h2=>h k hkn (fun i x hi hik e=>?_) fun i x hi hik e=>?_
 ·obtain ⟨x,ex,_⟩:=at' i (by omega)
  obtain ⟨y,ey,_⟩:=at' j hj
  rw [bv i x ex]
  rw [bv j y ey] at hb
  exact KeyOrd.klt_of_kle_of_klt (ha _ _ x y (by omega) (by omega) (by omega) ex ey) hb
 ·have e':arr[base + (i - base)]?=some x:=by rw [show base + (i - base)=i by omega];exact e
  have:=h1 (i - base) (by omega)
  rwa [bv _ x e'] at this
 ·have e':arr[base + (i - base)]?=some x:=by rw [show base + (i - base)=i by omega];exact e
  have:=h2 (i - base) (by omega) (by omega)
  rwa [bv _ x e'] at this
theorem xG (hO:κ.OneLt) {a b:Array Keyed} {st:SortSt} {Q:Array Keyed→SortSt→Prop} (hk:kindOf st=oneType') (kya:∀ p∈a.toList,Ky κ p) (kyb:∀ p∈b.toList,Ky κ p) (ha:a.toList.Pairwise (le κ)) (hb:b.toList.Pairwise (le κ)) (a0:0 < a.size) (b0:0 < b.size)
  (h0:∀ y,b[0]?=some y→∀ x∈a.toList,le κ y x) (hl:∀ x,a[a.size - 1]?=some x→∀ y∈b.toList,κ.klt (yU κ y) (yU κ x))
  (h:∀ r st',Smm st st'→r.toList.Perm (a.toList++b.toList)→r.toList.Pairwise (le κ)→Q r st'):wpS (model prog w) A E s (mlo' a b) Q st:=by
 have Sa:=fun {i j x y}=>mI cR ha (i:=i) (j:=j) (x:=x) (y:=y)
 have Sb:=fun {i j x y}=>mI cR hb (i:=i) (j:=j) (x:=x) (y:=y)
 let M:=fun (out:Array Keyed) (ia ib:Nat)=>Mg (le κ) out.toList (a.toList.drop ia) (b.toList.drop ib) (a.toList++b.toList)
 let Rs:=fun (r:Array Keyed)=>r.toList.Perm (a.toList++b.toList)∧r.toList.Pairwise (le κ)
 have sz:∀ {out ia ib},M out ia ib→ia≤a.size→ib≤b.size→out.size + (a.size - ia) + (b.size - ib)=a.size + b.size:=fun m h1 h2=>by
  have:=m.pm.length_eq
  simp only [List.length_append,List.length_drop,Array.length_toList] at this
  omega
 have dB:∀ {out ia ib},M out ia ib→ib=b.size→Rs (out++a.extract ia++b.extract ib):=fun {out ia ib} m e=>by
  have e2:b.toList.drop ib=[]:=List.drop_of_length_le (by simp [e])
  have:=m.fin fun x _ y hy=>by rw [e2] at hy;cases hy
  show _∧_
  rw [Array.toList_append,Array.toList_append,nQ,nQ]
  exact this
 have dA:∀ {out ia ib},M out ia ib→ia + 1=a.size→Rs (out++b.extract ib++a.extract ia):=fun {out ia ib} m e=>by
  obtain ⟨x,ex⟩:=at_some (a:=a) (i:=ia) (by omega)
  have e2:a.toList.drop ia=[x]:=by rw [kg ex,List.drop_of_length_le (by simp;omega)]
  have:=m.finY fun y hy z hz=>by
   rw [e2] at hz
   rw [List.mem_singleton.mp hz]
   exact KeyOrd.kle_of_klt (hl x (by rw [show a.size - 1=ia by omega];exact ex) y (List.mem_of_mem_drop hy))
  show _∧_
  rw [Array.toList_append,Array.toList_append,nQ,nQ]
  exact this
 have pB:∀ {out ia ib y},M out ia ib→b[ib]?=some y→(∀ x∈a.toList.drop ia,le κ y x)→M (out.push y) ia (ib + 1):=fun {out ia ib y} m e hc=>by
  have m':Mg (le κ) out.toList (a.toList.drop ia) ([y]++b.toList.drop (ib + 1)) (a.toList++b.toList):=by
   have:=m;rw [show M out ia ib=Mg (le κ) out.toList (a.toList.drop ia) (b.toList.drop ib) (a.toList++b.toList) from rfl,kg e] at this;exact this
  have:=m'.appY fun z hz x hx=>by rw [List.mem_singleton.mp hz];exact hc x hx
  show Mg _ _ _ _ _
  rw [Array.toList_push];exact this
 have pA:∀ {out ia ib x},M out ia ib→a[ia]?=some x→(∀ y∈b.toList.drop ib,le κ x y)→M (out.push x) (ia + 1) ib:=fun {out ia ib x} m e hc=>by
  have m':Mg (le κ) out.toList ([x]++a.toList.drop (ia + 1)) (b.toList.drop ib) (a.toList++b.toList):=by
   have:=m;rw [show M out ia ib=Mg (le κ) out.toList (a.toList.drop ia) (b.toList.drop ib) (a.toList++b.toList) from rfl,kg e] at this;exact this
  have:=m'.appX fun z hz x hx=>by rw [List.mem_singleton.mp hz];exact hc x hx
  show Mg _ _ _ _ _
  rw [Array.toList_push];exact this
 have qA:∀ {out ia ib} (k:Nat),M out ia ib→(∀ x∈(a.toList.drop ia).take k,∀ y∈b.toList.drop ib,le κ x y)→M (out++a.extract ia (ia + k)) (ia + k) ib:=fun {out ia ib} k m hc=>by
  have m':Mg (le κ) out.toList ((a.toList.drop ia).take k++a.toList.drop (ia + k)) (b.toList.drop ib) (a.toList++b.toList):=by rw [← List.drop_drop,List.take_append_drop];exact m
  have:=m'.appX hc
  show Mg _ _ _ _ _
  rw [Array.toList_append,nL];exact this
 have qB:∀ {out ia ib} (k:Nat),M out ia ib→(∀ y∈(b.toList.drop ib).take k,∀ x∈a.toList.drop ia,le κ y x)→M (out++b.extract ib (ib + k)) ia (ib + k):=fun {out ia ib} k m hc=>by
  have m':Mg (le κ) out.toList (a.toList.drop ia) ((b.toList.drop ib).take k++b.toList.drop (ib + k)) (a.toList++b.toList):=by rw [← List.drop_drop,List.take_append_drop];exact m
  have:=m'.appY hc
  show Mg _ _ _ _ _
  rw [Array.toList_append,nL];exact this
 unfold mlo'
 refine wpS_bind (wpS_lift (wpAny_rule ⟨rfl,?_⟩))
 obtain ⟨y0,e0⟩:=at_some b0
 refine wpS_bind (eB e0 ?_)
 dsimp only
 have m0:M #[y0] 0 1:=by
  have:Mg (le κ) [] a.toList ([y0]++b.toList.drop 1) (a.toList++b.toList):=by
   have e:[y0]++b.toList.drop 1=b.toList:=by have:=kg e0;rw [List.drop_zero] at this;rw [this];simp
   rw [e]
   exact⟨List.Perm.refl _,.nil,ha,hb,fun u hu=>(nomatch hu)⟩
  exact this.appY fun y hy x hx=>by rw [List.mem_singleton.mp hy];exact h0 y0 e0 x hx
 by_cases c1:1=b.size
 ·rw [if_pos (by simpa using c1)]
  have:=dB m0 c1
  exact wpS_pure (h _ _ (Smm.refl st) this.1 this.2)
 rw [if_neg (by simpa using c1)]
 by_cases c2:0 + 1=a.size
 ·rw [if_pos (by simpa using c2)]
  have:=dA m0 c2
  exact wpS_pure (h _ _ (Smm.refl st) this.1 this.2)
 rw [if_neg (by simpa using c2)]
 refine wpS_bind (wpS_get ?_)
 refine wpS_bind (wpS_mono (wpS_forRange (I:=fun x c st'=>Smm st st'∧∃ out ia ib g,c=(none,out,ia,ib,g)∧M out ia ib∧ia + 1 < a.size∧ib < b.size∧x + 1≤out.size) (Q:=fun c st'=>Smm st st'∧∃ r z,c=(some r,z)∧Rs r) ?_ ?_ ⟨Smm.refl st,#[y0],0,1,_,rfl,m0,by omega,by omega,Nat.le_refl 1⟩) ?_)
 ·rintro x c st1 _ hx ⟨s1,out,ia,ib,g,rfl,m,a1,b1,o1⟩
  dsimp only
  refine wpS_bind (wpS_mono (wpS_forRange (I:=fun x c st'=>Smm st st'∧∃ out' ia ib ac bc,c=(none,out',ia,ib,ac,bc)∧M out' ia ib∧ia + 1 < a.size∧ib < b.size∧x + 1≤out'.size∧out.size≤out'.size)
   (Q:=fun c st'=>Smm st st'∧((∃ r z,c=(some r,z)∧Rs r)∨∃ out' ia ib ac bc,c=(none,out',ia,ib,ac,bc)∧M out' ia ib∧ia + 1 < a.size∧ib < b.size∧out.size≤out'.size)) ?_ ?_ ⟨s1,out,ia,ib,_,_,rfl,m,a1,b1,by omega,Nat.le_refl _⟩) ?_)
  ·rintro x2 c st2 _ hx2 ⟨s2,out',ia,ib,ac,bc,rfl,m,a1,b1,o2,o3⟩
   dsimp only
   obtain ⟨y,ey⟩:=at_some (a:=b) b1
   obtain ⟨x,ex⟩:=at_some (a:=a) (i:=ia) (by omega)
   refine wpS_bind (eB ey (wpS_bind (eB ex (wpS_bind (w_lt hO (by rw [s2.k];exact hk) (kyb _ (aZ ey)) (kya _ (aZ ex)) ?_)))))
   cases e:κ.blt (yU κ y) (yU κ x) with
   | true =>
    refine wpS_bind (eB ey ?_)
    have m':=pB m ey fun z hz=>by
     obtain ⟨j,hj,ez⟩:=dH hz
     exact KeyOrd.kle_trans (KeyOrd.kle_of_klt e) (Sa hj ex ez)
    by_cases c3:ib + 1=b.size
    ·rw [if_pos (by simpa using c3)]
     exact wpS_pure ⟨s2,.inl ⟨_,_,rfl,dB m' c3⟩⟩
    ·rw [if_neg (by simpa using c3)]
     by_cases c4:bc + 1 ≥ g
     ·rw [if_pos c4]
      exact wpS_pure ⟨s2,.inr ⟨_,_,_,_,_,rfl,m',a1,by omega,by rw [Array.size_push];omega⟩⟩
     ·rw [if_neg c4]
      exact wpS_pure ⟨s2,_,_,_,_,_,rfl,m',a1,by omega,by rw [Array.size_push];omega,by rw [Array.size_push];omega⟩
   | false =>
    refine wpS_bind (eB ex ?_)
    have m':=pA m ex fun z hz=>by
     obtain ⟨j,hj,ez⟩:=dH hz
     exact KeyOrd.kle_trans (show κ.kle _ _ from e) (Sb hj ey ez)
    by_cases c3:ia + 1 + 1=a.size
    ·rw [if_pos (by simpa using c3)]
     exact wpS_pure ⟨s2,.inl ⟨_,_,rfl,dA m' c3⟩⟩
    ·rw [if_neg (by simpa using c3)]
     by_cases c4:ac + 1 ≥ g
     ·rw [if_pos c4]
      exact wpS_pure ⟨s2,.inr ⟨_,_,_,_,_,rfl,m',by omega,b1,by rw [Array.size_push];omega⟩⟩
     ·rw [if_neg c4]
      exact wpS_pure ⟨s2,_,_,_,_,_,rfl,m',by omega,b1,by rw [Array.size_push];omega,by rw [Array.size_push];omega⟩
  ·rintro c st2 ⟨s2,out',ia,ib,ac,bc,rfl,m,a1,b1,o2,o3⟩
   have:=sz m (by omega) (by omega)
   omega
  ·rintro c st2 ⟨s2,⟨r,z,rfl,hr⟩ | ⟨out1,ia,ib,ac,bc,rfl,m,a1,b1,o2⟩⟩
   ·obtain ⟨z1,z2,z3,z4,z5⟩:=z
    exact wpS_pure ⟨s2,_,_,rfl,hr⟩
   ·dsimp only
    refine wpS_bind (wpS_lift (wpAny_rule ⟨rfl,?_⟩))
    refine wpS_bind (wpS_mono (wpS_forRange (I:=fun x c st'=>Smm st st'∧∃ out' ia ib g ac bc,c=(none,out',ia,ib,g,ac,bc)∧M out' ia ib∧ia + 1 < a.size∧ib < b.size∧out1.size + x≤out'.size)
     (Q:=fun c st'=>Smm st st'∧((∃ r z,c=(some r,z)∧Rs r)∨∃ out' ia ib g ac bc,c=(none,out',ia,ib,g,ac,bc)∧M out' ia ib∧ia + 1 < a.size∧ib < b.size∧out1.size < out'.size)) ?_ ?_ ⟨s2,out1,ia,ib,_,_,_,rfl,m,a1,b1,by omega⟩) ?_)
    ·rintro x2 c st2 _ hx2 ⟨s2,out',ia,ib,g,ac,bc,rfl,m,a1,b1,o3⟩
     dsimp only
     obtain ⟨y,ey⟩:=at_some (a:=b) b1
     rcases Nat.lt_or_ge 1 g with cg | cg
     case' inl=>rw [if_pos cg];generalize g - 1=g1
     case' inr=>rw [if_neg (Nat.not_lt.mpr cg)];clear cg;generalize g=g1
     all_goals
      refine wpS_bind (nY s2 fun st3 s3=>wpS_bind (eB ey (wpS_bind (w_gr hO (by rw [s3.k];exact hk) (kyb _ (aZ ey)) kya (fun i j x y _ hij _ ex ey=>Sa hij ex ey) (by omega) (by omega) fun k hkn h1 h2=>?_))))
      have m1:=qA k m fun x hx z hz=>by
       obtain ⟨j,hj,ex⟩:=pZ hx
       obtain ⟨l,hl,ez⟩:=dH hz
       exact KeyOrd.kle_trans (h1 _ x (by omega) (by omega) ex) (Sb hl ey ez)
      have nl:ia + k≠a.size:=fun z=>by
       obtain ⟨x,ex⟩:=at_some (a:=a) (i:=a.size - 1) (by omega)
       exact KeyOrd.not_klt_of_kle (h1 _ x (by omega) (by omega) ex) (hl x ex y (aZ ey))
      dsimp only
      rcases Nat.eq_zero_or_pos k with c5 | c5
      case' inl =>
       subst c5
       rw [if_neg (Nat.lt_irrefl 0)]
       have e1:out'++a.extract ia (ia + 0)=out':=by simp;omega
       rw [e1] at m1
       obtain ⟨out2,eo⟩:∃ z,out'=z:=⟨_,rfl⟩
       obtain ⟨ia2,ei⟩:∃ z,ia=z:=⟨_,rfl⟩
       have o4:out'.size≤out2.size:=by rw [eo];exact Nat.le_refl _
       rw [eo,ei] at m1 ⊢
       have i2:ia2 + 1 < a.size:=by omega
       have g2:∀ z∈a.toList.drop ia2,le κ y z:=fun z hz=>by
        obtain ⟨j,hj,ez⟩:=dH hz
        have:=om ez
        exact KeyOrd.kle_of_klt (h2 j z (by omega) (by omega) ez)
      case' inr =>
       rw [if_pos c5]
       by_cases c6:ia + k + 1=a.size
       ·rw [if_pos (by simpa using c6)]
        exact wpS_pure ⟨s3,.inl ⟨_,_,rfl,dA m1 c6⟩⟩
       rw [if_neg (by simpa using c6),if_neg (by simpa using nl)]
       have o4:out'.size≤(out'++a.extract ia (ia + k)).size:=by rw [Array.size_append];omega
       have g2:∀ z∈a.toList.drop (ia + k),le κ y z:=fun z hz=>by
        obtain ⟨j,hj,ez⟩:=dH hz
        have:=om ez
        exact KeyOrd.kle_of_klt (h2 j z (by omega) (by omega) ez)
       have i2:ia + k + 1 < a.size:=by omega
       generalize out'++a.extract ia (ia + k)=out2 at *
       generalize ia + k=ia2 at *
      all_goals
       refine wpS_bind (eB ey ?_)
       have m2:=pB m1 ey g2
       have s5:(out2.push y).size=out2.size + 1:=Array.size_push ..
       generalize out2.push y=out3 at *
       by_cases c3:ib + 1=b.size
       ·rw [if_pos (by simpa using c3)]
        exact wpS_pure ⟨s3,.inl ⟨_,_,rfl,dB m2 c3⟩⟩
       rw [if_neg (by simpa using c3)]
       obtain ⟨x,ex⟩:=at_some (a:=a) (i:=ia2) (by omega)
       refine wpS_bind (eB ex (wpS_bind (w_gl hO (by rw [s3.k];exact hk) (kya _ (aZ ex)) kyb (fun i j x y _ hij _ ex ey=>Sb hij ex ey) (by omega) (by omega) fun l hln f1 f2=>?_)))
       have m3:=qB l m2 fun z hz u hu=>by
        obtain ⟨j,hj,ez⟩:=pZ hz
        obtain ⟨p,hp,eu⟩:=dH hu
        exact KeyOrd.kle_trans (KeyOrd.kle_of_klt (f1 _ z (by omega) (by omega) ez)) (Sa hp ex eu)
       dsimp only
       rcases Nat.eq_zero_or_pos l with c9 | c9
       case' inl =>
        subst c9
        rw [if_neg (Nat.lt_irrefl 0)]
        have e1:out3++b.extract (ib + 1) (ib + 1 + 0)=out3:=by simp;omega
        rw [e1] at m3
        obtain ⟨out4,eo⟩:∃ z,out3=z:=⟨_,rfl⟩
        have o6:out3.size≤out4.size:=by rw [eo];exact Nat.le_refl _
        have g3:∀ z∈b.toList.drop (ib + 1),le κ x z:=fun z hz=>by
         obtain ⟨j,hj,ez⟩:=dH hz
         have:=om ez
         exact f2 j z (by omega) (by omega) ez
        have i3:ib + 1 < b.size:=by omega
        rw [eo] at m3 ⊢
        generalize ib + 1=ib2 at *
       case' inr =>
        rw [if_pos c9]
        by_cases c10:ib + 1 + l=b.size
        ·rw [if_pos (by simpa using c10)]
         exact wpS_pure ⟨s3,.inl ⟨_,_,rfl,dB m3 c10⟩⟩
        rw [if_neg (by simpa using c10)]
        have o6:out3.size≤(out3++b.extract (ib + 1) (ib + 1 + l)).size:=by rw [Array.size_append];omega
        have g3:∀ z∈b.toList.drop (ib + 1 + l),le κ x z:=fun z hz=>by
         obtain ⟨j,hj,ez⟩:=dH hz
         have:=om ez
         exact f2 j z (by omega) (by omega) ez
        have i3:ib + 1 + l < b.size:=by omega
        generalize out3++b.extract (ib + 1) (ib + 1 + l)=out4 at *
        generalize ib + 1 + l=ib2 at *
       all_goals
        refine wpS_bind (eB ex ?_)
        have m4:=pA m3 ex g3
        have s7:(out4.push x).size=out4.size + 1:=Array.size_push ..
        by_cases c11:ia2 + 1 + 1=a.size
        ·rw [if_pos (by simpa using c11)]
         exact wpS_pure ⟨s3,.inl ⟨_,_,rfl,dA m4 c11⟩⟩
        rw [if_neg (by simpa using c11)]
        split
        ·exact wpS_pure ⟨s3,.inr ⟨_,_,_,_,_,_,rfl,m4,by omega,i3,by omega⟩⟩
        ·exact wpS_pure ⟨s3,_,_,_,_,_,_,rfl,m4,by omega,i3,by omega⟩
    ·rintro c st2 ⟨s2,out',ia,ib,g,ac,bc,rfl,m,a1,b1,o3⟩
     have:=sz m (by omega) (by omega)
     omega
    ·rintro c st2 ⟨s2,⟨r,z,rfl,hr⟩ | ⟨out2,ia,ib,g,ac,bc,rfl,m,a1,b1,o2⟩⟩
     ·obtain ⟨z1,z2,z3,z4,z5,z6⟩:=z
      exact wpS_pure ⟨s2,_,_,rfl,hr⟩
     ·dsimp only
      exact wpS_bind (nY s2 fun st3 s3=>wpS_pure ⟨s3,_,_,_,_,rfl,m,a1,b1,by omega⟩)
 ·rintro c st' ⟨s1,out,ia,ib,g,rfl,m,a1,b1,o1⟩
  have:=sz m (by omega) (by omega)
  omega
 ·rintro c st' ⟨s1,r,z,rfl,hr⟩
  exact wpS_pure (h _ _ s1 hr.1 hr.2)
end
end TS
namespace TS
open PySem PyProof.Rows
section
variable {α:Type} {a:Array α}
theorem ex_0 {i:Nat}:(a.extract 0 i).toList=a.toList.take i:=by simp [List.extract_eq_drop_take]
theorem ex_r {i k:Nat}:(a.extract i k).reverse.toList=((a.toList.take k).drop i).reverse:=by
 rw [Array.toList_reverse]
 congr 1
 simp only [Array.toList_extract,List.extract_eq_drop_take,List.drop_take]
theorem wx {i k:Nat} (h:i≤k):(a.toList.take k).reverse=((a.toList.take k).drop i).reverse++(a.toList.take i).reverse:=by
 rw [← List.reverse_append]
 congr 1
 conv=>lhs;rw [← List.take_append_drop i (a.toList.take k)]
 rw [List.take_take,Nat.min_eq_left h]
theorem uF {k:Nat} {x:α} (h:a[k]?=some x):(a.toList.take (k + 1)).reverse=[x]++(a.toList.take k).reverse:=by
 have h:a.toList[k]?=some x:=by simpa using h
 rw [List.take_add_one,h,List.reverse_append];rfl
theorem b7 {k:Nat} {x:α} (h:x∈(a.toList.take k).reverse):∃ j,j < k∧a[j]?=some x:=by
 obtain ⟨j,hj⟩:=List.getElem?_of_mem (List.mem_reverse.mp h)
 have hl:=(List.getElem?_eq_some_iff.mp hj).1
 rw [List.length_take] at hl
 rw [List.getElem?_take_of_lt (by omega)] at hj
 exact⟨j,by omega,by simpa using hj⟩
theorem pD {i k:Nat} {x:α} (h:x∈((a.toList.take k).drop i).reverse):∃ j,i≤j∧j < k∧a[j]?=some x:=by
 obtain ⟨j,hj⟩:=List.getElem?_of_mem (List.mem_reverse.mp h)
 rw [List.getElem?_drop] at hj
 have hl:=(List.getElem?_eq_some_iff.mp hj).1
 rw [List.length_take] at hl
 rw [List.getElem?_take_of_lt (by omega)] at hj
 exact⟨i + j,by omega,by omega,by simpa using hj⟩
end
section
variable {prog:Program} {w:World} {A:Around} {E:Value→Shared→Prop} {s:Shared} {κ:KeyKind}
theorem xK (hO:κ.OneLt) {a b:Array Keyed} {st:SortSt} {Q:Array Keyed→SortSt→Prop} (hk:kindOf st=oneType') (kya:∀ p∈a.toList,Ky κ p) (kyb:∀ p∈b.toList,Ky κ p) (ha:a.toList.Pairwise (le κ)) (hb:b.toList.Pairwise (le κ)) (a0:0 < a.size) (b0:0 < b.size)
  (h0:∀ y,b[0]?=some y→∀ x∈a.toList,le κ y x) (hl:∀ x,a[a.size - 1]?=some x→∀ y∈b.toList,κ.klt (yU κ y) (yU κ x))
  (h:∀ r st',Smm st st'→r.toList.Perm (a.toList++b.toList)→r.toList.Pairwise (le κ)→Q r st'):wpS (model prog w) A E s (mhi' a b) Q st:=by
 have Sa:=fun {i j x y}=>mI cR ha (i:=i) (j:=j) (x:=x) (y:=y)
 have Sb:=fun {i j x y}=>mI cR hb (i:=i) (j:=j) (x:=x) (y:=y)
 let ge:=fun (p q:Keyed)=>le κ q p
 let M:=fun (out:Array Keyed) (na nb:Nat)=>Mg ge out.toList (a.toList.take na).reverse (b.toList.take nb).reverse (a.toList++b.toList)
 let Rs:=fun (r:Array Keyed)=>r.toList.Perm (a.toList++b.toList)∧r.toList.Pairwise (le κ)
 have sz:∀ {out na nb},M out na nb→na≤a.size→nb≤b.size→out.size + na + nb=a.size + b.size:=fun m h1 h2=>by
  have:=m.pm.length_eq
  simp only [List.length_append,List.length_reverse,List.length_take,Array.length_toList] at this
  omega
 have rv:∀ {l:List Keyed},l.Perm (a.toList++b.toList)∧l.Pairwise ge→l.reverse.Perm (a.toList++b.toList)∧l.reverse.Pairwise (le κ):=fun ⟨p,q⟩=>⟨(List.reverse_perm _).trans p,List.pairwise_reverse.mpr q⟩
 have dA:∀ {out na nb},M out na nb→na=0∨nb=0→Rs (a.extract 0 na++b.extract 0 nb++out.reverse):=fun {out na nb} m e=>by
  have:=rv (m.finY fun y hy x hx=>by
   obtain ⟨i,hi,_⟩:=b7 hx
   obtain ⟨j,hj,_⟩:=b7 hy
   omega)
  show _∧_
  rw [Array.toList_append,Array.toList_append,ex_0,ex_0,Array.toList_reverse]
  rwa [List.reverse_append,List.reverse_append,List.reverse_reverse,List.reverse_reverse,← List.append_assoc] at this
 have dB:∀ {out na nb},M out na nb→nb=1→Rs (b.extract 0 nb++a.extract 0 na++out.reverse):=fun {out na nb} m e=>by
  have:=rv (m.fin fun x hx y hy=>by
   obtain ⟨i,hi,ex⟩:=b7 hx
   obtain ⟨j,hj,ey⟩:=b7 hy
   exact h0 y (by rw [← ey];congr 1;omega) x (aZ ex))
  show _∧_
  rw [Array.toList_append,Array.toList_append,ex_0,ex_0,Array.toList_reverse]
  rwa [List.reverse_append,List.reverse_append,List.reverse_reverse,List.reverse_reverse,← List.append_assoc] at this
 have pA:∀ {out na nb x},M out (na + 1) nb→a[na]?=some x→(∀ y∈(b.toList.take nb).reverse,le κ y x)→M (out.push x) na nb:=fun {out na nb x} m e hc=>by
  have m':Mg ge out.toList ([x]++(a.toList.take na).reverse) (b.toList.take nb).reverse (a.toList++b.toList):=by rw [← uF e];exact m
  have:=m'.appX fun z hz y hy=>by rw [List.mem_singleton.mp hz];exact hc y hy
  show Mg _ _ _ _ _
  rw [Array.toList_push];exact this
 have pB:∀ {out na nb y},M out na (nb + 1)→b[nb]?=some y→(∀ x∈(a.toList.take na).reverse,le κ x y)→M (out.push y) na nb:=fun {out na nb y} m e hc=>by
  have m':Mg ge out.toList (a.toList.take na).reverse ([y]++(b.toList.take nb).reverse) (a.toList++b.toList):=by rw [← uF e];exact m
  have:=m'.appY fun z hz x hx=>by rw [List.mem_singleton.mp hz];exact hc x hx
  show Mg _ _ _ _ _
  rw [Array.toList_push];exact this
 have qA:∀ {out na nb i},i≤na→M out na nb→(∀ j x,i≤j→j < na→a[j]?=some x→∀ y∈(b.toList.take nb).reverse,le κ y x)→M (out++(a.extract i na).reverse) i nb:=fun {out na nb i} hi m hc=>by
  have m':Mg ge out.toList (((a.toList.take na).drop i).reverse++(a.toList.take i).reverse) (b.toList.take nb).reverse (a.toList++b.toList):=by rw [← wx hi];exact m
  have:=m'.appX fun x hx y hy=>by
   obtain ⟨j,h1,h2,ex⟩:=pD hx
   exact hc j x h1 h2 ex y hy
  show Mg _ _ _ _ _
  rw [Array.toList_append,ex_r];exact this
 have qB:∀ {out na nb i},i≤nb→M out na nb→(∀ j y,i≤j→j < nb→b[j]?=some y→∀ x∈(a.toList.take na).reverse,le κ x y)→M (out++(b.extract i nb).reverse) na i:=fun {out na nb i} hi m hc=>by
  have m':Mg ge out.toList (a.toList.take na).reverse (((b.toList.take nb).drop i).reverse++(b.toList.take i).reverse) (a.toList++b.toList):=by rw [← wx hi];exact m
  have:=m'.appY fun x hx y hy=>by
   obtain ⟨j,h1,h2,ex⟩:=pD hx
   exact hc j x h1 h2 ex y hy
  show Mg _ _ _ _ _
  rw [Array.toList_append,ex_r];exact this
 unfold mhi'
 refine wpS_bind (wpS_lift (wpAny_rule ⟨rfl,?_⟩))
 obtain ⟨x0,e0⟩:=at_some (a:=a) (i:=a.size - 1) (by omega)
 refine wpS_bind (eB e0 ?_)
 dsimp only
 have m0:M #[x0] (a.size - 1) b.size:=by
  have:Mg ge [] (a.toList.take (a.size - 1 + 1)).reverse (b.toList.take b.size).reverse (a.toList++b.toList):=by
   rw [List.take_of_length_le (by simp;omega),List.take_of_length_le (by simp)]
   exact⟨(List.reverse_perm _).append (List.reverse_perm _),.nil,List.pairwise_reverse.mpr ha,List.pairwise_reverse.mpr hb,fun u hu=>(nomatch hu)⟩
  exact pA (out:=#[]) this e0 fun y hy=>by
   obtain ⟨j,_,ey⟩:=b7 hy
   exact KeyOrd.kle_of_klt (hl x0 e0 y (aZ ey))
 by_cases c1:a.size - 1=0
 ·rw [if_pos (by simpa using c1)]
  have:=dA m0 (.inl c1)
  exact wpS_pure (h _ _ (Smm.refl st) this.1 this.2)
 rw [if_neg (by simpa using c1)]
 by_cases c2:b.size=1
 ·rw [if_pos (by simpa using c2)]
  have:=dB m0 c2
  exact wpS_pure (h _ _ (Smm.refl st) this.1 this.2)
 rw [if_neg (by simpa using c2)]
 refine wpS_bind (wpS_get ?_)
 refine wpS_bind (wpS_mono (wpS_forRange (I:=fun x c st'=>Smm st st'∧∃ out na nb g,c=(none,na + 1,nb + 2,out,g)∧M out (na + 1) (nb + 2)∧na < a.size∧nb + 2≤b.size∧x + 1≤out.size) (Q:=fun c st'=>Smm st st'∧∃ r z,c=(some r,z)∧Rs r) ?_ ?_ ?_) ?_)
 ·rintro x c st1 _ hx ⟨s1,out,na,nb,g,rfl,m,a1,b1,o1⟩
  dsimp only
  refine wpS_bind (wpS_mono (wpS_forRange (I:=fun x c st'=>Smm st st'∧∃ out' na nb ac bc,c=(none,na + 1,nb + 2,out',ac,bc)∧M out' (na + 1) (nb + 2)∧na < a.size∧nb + 2≤b.size∧x + 1≤out'.size∧out.size≤out'.size)
   (Q:=fun c st'=>Smm st st'∧((∃ r z,c=(some r,z)∧Rs r)∨∃ out' na nb ac bc,c=(none,na + 1,nb + 2,out',ac,bc)∧M out' (na + 1) (nb + 2)∧na < a.size∧nb + 2≤b.size∧out.size≤out'.size)) ?_ ?_ ⟨s1,out,na,nb,_,_,rfl,m,a1,b1,by omega,Nat.le_refl _⟩) ?_)
  ·rintro x2 c st2 _ hx2 ⟨s2,out',na,nb,ac,bc,rfl,m,a1,b1,o2,o3⟩
   dsimp only
   obtain ⟨y,ey⟩:=at_some (a:=b) (i:=nb + 1) (by omega)
   obtain ⟨x,ex⟩:=at_some (a:=a) (i:=na) (by omega)
   refine wpS_bind (eB ey (wpS_bind (eB ex (wpS_bind (w_lt hO (by rw [s2.k];exact hk) (kyb _ (aZ ey)) (kya _ (aZ ex)) ?_)))))
   cases e:κ.blt (yU κ y) (yU κ x) with
   | true =>
    refine wpS_bind (eB ex ?_)
    have m':=pA m ex fun z hz=>by
     obtain ⟨j,hj,ez⟩:=b7 hz
     exact KeyOrd.kle_trans (Sb (by omega) ez ey) (KeyOrd.kle_of_klt e)
    have s5:(out'.push x).size=out'.size + 1:=Array.size_push ..
    cases na with
    | zero =>
     rw [if_pos (by simp)]
     exact wpS_pure ⟨s2,.inl ⟨_,_,rfl,dA m' (.inl rfl)⟩⟩
    | succ na =>
     rw [if_neg (by simp)]
     split
     ·exact wpS_pure ⟨s2,.inr ⟨_,_,_,_,_,rfl,m',by omega,b1,by omega⟩⟩
     ·exact wpS_pure ⟨s2,_,_,_,_,_,rfl,m',by omega,b1,by omega,by omega⟩
   | false =>
    refine wpS_bind (eB ey ?_)
    have m':=pB m ey fun z hz=>by
     obtain ⟨j,hj,ez⟩:=b7 hz
     exact KeyOrd.kle_trans (Sa (by omega) ez ex) (show κ.kle _ _ from e)
    have s5:(out'.push y).size=out'.size + 1:=Array.size_push ..
    cases nb with
    | zero =>
     rw [if_pos (by simp)]
     exact wpS_pure ⟨s2,.inl ⟨_,_,rfl,dB m' rfl⟩⟩
    | succ nb =>
     rw [if_neg (by simp)]
     split
     ·exact wpS_pure ⟨s2,.inr ⟨_,_,_,_,_,rfl,m',a1,by omega,by omega⟩⟩
     ·exact wpS_pure ⟨s2,_,_,_,_,_,rfl,m',a1,by omega,by omega,by omega⟩
  ·rintro c st2 ⟨s2,out',na,nb,ac,bc,rfl,m,a1,b1,o2,o3⟩
   have:=sz m (by omega) (by omega)
   omega
  ·rintro c st2 ⟨s2,⟨r,z,rfl,hr⟩ | ⟨out1,na,nb,ac,bc,rfl,m,a1,b1,o2⟩⟩
   ·obtain ⟨z1,z2,z3,z4,z5⟩:=z
    exact wpS_pure ⟨s2,_,_,rfl,hr⟩
   ·dsimp only
    refine wpS_bind (wpS_lift (wpAny_rule ⟨rfl,?_⟩))
    refine wpS_bind (wpS_mono (wpS_forRange (I:=fun x c st'=>Smm st st'∧∃ out' na nb g ac bc,c=(none,na + 1,nb + 2,out',g,ac,bc)∧M out' (na + 1) (nb + 2)∧na < a.size∧nb + 2≤b.size∧out1.size + x≤out'.size)
     (Q:=fun c st'=>Smm st st'∧((∃ r z,c=(some r,z)∧Rs r)∨∃ out' na nb g ac bc,c=(none,na + 1,nb + 2,out',g,ac,bc)∧M out' (na + 1) (nb + 2)∧na < a.size∧nb + 2≤b.size∧out1.size < out'.size)) ?_ ?_ ⟨s2,out1,na,nb,_,_,_,rfl,m,a1,b1,by omega⟩) ?_)
    ·rintro x2 c st2 _ hx2 ⟨s2,out',na,nb,g,ac,bc,rfl,m,a1,b1,o3⟩
     dsimp only
     obtain ⟨y,ey⟩:=at_some (a:=b) (i:=nb + 1) (by omega)
     rcases Nat.lt_or_ge 1 g with cg | cg
     case' inl=>rw [if_pos cg];generalize g - 1=g1
     case' inr=>rw [if_neg (Nat.not_lt.mpr cg)];clear cg;generalize g=g1
     all_goals
      refine wpS_bind (nY s2 fun st3 s3=>wpS_bind (eB ey (wpS_bind (w_gr hO (by rw [s3.k];exact hk) (kyb _ (aZ ey)) kya (fun i j x y _ hij _ ex ey=>Sa hij ex ey) (by omega) (by omega) fun k hkn h1 h2=>?_))))
      simp only [Nat.zero_add] at h1 h2
      have m1:=qA hkn m fun j x h3 h4 ex z hz=>by
       obtain ⟨l,hl,ez⟩:=b7 hz
       exact KeyOrd.kle_trans (Sb (by omega) ez ey) (KeyOrd.kle_of_klt (h2 j x h3 h4 ex))
      have g2:∀ j x,j < k→a[j]?=some x→le κ x y:=fun j x hj ex=>h1 j x (Nat.zero_le _) hj ex
      dsimp only
      rcases Nat.lt_or_ge k (na + 1) with c5 | c5
      case' inl =>
       rw [if_pos (show na + 1 - k > 0 by omega)]
       by_cases c6:k=0
       ·rw [if_pos (by simpa using c6)]
        exact wpS_pure ⟨s3,.inl ⟨_,_,rfl,dA m1 (.inl c6)⟩⟩
       rw [if_neg (by simpa using c6)]
       have o4:out'.size≤(out'++(a.extract k (na + 1)).reverse).size:=by rw [Array.size_append];omega
       obtain ⟨n2,rfl⟩:∃ n2,k=n2 + 1:=⟨k - 1,by omega⟩
       generalize out'++(a.extract (n2 + 1) (na + 1)).reverse=out2 at *
      case' inr =>
       have e1:k=na + 1:=by omega
       subst e1
       rw [if_neg (show ¬ na + 1 - (na + 1) > 0 by omega)]
       have e1:out'++(a.extract (na + 1) (na + 1)).reverse=out':=by simp;omega
       rw [e1] at m1
       obtain ⟨out2,eo⟩:∃ z,out'=z:=⟨_,rfl⟩
       have o4:out'.size≤out2.size:=by rw [eo];exact Nat.le_refl _
       rw [eo] at m1 ⊢
       obtain ⟨n2,en⟩:∃ z,na=z:=⟨_,rfl⟩
       rw [en] at m1 g2 ⊢
      all_goals
       have i2:n2 < a.size:=by omega
       refine wpS_bind (eB ey ?_)
       have m2:=pB m1 ey fun z hz=>by
        obtain ⟨j,hj,ez⟩:=b7 hz
        exact g2 j z hj ez
       have s5:(out2.push y).size=out2.size + 1:=Array.size_push ..
       generalize out2.push y=out3 at *
       cases nb with
       | zero =>
        rw [if_pos (by simp)]
        exact wpS_pure ⟨s3,.inl ⟨_,_,rfl,dB m2 rfl⟩⟩
       | succ nb =>
        rw [if_neg (by simp)]
        obtain ⟨x,ex⟩:=at_some (a:=a) (i:=n2) i2
        refine wpS_bind (eB ex (wpS_bind (w_gl hO (by rw [s3.k];exact hk) (kya _ (aZ ex)) kyb (fun i j x y _ hij _ ex ey=>Sb hij ex ey) (by omega) (by omega) fun l hln f1 f2=>?_)))
        simp only [Nat.zero_add] at f1 f2
        have hln:l≤nb + 2:=hln
        have m3:=qB hln m2 fun j z h3 h4 ez u hu=>by
         obtain ⟨p,hp,eu⟩:=b7 hu
         exact KeyOrd.kle_trans (Sa (by omega) eu ex) (f2 j z h3 h4 ez)
        have g3:∀ j z,j < l→b[j]?=some z→le κ z x:=fun j z hj ez=>KeyOrd.kle_of_klt (f1 j z (Nat.zero_le _) hj ez)
        dsimp only
        rw [show nb + 1 + 2 - 1=nb + 2 from rfl]
        rcases Nat.lt_or_ge l (nb + 2) with c9 | c9
        case' inl =>
         rw [if_pos (show nb + 2 - l > 0 by omega)]
         by_cases c10:l=1
         ·rw [if_pos (by simpa using c10)]
          exact wpS_pure ⟨s3,.inl ⟨_,_,rfl,dB m3 c10⟩⟩
         rw [if_neg (by simpa using c10)]
         by_cases c11:l=0
         ·rw [if_pos (by simpa using c11)]
          exact wpS_pure ⟨s3,.inl ⟨_,_,rfl,dA m3 (.inr c11)⟩⟩
         rw [if_neg (by simpa using c11)]
         have o6:out3.size≤(out3++(b.extract l (nb + 2)).reverse).size:=by rw [Array.size_append];omega
         obtain ⟨p,rfl⟩:∃ p,l=p + 2:=⟨l - 2,by omega⟩
         generalize out3++(b.extract (p + 2) (nb + 2)).reverse=out4 at *
        case' inr =>
         have e1:l=nb + 2:=by omega
         subst e1
         rw [if_neg (show ¬ nb + 2 - (nb + 2) > 0 by omega)]
         have e1:out3++(b.extract (nb + 2) (nb + 2)).reverse=out3:=by simp;omega
         rw [e1] at m3
         obtain ⟨out4,eo⟩:∃ z,out3=z:=⟨_,rfl⟩
         have o6:out3.size≤out4.size:=by rw [eo];exact Nat.le_refl _
         rw [eo] at m3 ⊢
         obtain ⟨p,en⟩:∃ z,nb=z:=⟨_,rfl⟩
         rw [en] at m3 g3 ⊢
        all_goals
         refine wpS_bind (eB ex ?_)
         have m4:=pA m3 ex fun z hz=>by
          obtain ⟨j,hj,ez⟩:=b7 hz
          exact g3 j z hj ez
         have s7:(out4.push x).size=out4.size + 1:=Array.size_push ..
         cases n2 with
         | zero =>
          rw [if_pos (by simp)]
          exact wpS_pure ⟨s3,.inl ⟨_,_,rfl,dA m4 (.inl rfl)⟩⟩
         | succ n2 =>
          rw [if_neg (by simp)]
          split
          ·exact wpS_pure ⟨s3,.inr ⟨_,_,_,_,_,_,rfl,m4,by omega,by omega,by omega⟩⟩
          ·exact wpS_pure ⟨s3,_,_,_,_,_,_,rfl,m4,by omega,by omega,by omega⟩
    ·rintro c st2 ⟨s2,out',na,nb,g,ac,bc,rfl,m,a1,b1,o3⟩
     have:=sz m (by omega) (by omega)
     omega
    ·rintro c st2 ⟨s2,⟨r,z,rfl,hr⟩ | ⟨out2,na,nb,g,ac,bc,rfl,m,a1,b1,o2⟩⟩
     ·obtain ⟨z1,z2,z3,z4,z5,z6⟩:=z
      exact wpS_pure ⟨s2,_,_,rfl,hr⟩
     ·dsimp only
      exact wpS_bind (nY s2 fun st3 s3=>wpS_pure ⟨s3,_,_,_,_,rfl,m,a1,b1,by omega⟩)
 ·rintro c st' ⟨s1,out,na,nb,g,rfl,m,a1,b1,o1⟩
  have:=sz m (by omega) (by omega)
  omega
 ·have e1:a.size - 1=a.size - 2 + 1:=by omega
  have e2:b.size=b.size - 2 + 2:=by omega
  exact⟨Smm.refl st,#[x0],a.size - 2,b.size - 2,_,by rw [← e1,← e2],by rw [← e1,← e2];exact m0,by omega,by omega,Nat.le_refl 1⟩
 ·rintro c st' ⟨s1,r,z,rfl,hr⟩
  exact wpS_pure (h _ _ s1 hr.1 hr.2)
end
end TS
namespace TS
open PySem PyProof.Rows
theorem pG {α:Type} {b:Nat}:∀ (l:List α) (n:Nat) (arr:Array α) (i:Nat),b + n + l.length≤arr.size →
  ((l.zipIdx n).foldl (fun a (p:α×Nat)=>a.setIfInBounds (b + p.2) p.1) arr)[i]?=if b + n≤i∧i < b + n + l.length then l[i - (b + n)]? else arr[i]?
 | [],n,arr,i,_=>by
  rw [if_neg (by rw [List.length_nil];omega)];rfl
 | x :: l,n,arr,i,h=>by
  rw [List.length_cons] at h
  rw [List.zipIdx_cons,List.foldl_cons,pG l (n + 1) _ i (by rw [Array.size_setIfInBounds];omega)]
  rw [List.length_cons]
  by_cases e:i=b + n
  ·subst e
   rw [if_neg (by omega),if_pos (by omega),Nat.sub_self,Array.getElem?_setIfInBounds,if_pos rfl,if_pos (by omega)];rfl
  ·by_cases c:b + (n + 1)≤i∧i < b + (n + 1) + l.length
   ·rw [if_pos c,if_pos (by omega),show i - (b + n)=i - (b + (n + 1)) + 1 by omega];rfl
   ·rw [if_neg c,if_neg (by omega),Array.getElem?_setIfInBounds,if_neg (Ne.symm e)]
theorem jP {α:Type} {b:Nat}:∀ (l:List (α×Nat)) (arr:Array α),(l.foldl (fun a (p:α×Nat)=>a.setIfInBounds (b + p.2) p.1) arr).size=arr.size
 | [],_=>rfl
 | x :: l,arr=>by rw [List.foldl_cons,jP l];exact Array.size_setIfInBounds
theorem pJ {α:Type} {arr:Array α} {i j p:Nat} {x:α} (e:(arr.extract i j)[p]?=some x):p < j - i∧arr[i + p]?=some x:=by
 rw [Array.getElem?_extract] at e
 by_cases c:p < min j arr.size - i
 ·rw [if_pos c] at e
  exact⟨by omega,e⟩
 ·rw [if_neg c] at e
  cases e
theorem kB {α:Type} {X:Array α} {p:Nat} (hp:p < X.toList.length):X[p]?=some X.toList[p]:=by
 have:=List.getElem?_eq_getElem hp
 rw [← this]
 simp
def Seg (κ:KeyKind) (arr:Array Keyed) (l r:Nat):Prop:=∀ i j x y,l≤i→i≤j→j < r→arr[i]?=some x→arr[j]?=some y→le κ x y
section
variable {prog:Program} {w:World} {A:Around} {E:Value→Shared→Prop} {s:Shared} {κ:KeyKind}
theorem yo {st0 st:SortSt} {Q:PUnit→SortSt→Prop} (h:Q ⟨⟩ st0):wpS (model prog w) A E s (set st0:StateT SortSt Sem PUnit) Q st:=by
 unfold wpS;rw [StateT.run_set];exact wpAny_pure ⟨rfl,h⟩
structure MgA (κ:KeyKind) (st st':SortSt) (sa e:Nat):Prop where
 k:kindOf st'=kindOf st
 f:failedOf st'=failedOf st
 pm:(arrOf st').toList.Perm (arrOf st).toList
 out:∀ i,i < sa∨e≤i→(arrOf st')[i]?=(arrOf st)[i]?
 seg:Seg κ (arrOf st') sa e
theorem xN (hO:κ.OneLt) {i sa na pw nb pw2:Nat} {st:SortSt} {Q:Bool→SortSt→Prop} (hk:kindOf st=oneType') (hf:failedOf st=none) (ky:∀ p∈(arrOf st).toList,Ky κ p) (p1:(pendingOf st)[i]?=some (sa,na,pw)) (p2:(pendingOf st)[i + 1]?=some (sa + na,nb,pw2)) (a0:0 < na) (b0:0 < nb) (hs:sa + na + nb≤(arrOf st).size)
  (sga:Seg κ (arrOf st) sa (sa + na)) (sgb:Seg κ (arrOf st) (sa + na) (sa + na + nb))
  (h:∀ st',MgA κ st st' sa (sa + na + nb)→pendingOf st'=((pendingOf st).setIfInBounds i (sa,na + nb,pw)).eraseIdxIfInBounds (i + 1)→Q true st'):wpS (model prog w) A E s (mergeAt' i) Q st:=by
 unfold mergeAt'
 refine wpS_bind (wpS_get ?_)
 rw [p1,p2]
 dsimp only
 refine wpS_bind (yo ?_)
 obtain ⟨y0,e0⟩:=at_some (a:=arrOf st) (i:=sa + na) (by omega)
 refine wpS_bind (eB e0 (wpS_bind (w_gr hO hk (ky _ (aZ e0)) ky sga (show sa + na≤(arrOf st).size by omega) a0 fun k hkn h1 h2=>?_)))
 dsimp only
 have fin:Seg κ (arrOf st) sa (sa + na + nb)→Q true (SortSt.mk' (kindOf st) (arrOf st) (((pendingOf st).setIfInBounds i (sa,na + nb,pw)).eraseIdxIfInBounds (i + 1)) (gallopOf st) (failedOf st)):=fun sg=>h _ ⟨rfl,rfl,List.Perm.refl _,fun _ _=>rfl,sg⟩ rfl
 by_cases c1:na - k=0
 ·rw [if_pos (by simpa using c1)]
  refine wpS_pure (fin fun i j x y hi hij hj ex ey=>?_)
  by_cases ci:i < sa + na
  ·by_cases cj:j < sa + na
   ·exact sga i j x y hi hij cj ex ey
   ·exact KeyOrd.kle_trans (h1 i x hi (by omega) ex) (sgb _ j _ y (Nat.le_refl _) (by omega) hj e0 ey)
  ·exact sgb i j x y (by omega) hij hj ex ey
 rw [if_neg (by simpa using c1)]
 obtain ⟨xl,el⟩:=at_some (a:=arrOf st) (i:=sa + k + (na - k) - 1) (by omega)
 refine wpS_bind (eB el (wpS_bind (w_gl hO hk (ky _ (aZ el)) ky sgb (show sa + na + nb≤(arrOf st).size by omega) (by omega) fun l hln f1 f2=>?_)))
 dsimp only
 by_cases c2:l=0
 ·rw [if_pos (by simpa using c2)]
  refine wpS_pure (fin fun i j x y hi hij hj ex ey=>?_)
  by_cases ci:i < sa + na
  ·by_cases cj:j < sa + na
   ·exact sga i j x y hi hij cj ex ey
   ·exact KeyOrd.kle_trans (sga i _ x xl hi (by omega) (by omega) ex el) (f2 j y (by omega) hj ey)
  ·exact sgb i j x y (by omega) hij hj ex ey
 rw [if_neg (by simpa using c2)]
 have X1:∀ {p:Nat} {x:Keyed},((arrOf st).extract (sa + k) (sa + na))[p]?=some x→p < na - k∧(arrOf st)[sa + k + p]?=some x:=fun {p x} e=>by
  have:=pJ e
  exact⟨by omega,this.2⟩
 have Y1:∀ {p:Nat} {x:Keyed},((arrOf st).extract (sa + na) (sa + na + l))[p]?=some x→p < l∧(arrOf st)[sa + na + p]?=some x:=fun {p x} e=>by
  have:=pJ e
  exact⟨by omega,this.2⟩
 have sx:((arrOf st).extract (sa + k) (sa + na)).size=na - k:=by rw [Array.size_extract];omega
 have sy:((arrOf st).extract (sa + na) (sa + na + l)).size=l:=by rw [Array.size_extract];omega
 have pwx:((arrOf st).extract (sa + k) (sa + na)).toList.Pairwise (le κ):=by
  rw [List.pairwise_iff_getElem]
  intro p q hp hq hpq
  exact sga _ _ _ _ (by omega) (by omega) (by have:=(X1 (kB hq)).1;omega) (X1 (kB hp)).2 (X1 (kB hq)).2
 have pwy:((arrOf st).extract (sa + na) (sa + na + l)).toList.Pairwise (le κ):=by
  rw [List.pairwise_iff_getElem]
  intro p q hp hq hpq
  exact sgb _ _ _ _ (by omega) (by omega) (by have:=(Y1 (kB hq)).1;omega) (Y1 (kB hp)).2 (Y1 (kB hq)).2
 have cut:(arrOf st).toList=(arrOf st).toList.take (sa + k)++(((arrOf st).extract (sa + k) (sa + na)).toList++((arrOf st).extract (sa + na) (sa + na + l)).toList)++(arrOf st).toList.drop (sa + na + l):=by
  have e1:((arrOf st).extract (sa + k) (sa + na)).toList=((arrOf st).toList.drop (sa + k)).take (na - k):=by
   have:=nL (a:=arrOf st) (i:=sa + k) (k:=na - k)
   rwa [show sa + k + (na - k)=sa + na by omega] at this
  rw [e1,nL,List.append_assoc,List.append_assoc]
  conv=>lhs;rw [← List.take_append_drop (sa + k) (arrOf st).toList]
  congr 1
  conv=>lhs;rw [← List.take_append_drop (na - k) ((arrOf st).toList.drop (sa + k))]
  congr 1
  rw [List.drop_drop,show sa + k + (na - k)=sa + na by omega]
  conv=>lhs;rw [← List.take_append_drop l ((arrOf st).toList.drop (sa + na))]
  congr 1
  rw [List.drop_drop]
 generalize hX:(arrOf st).extract (sa + k) (sa + na)=X at *
 generalize hY:(arrOf st).extract (sa + na) (sa + na + l)=Y at *
 have mX:∀ x∈X.toList,∃ p,p < na - k∧(arrOf st)[sa + k + p]?=some x:=fun x hx=>by
  obtain ⟨p,hp⟩:=List.getElem?_of_mem hx
  exact⟨p,X1 (by simpa using hp)⟩
 have mY:∀ x∈Y.toList,∃ p,p < l∧(arrOf st)[sa + na + p]?=some x:=fun x hx=>by
  obtain ⟨p,hp⟩:=List.getElem?_of_mem hx
  exact⟨p,Y1 (by simpa using hp)⟩
 have y0Y:Y[0]?=some y0:=by
  obtain ⟨z,ez⟩:=at_some (a:=Y) (i:=0) (by omega)
  have:=(Y1 ez).2
  rw [Nat.add_zero,e0] at this
  rw [ez,this]
 have lX:X[X.size - 1]?=some xl:=by
  obtain ⟨z,ez⟩:=at_some (a:=X) (i:=X.size - 1) (by omega)
  have:=(X1 ez).2
  rw [show sa + k + (X.size - 1)=sa + k + (na - k) - 1 by omega,el] at this
  rw [ez,this]
 have body:∀ (r:Array Keyed) (st2:SortSt),Smm (SortSt.mk' (kindOf st) (arrOf st) (((pendingOf st).setIfInBounds i (sa,na + nb,pw)).eraseIdxIfInBounds (i + 1)) (gallopOf st) (failedOf st)) st2→r.toList.Perm (X.toList++Y.toList)→r.toList.Pairwise (le κ) →
   wpS (model prog w) A E s ((modify fun u:SortSt=>setArr u (r.toList.zipIdx.foldl (fun a x=>a.setIfInBounds (sa + k + x.snd) x.fst) (arrOf u))) >>= fun _=>get >>= fun u:SortSt=>pure (failedOf u).isNone) Q st2:=fun r st2 sm pr pwr=>by
  refine wpS_bind (wpS_modify (wpS_bind (wpS_get (wpS_pure ?_))))
  have ef:failedOf st2=none:=by rw [sm.f];exact hf
  show Q (failedOf st2).isNone _
  rw [ef]
  have lr:r.toList.length=na - k + l:=by rw [pr.length_eq,List.length_append];simp [sx,sy]
  have ea:arrOf st2=arrOf st:=sm.a
  have ix:∀ j,(r.toList.zipIdx.foldl (fun a x=>a.setIfInBounds (sa + k + x.snd) x.fst) (arrOf st2))[j]?=if sa + k≤j∧j < sa + na + l then r[j - (sa + k)]? else (arrOf st)[j]?:=fun j=>by
   rw [pG r.toList 0 (arrOf st2) j (by rw [ea,lr];omega),ea,lr]
   by_cases c:sa + k≤j∧j < sa + na + l
   ·rw [if_pos (by omega),if_pos c];simp
   ·rw [if_neg (by omega),if_neg c]
  have sz:(r.toList.zipIdx.foldl (fun a x=>a.setIfInBounds (sa + k + x.snd) x.fst) (arrOf st2)).size=(arrOf st).size:=by rw [jP,ea]
  generalize r.toList.zipIdx.foldl (fun a x=>a.setIfInBounds (sa + k + x.snd) x.fst) (arrOf st2)=arr' at *
  have mem:∀ {j z},r[j]?=some z→(∃ p,p < na - k∧(arrOf st)[sa + k + p]?=some z)∨∃ p,p < l∧(arrOf st)[sa + na + p]?=some z:=fun e=>(List.mem_append.mp (pr.mem_iff.mp (aZ e))).imp (mX _) (mY _)
  refine h _ ⟨sm.k,sm.f,?_,fun j hj=>?_,?_⟩ sm.p
  ·have:arr'.toList=(arrOf st).toList.take (sa + k)++r.toList++(arrOf st).toList.drop (sa + na + l):=by
    refine List.ext_getElem? fun j=>?_
    have e1:arr'.toList[j]?=arr'[j]?:=by simp
    rw [e1,ix j]
    by_cases c1:j < sa + k
    ·rw [if_neg (by omega),List.append_assoc,List.getElem?_append_left (by rw [List.length_take];simp;omega),List.getElem?_take_of_lt c1];simp
    ·rw [List.append_assoc,List.getElem?_append_right (by rw [List.length_take];simp;omega),List.length_take]
     simp only [Array.length_toList]
     rw [Nat.min_eq_left (by omega)]
     by_cases c2:j < sa + na + l
     ·rw [if_pos (by omega),List.getElem?_append_left (by omega)];simp
     ·rw [if_neg (by omega),List.getElem?_append_right (by omega),List.getElem?_drop,lr,show sa + na + l + (j - (sa + k) - (na - k + l))=j by omega];simp
   rw [this]
   conv=>rhs;rw [cut]
   exact (pr.append_left _).append_right _
  ·rw [ix j,if_neg (by omega)]
  ·intro i j x y hi hij hj ex ey
   rw [ix i] at ex
   rw [ix j] at ey
   by_cases ci:sa + k≤i∧i < sa + na + l
   ·rw [if_pos ci] at ex
    by_cases cj:sa + k≤j∧j < sa + na + l
    ·rw [if_pos cj] at ey
     exact mI cR pwr (by omega) ex ey
    ·rw [if_neg cj] at ey
     rcases mem ex with ⟨p,hp,e⟩ | ⟨p,hp,e⟩
     ·exact KeyOrd.kle_trans (sga _ _ x xl (by omega) (by omega) (by omega) e el) (f2 j y (by omega) hj ey)
     ·exact sgb _ _ x y (by omega) (by omega) hj e ey
   ·rw [if_neg ci] at ex
    by_cases c3:i < sa + k
    ·by_cases cj:sa + k≤j∧j < sa + na + l
     ·rw [if_pos cj] at ey
      rcases mem ey with ⟨p,hp,e⟩ | ⟨p,hp,e⟩
      ·exact sga _ _ x y hi (by omega) (by omega) ex e
      ·exact KeyOrd.kle_trans (h1 i x hi c3 ex) (sgb _ _ y0 y (Nat.le_refl _) (by omega) (by omega) e0 e)
     ·rw [if_neg cj] at ey
      by_cases c4:j < sa + k
      ·exact sga _ _ x y hi hij (by omega) ex ey
      ·exact KeyOrd.kle_trans (h1 i x hi c3 ex) (sgb _ _ y0 y (Nat.le_refl _) (by omega) hj e0 ey)
    ·rw [if_neg (by omega)] at ey
     exact sgb _ _ x y (by omega) hij hj ex ey
 have kX:∀ p∈X.toList,Ky κ p:=fun p hp=>let ⟨_,_,e⟩:=mX p hp;ky p (aZ e)
 have kY:∀ p∈Y.toList,Ky κ p:=fun p hp=>let ⟨_,_,e⟩:=mY p hp;ky p (aZ e)
 have fst':∀ y,Y[0]?=some y→∀ x∈X.toList,le κ y x:=fun y ey x hx=>by
  rw [y0Y] at ey
  cases ey
  obtain ⟨p,hp,e⟩:=mX x hx
  exact KeyOrd.kle_of_klt (h2 _ x (by omega) (by omega) e)
 have lst':∀ x,X[X.size - 1]?=some x→∀ y∈Y.toList,κ.klt (yU κ y) (yU κ x):=fun x ex y hy=>by
  rw [lX] at ex
  cases ex
  obtain ⟨p,hp,e⟩:=mY y hy
  exact f1 _ y (by omega) (by omega) e
 split
 ·exact wpS_bind (xG hO hk kX kY pwx pwy (by omega) (by omega) fst' lst' fun r st2 sm pr pwr=>body r st2 sm pr pwr)
 ·exact wpS_bind (xK hO hk kX kY pwx pwy (by omega) (by omega) fst' lst' fun r st2 sm pr pwr=>body r st2 sm pr pwr)
end
end TS
namespace TS
open PySem PyProof.Rows
structure Wk (κ:KeyKind) (st0 st:SortSt) (lo hi:Nat):Prop where
 k:kindOf st=kindOf st0
 f:failedOf st=failedOf st0
 p:pendingOf st=pendingOf st0
 pm:(arrOf st).toList.Perm (arrOf st0).toList
 out:∀ i,i < lo∨hi≤i→(arrOf st)[i]?=(arrOf st0)[i]?
 o:kindOf st0=oneType'
 ky:∀ p∈(arrOf st0).toList,Ky κ p
def SgK (κ:KeyKind) (arr:Array Keyed) (l r:Nat):Prop:=∀ i j,l≤i→i≤j→j < r→κ.kle (KK κ arr i) (KK κ arr j)
def DsK (κ:KeyKind) (arr:Array Keyed) (l r:Nat):Prop:=∀ i j,l≤i→i≤j→j < r→κ.kle (KK κ arr j) (KK κ arr i)
section
variable {prog:Program} {w:World} {A:Around} {E:Value→Shared→Prop} {s:Shared} {κ:KeyKind} {st0 st:SortSt} {lo hi:Nat}
theorem kk_of {arr:Array Keyed} {i:Nat} {x:Keyed} (e:arr[i]?=some x):KK κ arr i=yU κ x:=by unfold KK;rw [e];rfl
theorem Wk.size (W:Wk κ st0 st lo hi):(arrOf st).size=(arrOf st0).size:=by have:=W.pm.length_eq;simpa using this
theorem Wk.kyo' (W:Wk κ st0 st lo hi):∀ p∈(arrOf st).toList,Ky κ p:=fun p hp=>W.ky p (W.pm.mem_iff.mp hp)
theorem SgK.seg {arr:Array Keyed} {l r:Nat} (h:SgK κ arr l r):Seg κ arr l r:=fun i j x y h1 h2 h3 ex ey=>by
 have:=h i j h1 h2 h3
 rwa [kk_of ex,kk_of ey] at this
theorem l8 (hO:κ.OneLt) {i j:Nat} {Q:Option Bool→SortSt→Prop} (W:Wk κ st0 st lo hi) (hi':i < (arrOf st0).size) (hj:j < (arrOf st0).size) (h:Q (some (κ.blt (KK κ (arrOf st) i) (KK κ (arrOf st) j))) st):wpS (model prog w) A E s (ltAt' i j) Q st:=by
 obtain ⟨x,ex⟩:=at_some (a:=arrOf st) (i:=i) (by rw [W.size];exact hi')
 obtain ⟨y,ey⟩:=at_some (a:=arrOf st) (i:=j) (by rw [W.size];exact hj)
 rw [kk_of ex,kk_of ey] at h
 rw [ltAt'_eq]
 exact wpS_bind (wpS_get (wpS_bind (eB ex (wpS_bind (eB ey (w_lt hO (by rw [W.k];exact W.o) (W.kyo' _ (aZ ex)) (W.kyo' _ (aZ ey)) h))))))
theorem Wk.mir (W:Wk κ st0 st lo hi) {i j:Nat} (h1:lo≤i) (h2:j≤hi) (h3:j≤(arrOf st0).size):Wk κ st0 (setArr st (mirror (arrOf st) i j ((j - i) / 2))) lo hi :=
 ⟨W.k,W.f,W.p,(Array.perm_iff_toList_perm.mp (mirror_perm _ _ _ _)).trans W.pm,fun k hk=>by
  show (mirror (arrOf st) i j ((j - i) / 2))[k]?=_
  rw [getElem?_mirror_all (by rw [W.size];exact h3),if_neg (by omega)]
  exact W.out k hk,W.o,W.ky⟩
theorem Wk.bub (W:Wk κ st0 st lo hi) {i d:Nat} (h1:lo + d≤i) (h2:i < hi) (h3:i < (arrOf st0).size):Wk κ st0 (setArr st (bubble (arrOf st) i d)) lo hi :=
 ⟨W.k,W.f,W.p,(Array.perm_iff_toList_perm.mp (bubble_perm _ _ _)).trans W.pm,fun k hk=>by
  show (bubble (arrOf st) i d)[k]?=_
  rw [getElem?_bubble (by rw [W.size];exact h3) d (by omega),if_neg (by omega),if_neg (by omega)]
  exact W.out k hk,W.o,W.ky⟩
theorem oY {i j:Nat} {Q:Unit→SortSt→Prop} (h:Q () (setArr st (mirror (arrOf st) i j ((j - i) / 2)))):wpS (model prog w) A E s (reverseSlice' i j) Q st:=by
 rw [reverseSlice'_eq]
 exact wpS_modify h
theorem uy (hO:κ.OneLt) {a nrem:Nat} (W:Wk κ st0 st lo hi) (hsz:lo + nrem≤(arrOf st0).size) (ha:1≤a) (han:a≤nrem) (sg:SgK κ (arrOf st) lo (lo + a))
    {f:Nat→Option (Option Nat)×Nat→StateT SortSt Sem (ForInStep (Option (Option Nat)×Nat))}
    (hf:∀ x n,f x (none,n)=ltAt' (lo + n) (lo + n - 1) >>= fun r=>match r with
      | some b=>if b=true then pure (ForInStep.done (none,n)) else pure (ForInStep.yield (none,n + 1))
      | _=>pure (ForInStep.done (some none,n)))
    {R:Option (Option Nat)×Nat→StateT SortSt Sem (Option Nat)} {Q:Option Nat→SortSt→Prop}
    (h:∀ n,a≤n→n≤nrem→SgK κ (arrOf st) lo (lo + n)→(n=nrem∨κ.klt (KK κ (arrOf st) (lo + n)) (KK κ (arrOf st) (lo + n - 1)))→wpS (model prog w) A E s (R (none,n)) Q st) :
    wpS (model prog w) A E s (forIn [a:nrem] (none,a) f >>= R) Q st:=by
  refine wpS_bind (wpS_mono (wpS_forRange (I:=fun x c st'=>st'=st∧c=(none,x)∧SgK κ (arrOf st) lo (lo + x)) (Q:=fun c st'=>st'=st∧∃ n,c=(none,n)∧a≤n∧n≤nrem∧SgK κ (arrOf st) lo (lo + n)∧(n=nrem∨κ.klt (KK κ (arrOf st) (lo + n)) (KK κ (arrOf st) (lo + n - 1)))) ?_ ?_ ⟨rfl,rfl,sg⟩) ?_)
  · rintro x c st' hax hxn ⟨rfl,rfl,hs'⟩
    rw [hf]
    refine wpS_bind (l8 hO W (by omega) (by omega) ?_)
    cases e:κ.blt (KK κ (arrOf st') (lo + x)) (KK κ (arrOf st') (lo + x - 1)) with
    | true=>exact wpS_pure ⟨rfl,x,rfl,hax,by omega,hs',.inr e⟩
    | false =>
      refine wpS_pure ⟨rfl,rfl,fun i j h1 h2 h3=>?_⟩
      by_cases hj:j < lo + x
      · exact hs' i j h1 h2 hj
      · have ej:j=lo + x:=by omega
        subst ej
        by_cases ei:i=lo + x
        · subst ei;exact KeyOrd.kle_refl _
        · exact KeyOrd.kle_trans (hs' i (lo + x - 1) h1 (by omega) (by omega)) e
  · rintro c st' ⟨rfl,rfl,hs'⟩
    rw [show max a nrem=nrem by omega] at hs' ⊢
    exact⟨rfl,nrem,rfl,han,Nat.le_refl _,hs',.inl rfl⟩
  · rintro c st' ⟨rfl,n,rfl,h1,h2,h3,h4⟩
    exact h n h1 h2 h3 h4
theorem w_cr (hO:κ.OneLt) {nrem:Nat} {Q:Option Nat→SortSt→Prop} (W:Wk κ st0 st lo hi) (hh:lo + nrem≤hi) (hsz:lo + nrem≤(arrOf st0).size) (n1:1≤nrem)
  (h:∀ m st',Wk κ st0 st' lo hi→1≤m→m≤nrem→SgK κ (arrOf st') lo (lo + m)→Q (some m) st'):wpS (model prog w) A E s (countRun' lo nrem) Q st:=by
 unfold countRun'
 refine uy hO W hsz (Nat.le_refl 1) n1 (fun i j h1 h2 h3=>by have:i=j:=(by omega);subst this;exact KeyOrd.kle_refl _) (fun _ _=>rfl) fun n a1 a2 sg hor=>?_
 dsimp only
 by_cases c1:n=nrem
 ·rw [if_pos (by simpa using c1)]
  exact wpS_pure (h n st W a1 a2 sg)
 rw [if_neg (by simpa using c1)]
 have hlt:=hor.resolve_left c1
 rcases Nat.lt_or_ge 1 n with c2 | c2
 case' inl =>
  rw [if_pos c2]
  refine wpS_bind (l8 hO W (by omega) (by omega) ?_)
  cases e:κ.blt (KK κ (arrOf st) lo) (KK κ (arrOf st) (lo + n - 1))
  case true=>exact wpS_pure (h n st W a1 a2 sg)
  case' false =>
  have all:∀ k,lo≤k→k < lo + n→KK κ (arrOf st) k=KK κ (arrOf st) (lo + n - 1):=fun k h1 h2=>KeyOrd.kle_antisymm (sg k (lo + n - 1) h1 (by omega) (by omega)) (KeyOrd.kle_trans e (sg lo k (Nat.le_refl _) h1 h2))
  refine wpS_bind (oY ?_)
  have W2:=W.mir (i:=lo) (j:=lo + n) (Nat.le_refl _) (by omega) (by omega)
  have kk:∀ k,KK κ (mirror (arrOf st) lo (lo + n) ((lo + n - lo) / 2)) k=KK κ (arrOf st) k:=KK_mirror_equal (by rw [W.size];omega) all
  have D2:DsK κ (arrOf (setArr st (mirror (arrOf st) lo (lo + n) ((lo + n - lo) / 2)))) lo (lo + (n + 1)):=fun i j h1 h2 h3=>by
   show κ.kle (KK κ (mirror (arrOf st) lo (lo + n) ((lo + n - lo) / 2)) j) (KK κ (mirror (arrOf st) lo (lo + n) ((lo + n - lo) / 2)) i)
   rw [kk,kk]
   by_cases hj:j < lo + n
   ·rw [all i h1 (by omega),all j (by omega) hj];exact KeyOrd.kle_refl _
   ·have ej:j=lo + n:=by omega
    subst ej
    by_cases ei:i=lo + n
    ·subst ei;exact KeyOrd.kle_refl _
    ·rw [all i h1 (by omega)];exact KeyOrd.kle_of_klt hlt
  generalize setArr st (mirror (arrOf st) lo (lo + n) ((lo + n - lo) / 2))=st2 at *
 case' inr =>
  rw [if_neg (Nat.not_lt.mpr c2)]
  have en:n=1:=by omega
  have W2:=W
  have D2:DsK κ (arrOf st) lo (lo + (n + 1)):=fun i j h1 h2 h3=>by
   by_cases ei:i=j
   ·subst ei;exact KeyOrd.kle_refl _
   ·have e1:i=lo + n - 1:=by omega
    have e2:j=lo + n:=by omega
    rw [e1,e2];exact KeyOrd.kle_of_klt hlt
  obtain ⟨st2,es⟩:∃ z,st=z:=⟨_,rfl⟩
  rw [es] at W2 D2 ⊢
 all_goals
  refine wpS_bind (wpS_lift (wpAny_rule ⟨rfl,?_⟩))
  refine wpS_bind (wpS_mono (wpS_forRange (I:=fun x c st'=>∃ q,c=(none,x,q)∧Wk κ st0 st' lo hi∧DsK κ (arrOf st') lo (lo + x)∧q + 1≤x∧∀ i,lo + x - (q + 1)≤i→i < lo + x→KK κ (arrOf st') i=KK κ (arrOf st') (lo + x - 1))
   (Q:=fun c st'=>∃ m q,c=(none,m,q)∧Wk κ st0 st' lo hi∧n + 1≤m∧m≤nrem∧DsK κ (arrOf st') lo (lo + m)∧q + 1≤m∧∀ i,lo + m - (q + 1)≤i→i < lo + m→KK κ (arrOf st') i=KK κ (arrOf st') (lo + m - 1)) ?_ ?_ ⟨0,rfl,W2,D2,by omega,fun i h1 h2=>by congr 1;omega⟩) ?_)
  ·rintro x c st3 hax hxn ⟨q,rfl,W3,D3,hq,he⟩
   dsimp only
   refine wpS_bind (l8 hO W3 (by omega) (by omega) ?_)
   have hsz3:lo + x≤(arrOf st3).size:=by rw [W3.size];omega
   cases e:κ.blt (KK κ (arrOf st3) (lo + x)) (KK κ (arrOf st3) (lo + x - 1)) with
   | true =>
    have step:∀ xs:Array Keyed,(∀ k,KK κ xs k=KK κ (arrOf st3) k)→DsK κ xs lo (lo + (x + 1)):=fun xs hk i j h1 h2 h3=>by
     rw [hk,hk]
     by_cases hj:j < lo + x
     ·exact D3 i j h1 h2 hj
     ·have ej:j=lo + x:=by omega
      subst ej
      by_cases ei:i=lo + x
      ·subst ei;exact KeyOrd.kle_refl _
      ·exact KeyOrd.kle_trans (KeyOrd.kle_of_klt e) (D3 i (lo + x - 1) h1 (by omega) (by omega))
    dsimp only
    rw [if_pos rfl]
    by_cases hq0:q > 0
    ·rw [if_pos hq0]
     exact wpS_bind (oY (wpS_pure ⟨0,rfl,W3.mir (by omega) (by omega) (by omega),step _ (KK_mirror_equal hsz3 he),by omega,fun i h1 h2=>by congr 1;omega⟩))
    ·rw [if_neg hq0]
     exact wpS_pure ⟨0,rfl,W3,step _ (fun _=>rfl),by omega,fun i h1 h2=>by congr 1;omega⟩
   | false =>
    dsimp only
    rw [if_neg (by simp)]
    refine wpS_bind (l8 hO W3 (by omega) (by omega) ?_)
    cases e2:κ.blt (KK κ (arrOf st3) (lo + x - 1)) (KK κ (arrOf st3) (lo + x)) with
    | true=>exact wpS_pure ⟨x,q,rfl,W3,hax,by omega,D3,hq,he⟩
    | false =>
     have eq:KK κ (arrOf st3) (lo + x)=KK κ (arrOf st3) (lo + x - 1):=KeyOrd.kle_antisymm e2 e
     refine wpS_pure ⟨q + 1,rfl,W3,fun i j h1 h2 h3=>?_,by omega,fun i h1 h2=>?_⟩
     ·by_cases hj:j < lo + x
      ·exact D3 i j h1 h2 hj
      ·have ej:j=lo + x:=by omega
       subst ej
       by_cases ei:i=lo + x
       ·subst ei;exact KeyOrd.kle_refl _
       ·rw [eq];exact D3 i (lo + x - 1) h1 (by omega) (by omega)
     ·rw [show lo + (x + 1) - 1=lo + x by omega]
      by_cases ei:i=lo + x
      ·rw [ei]
      ·rw [eq];exact he i (by omega) (by omega)
  ·rintro c st3 ⟨q,rfl,W3,D3,hq,he⟩
   rw [show max (n + 1) nrem=nrem by omega] at *
   exact⟨nrem,q,rfl,W3,by omega,Nat.le_refl _,D3,hq,he⟩
  ·rintro c st3 ⟨m,q,rfl,W3,m1,m2,D3,hq,he⟩
   have hsz3:lo + m≤(arrOf st3).size:=by rw [W3.size];omega
   dsimp only
   rcases Nat.lt_or_ge 0 q with c3 | c3
   case' inl =>
    rw [if_pos c3]
    refine wpS_bind (oY ?_)
    have W4:=W3.mir (i:=lo + m - (q + 1)) (j:=lo + m) (by omega) (by omega) (by omega)
    have D4:DsK κ (arrOf (setArr st3 (mirror (arrOf st3) (lo + m - (q + 1)) (lo + m) ((lo + m - (lo + m - (q + 1))) / 2)))) lo (lo + m):=fun i j h1 h2 h3=>by
     show κ.kle (KK κ (mirror (arrOf st3) _ _ _) j) (KK κ (mirror (arrOf st3) _ _ _) i)
     rw [KK_mirror_equal hsz3 he,KK_mirror_equal hsz3 he]
     exact D3 i j h1 h2 h3
    generalize setArr st3 (mirror (arrOf st3) (lo + m - (q + 1)) (lo + m) ((lo + m - (lo + m - (q + 1))) / 2))=st4 at *
   case' inr =>
    rw [if_neg (Nat.not_lt.mpr c3)]
    have W4:=W3
    have D4:=D3
    obtain ⟨st4,es⟩:∃ z,st3=z:=⟨_,rfl⟩
    rw [es] at W4 D4 ⊢
   all_goals
    refine wpS_bind (oY ?_)
    refine uy hO (W4.mir (i:=lo) (j:=lo + m) (Nat.le_refl _) (by omega) (by omega)) hsz (by omega) m2 (fun i j h1 h2 h3=>?_) (fun _ _=>rfl) fun p p1 p2 sg4 _=>wpS_pure (h p _ (W4.mir (i:=lo) (j:=lo + m) (Nat.le_refl _) (by omega) (by omega)) (by omega) p2 sg4)
    show κ.kle (KK κ (mirror (arrOf st4) _ _ _) i) (KK κ (mirror (arrOf st4) _ _ _) j)
    rw [KK_mirror (by rw [W4.size];omega),KK_mirror (by rw [W4.size];omega),if_pos (by omega),if_pos (by omega)]
    exact D4 _ _ (by omega) (by omega) (by omega)
end
end TS
namespace TS
open PySem PyProof.Rows
def Ch (κ:KeyKind) (arr:Array Keyed):List (Nat×Nat×Nat)→Nat→Nat→Prop
 | [],s,e=>s=e
 | x :: r,s,e=>x.1=s∧0 < x.2.1∧Seg κ arr s (s + x.2.1)∧Ch κ arr r (s + x.2.1) e
section
variable {κ:KeyKind} {arr arr':Array Keyed}
theorem Ch.app:∀ {l1 l2:List (Nat×Nat×Nat)} {s e:Nat},Ch κ arr (l1++l2) s e↔∃ m,Ch κ arr l1 s m∧Ch κ arr l2 m e
 | [],l2,s,e=>⟨fun h=>⟨s,rfl,h⟩,fun ⟨m,h1,h2⟩=>by have h1:s=m:=h1;rw [h1];exact h2⟩
 | x :: l1,l2,s,e=>⟨fun ⟨h1,h2,h3,h4⟩=>let ⟨m,a,b⟩:=Ch.app.mp h4;⟨m,⟨h1,h2,h3,a⟩,b⟩,fun ⟨m,⟨h1,h2,h3,h4⟩,b⟩=>⟨h1,h2,h3,Ch.app.mpr ⟨m,h4,b⟩⟩⟩
theorem Ch.len:∀ {l:List (Nat×Nat×Nat)} {s e:Nat},Ch κ arr l s e→s + l.length≤e
 | [],s,e,h=>by have h:s=e:=h;rw [h];exact Nat.le_refl _
 | x :: l,s,e,⟨_,h2,_,h4⟩=>by have:=Ch.len h4;rw [List.length_cons];omega
theorem Ch.cong:∀ {l:List (Nat×Nat×Nat)} {s e:Nat},(∀ i,s≤i→i < e→arr'[i]?=arr[i]?)→Ch κ arr l s e→Ch κ arr' l s e
 | [],s,e,_,h=>h
 | x :: l,s,e,hc,⟨h1,h2,h3,h4⟩=>by
  have:=h4.len
  exact⟨h1,h2,fun i j u v a b c eu ev=>h3 i j u v a b c (by rw [← hc i a (by omega)];exact eu) (by rw [← hc j (by omega) (by omega)];exact ev),Ch.cong (fun i a b=>hc i (by omega) b) h4⟩
theorem Ch.mod {pw:Nat}:∀ {l:List (Nat×Nat×Nat)} {s e:Nat} (i:Nat),Ch κ arr l s e→Ch κ arr (l.modify i fun x=>(x.1,x.2.1,pw)) s e
 | [],s,e,i,h=>by rw [List.modify_nil];exact h
 | x :: l,s,e,0,h=>h
 | x :: l,s,e,i + 1,⟨h1,h2,h3,h4⟩=>⟨h1,h2,h3,h4.mod i⟩
end
structure SR (κ:KeyKind) (st0 st:SortSt) (lo:Nat):Prop where
 k:kindOf st=oneType'
 f:failedOf st=none
 pm:(arrOf st).toList.Perm (arrOf st0).toList
 ky:∀ p∈(arrOf st0).toList,Ky κ p
 ch:Ch κ (arrOf st) (pendingOf st).toList 0 lo
 le:lo≤(arrOf st0).size
theorem SR.size {κ:KeyKind} {st0 st:SortSt} {lo:Nat} (h:SR κ st0 st lo):(arrOf st).size=(arrOf st0).size:=by have:=h.pm.length_eq;simpa using this
section
variable {prog:Program} {w:World} {A:Around} {E:Value→Shared→Prop} {s:Shared} {κ:KeyKind} {st0 st:SortSt} {lo hi:Nat}
theorem w_bs (hO:κ.OneLt) {n ok:Nat} {Q:Bool→SortSt→Prop} (W:Wk κ st0 st lo hi) (hh:lo + n≤hi) (hsz:lo + n≤(arrOf st0).size) (ok1:1≤ok) (okn:ok≤n) (sg:SgK κ (arrOf st) lo (lo + ok))
  (h:∀ st',Wk κ st0 st' lo hi→SgK κ (arrOf st') lo (lo + n)→Q true st'):wpS (model prog w) A E s (binarySort' lo n ok) Q st:=by
 unfold binarySort'
 refine wpS_bind (wpS_mono (wpS_forRange (I:=fun k c st'=>c=(none,())∧Wk κ st0 st' lo hi∧SgK κ (arrOf st') lo (lo + k)) (Q:=fun c st'=>c=(none,())∧Wk κ st0 st' lo hi∧SgK κ (arrOf st') lo (lo + n)) ?_ ?_ ⟨rfl,W,by rw [show max ok 1=ok by omega];exact sg⟩) ?_)
 ·rintro k c st1 hak hkn ⟨rfl,W1,s1⟩
  dsimp only
  refine wpS_bind (wpS_mono (wpS_forRange (I:=fun x c st'=>st'=st1∧∃ l r,c=(none,l,r)∧l≤r∧r≤k∧r - l≤k - x∧(∀ i,lo≤i→i < lo + l→κ.kle (KK κ (arrOf st1) i) (KK κ (arrOf st1) (lo + k)))∧∀ i,lo + r≤i→i < lo + k→κ.klt (KK κ (arrOf st1) (lo + k)) (KK κ (arrOf st1) i))
   (Q:=fun c st'=>st'=st1∧∃ l,c=(none,l,l)∧l≤k∧(∀ i,lo≤i→i < lo + l→κ.kle (KK κ (arrOf st1) i) (KK κ (arrOf st1) (lo + k)))∧∀ i,lo + l≤i→i < lo + k→κ.klt (KK κ (arrOf st1) (lo + k)) (KK κ (arrOf st1) i)) ?_ ?_ ⟨rfl,0,k,rfl,by omega,by omega,by omega,fun i h1 h2=>by omega,fun i h1 h2=>by omega⟩) ?_)
  ·rintro x c st2 _ hx ⟨rfl,l,r,rfl,h1,h2,h3,h4,h5⟩
   dsimp only
   by_cases c1:l ≥ r
   ·rw [if_pos c1]
    have e:l=r:=by omega
    subst e
    exact wpS_pure ⟨rfl,l,rfl,h2,h4,h5⟩
   ·rw [if_neg c1]
    refine wpS_bind (l8 hO W1 (by omega) (by omega) ?_)
    cases e:κ.blt (KK κ (arrOf st2) (lo + k)) (KK κ (arrOf st2) (lo + (l + r) / 2)) with
    | true=>exact wpS_pure ⟨rfl,_,_,rfl,by omega,by omega,by omega,h4,fun i h6 h7=>KeyOrd.klt_of_klt_of_kle e (s1 _ _ (by omega) h6 h7)⟩
    | false=>exact wpS_pure ⟨rfl,_,_,rfl,by omega,by omega,by omega,fun i h6 h7=>KeyOrd.kle_trans (s1 i (lo + (l + r) / 2) h6 (by omega) (by omega)) e,h5⟩
  ·rintro c st2 ⟨rfl,l,r,rfl,h1,h2,h3,h4,h5⟩
   have e:l=r:=by omega
   subst e
   exact⟨rfl,l,rfl,h2,h4,h5⟩
  ·rintro c st2 ⟨rfl,l,rfl,h2,h4,h5⟩
   dsimp only
   refine wpS_bind (wpS_modify (wpS_pure ⟨rfl,W1.bub (by omega) (by omega) (by omega),fun i j h6 h7 h8=>?_⟩))
   show κ.kle (KK κ (bubble (arrOf st2) (lo + k) (lo + k - (lo + l))) i) (KK κ (bubble (arrOf st2) (lo + k) (lo + k - (lo + l))) j)
   rw [KK_bubble (by rw [W1.size];omega) (by omega),KK_bubble (by rw [W1.size];omega) (by omega),show lo + k - (lo + k - (lo + l))=lo + l by omega]
   by_cases i1:i=lo + l
   ·rw [if_pos i1]
    by_cases j1:j=lo + l
    ·rw [if_pos j1];exact KeyOrd.kle_refl _
    ·rw [if_neg j1,if_pos (by omega)]
     exact KeyOrd.kle_of_klt (h5 _ (by omega) (by omega))
   ·rw [if_neg i1]
    by_cases i2:lo + l < i∧i≤lo + k
    ·rw [if_pos i2,if_neg (by omega),if_pos (by omega)]
     exact s1 _ _ (by omega) (by omega) (by omega)
    ·rw [if_neg i2]
     by_cases j1:j=lo + l
     ·rw [if_pos j1];exact h4 i h6 (by omega)
     ·rw [if_neg j1]
      by_cases j2:lo + l < j∧j≤lo + k
      ·rw [if_pos j2];exact s1 _ _ h6 (by omega) (by omega)
      ·rw [if_neg j2];exact s1 _ _ h6 h7 (by omega)
 ·rintro c st1 ⟨rfl,W1,s1⟩
  rw [show max (max ok 1) n=n by omega] at s1
  exact⟨rfl,W1,s1⟩
 ·rintro c st1 ⟨rfl,W1,s1⟩
  exact wpS_pure (h st1 W1 s1)
theorem vP {c:Prop} [Decidable c] {a b n:Nat} (h1:a + 1 < n) (h2:b + 1 < n):(if c then a else b) + 1 < n:=by split<;>assumption
theorem wL (hO:κ.OneLt) {i:Nat} {Q:Bool→SortSt→Prop} (S:SR κ st0 st lo) (hi:i + 1 < (pendingOf st).size) (h:∀ st',SR κ st0 st' lo→(pendingOf st').size + 1=(pendingOf st).size→(∀ j,lo≤j→(arrOf st')[j]?=(arrOf st)[j]?)→Q true st'):wpS (model prog w) A E s (mergeAt' i) Q st:=by
 obtain ⟨⟨sa,na,pw⟩,p1⟩:=at_some (a:=pendingOf st) (i:=i) (by omega)
 obtain ⟨⟨sb,nb,pw2⟩,p2⟩:=at_some (a:=pendingOf st) (i:=i + 1) hi
 have e0:(pendingOf st).toList=(pendingOf st).toList.take i++(sa,na,pw) :: (sb,nb,pw2) :: (pendingOf st).toList.drop (i + 2):=by
  conv=>lhs;rw [← List.take_append_drop i (pendingOf st).toList,kg p1,kg p2]
 have il:((pendingOf st).toList.take i).length=i:=by rw [List.length_take];simp;omega
 have hc:=S.ch
 rw [e0] at hc
 generalize (pendingOf st).toList.take i=l1 at *
 generalize (pendingOf st).toList.drop (i + 2)=l2 at *
 obtain ⟨m,c1,⟨q1,q2,q3,q4,q5,q6,q7⟩⟩:=Ch.app.mp hc
 simp only at q1 q2 q3 q4 q5 q6 q7
 subst q1
 rw [q4] at p2
 have ln:=q7.len
 have l1':=c1.len
 refine xN hO S.k S.f (fun p hp=>S.ky p (S.pm.mem_iff.mp hp)) p1 p2 q2 q5 (by rw [S.size];have:=S.le;omega) q3 q6 fun st' M hp=>?_
 have e1:(pendingOf st').toList=l1++(sa,na + nb,pw) :: l2:=by
  rw [hp,Array.toList_eraseIdxIfInBounds,Array.toList_setIfInBounds,e0,← il]
  simp [List.set_append,List.eraseIdx_append]
  intro z
  omega
 refine h st' ⟨by rw [M.k];exact S.k,by rw [M.f];exact S.f,M.pm.trans S.pm,S.ky,?_,S.le⟩ ?_ fun j hj=>M.out j (.inr (by omega))
 ·rw [e1]
  refine Ch.app.mpr ⟨sa,c1.cong fun j a b=>M.out j (.inl b),rfl,by show 0 < na + nb;omega,by show Seg κ (arrOf st') sa (sa + (na + nb));rw [← Nat.add_assoc];exact M.seg,?_⟩
  show Ch κ (arrOf st') l2 (sa + (na + nb)) lo
  rw [← Nat.add_assoc]
  exact q7.cong fun j a b=>M.out j (.inr a)
 ·have z1:=congrArg List.length e1
  have z0:=congrArg List.length e0
  simp only [Array.length_toList,List.length_append,List.length_cons] at z1 z0
  omega
theorem w_runs (hO:κ.OneLt) {Q:Unit→SortSt→Prop} (hk:kindOf st=oneType') (hf:failedOf st=none) (hp:pendingOf st=#[]) (ky:∀ p∈(arrOf st).toList,Ky κ p) (h2:0 < (arrOf st).size)
  (h:∀ st',(arrOf st').toList.Perm (arrOf st).toList→failedOf st'=none→Seg κ (arrOf st') 0 (arrOf st).size→Q () st'):wpS (model prog w) A E s sortRuns' Q st:=by
 unfold sortRuns'
 refine wpS_bind (wpS_get ?_)
 dsimp only
 generalize hN:(arrOf st).size=N
 obtain ⟨mr,hmr⟩:∃ mr,mr=minRun' N N 0:=⟨_,rfl⟩
 unfold minRun' at hmr
 rw [← hmr]
 refine wpS_bind (wpS_mono (wpS_forRange (I:=fun x c st'=>∃ lo,c=(none,lo)∧SR κ st st' lo∧x≤lo) (Q:=fun c st'=>c=(none,N)∧SR κ st st' N) ?_ ?_ ⟨0,rfl,⟨hk,hf,List.Perm.refl _,ky,by rw [hp];rfl,Nat.zero_le _⟩,Nat.zero_le _⟩) ?_)
 ·rintro x c st1 _ hx ⟨lo,rfl,S,hxl⟩
  dsimp only
  by_cases c1:lo ≥ N
  ·rw [if_pos c1]
   have e:lo=N:=by have:=S.le;omega
   subst e
   exact wpS_pure ⟨rfl,S⟩
  rw [if_neg c1]
  have sz1:=S.size
  rw [hN] at sz1
  have ky1:∀ p∈(arrOf st1).toList,Ky κ p:=fun p hp=>ky p (S.pm.mem_iff.mp hp)
  have W0:Wk κ st1 st1 lo N:=⟨rfl,rfl,rfl,List.Perm.refl _,fun _ _=>rfl,S.k,ky1⟩
  have upS:∀ {st2:SortSt},Wk κ st1 st2 lo N→SR κ st st2 lo:=fun W=>⟨by rw [W.k];exact S.k,by rw [W.f];exact S.f,W.pm.trans S.pm,ky,by rw [W.p];exact S.ch.cong fun i _ hi=>W.out i (.inl hi),S.le⟩
  refine wpS_bind (w_cr hO W0 (by omega) (by omega) (by omega) fun m st2 W2 m1 m2 sg2=>?_)
  dsimp only
  rcases Nat.lt_or_ge m mr with c2 | c2
  case' inl =>
   rw [if_pos c2]
   refine wpS_bind (wpS_lift (wpAny_rule ⟨rfl,?_⟩))
   refine wpS_bind (w_bs hO W2 (by omega) (by omega) m1 (by omega) sg2 fun st3 W3 sg3=>?_)
   rw [if_neg (by simp)]
   have S3:=upS W3
   have sg3':=sg3.seg
   have n0:0 < min (N - lo) mr:=by omega
   have nl:lo + min (N - lo) mr≤N:=by omega
   generalize min (N - lo) mr=n at *
  case' inr =>
   rw [if_neg (Nat.not_lt.mpr c2)]
   have S3:=upS W2
   have sg3':=sg2.seg
   have n0:0 < m:=m1
   have nl:lo + m≤N:=by omega
   obtain ⟨n,en⟩:∃ z,m=z:=⟨_,rfl⟩
   obtain ⟨st3,es⟩:∃ z,st2=z:=⟨_,rfl⟩
   rw [es] at S3 sg3'
   rw [en] at sg3' n0 nl
   rw [es,en]
  all_goals
   have fin:∀ st4,SR κ st st4 lo→Seg κ (arrOf st4) lo (lo + n)→∃ lo',((none:Option Unit),lo + n)=(none,lo')∧SR κ st (setPending st4 ((pendingOf st4).push (lo,n,0))) lo'∧x + 1≤lo':=fun st4 S4 sg4=>⟨lo + n,rfl,⟨S4.k,S4.f,S4.pm,ky,by
    show Ch κ (arrOf st4) ((pendingOf st4).push (lo,n,0)).toList 0 (lo + n)
    rw [Array.toList_push]
    exact Ch.app.mpr ⟨lo,S4.ch,rfl,n0,sg4,rfl⟩,by rw [hN];exact nl⟩,by omega⟩
   refine wpS_bind (wpS_get ?_)
   cases e:(pendingOf st3).back? with
   | none=>exact wpS_bind (wpS_modify (wpS_pure (fin st3 S3 sg3')))
   | some q =>
    obtain ⟨s1,n1,q1⟩:=q
    dsimp only
    refine wpS_bind (wpS_mono (wpS_forRange (I:=fun _ c st'=>c=(none,())∧SR κ st st' lo∧Seg κ (arrOf st') lo (lo + n)) (Q:=fun c st'=>c=(none,())∧SR κ st st' lo∧Seg κ (arrOf st') lo (lo + n)) ?_ (fun _ _ h=>h) ⟨rfl,S3,sg3'⟩) ?_)
    ·rintro y c st4 _ _ ⟨rfl,S4,sg4⟩
     refine wpS_bind (wpS_get ?_)
     by_cases c5:(pendingOf st4).size > 1
     ·rw [if_pos c5]
      obtain ⟨⟨u,v,older⟩,ez⟩:=at_some (a:=pendingOf st4) (i:=(pendingOf st4).size - 2) (by omega)
      rw [ez]
      dsimp only
      split
      ·exact wpS_pure ⟨rfl,S4,sg4⟩
      ·refine wpS_bind (wL hO S4 (show (pendingOf st4).size - 2 + 1 < (pendingOf st4).size by omega) fun st5 S5 _ ho=>?_)
       rw [if_neg (by simp)]
       exact wpS_pure ⟨rfl,S5,fun i j p q a b c ep eq=>sg4 i j p q a b c (by rw [← ho i a];exact ep) (by rw [← ho j (by omega)];exact eq)⟩
     ·rw [if_neg c5]
      exact wpS_pure ⟨rfl,S4,sg4⟩
    ·rintro c st4 ⟨rfl,S4,sg4⟩
     dsimp only
     refine wpS_bind (wpS_modify (wpS_bind (wpS_modify (wpS_pure (fin _ ⟨S4.k,S4.f,S4.pm,ky,?_,S4.le⟩ sg4)))))
     show Ch κ (arrOf st4) ((pendingOf st4).modify _ _).toList 0 lo
     rw [Array.toList_modify]
     exact S4.ch.mod _
 ·rintro c st1 ⟨lo,rfl,S,hxl⟩
  have e:lo=N:=by have:=S.le;omega
  subst e
  exact⟨rfl,S⟩
 ·rintro c st1 ⟨rfl,S⟩
  dsimp only
  refine wpS_bind (wpS_mono (wpS_forRange (I:=fun x c st'=>c=(none,())∧SR κ st st' N∧(pendingOf st').size≤max 1 (N - x)) (Q:=fun c st'=>c=(none,())∧SR κ st st' N∧(pendingOf st').size≤1) ?_ ?_ ⟨rfl,S,?_⟩) ?_)
  ·rintro x c st2 _ hx ⟨rfl,S2,hl⟩
   refine wpS_bind (wpS_get ?_)
   by_cases c1:(pendingOf st2).size≤1
   ·rw [if_pos c1]
    exact wpS_pure ⟨rfl,S2,c1⟩
   ·rw [if_neg c1]
    refine wpS_bind (wL hO S2 (vP (a:=(pendingOf st2).size - 2 - 1) (b:=(pendingOf st2).size - 2) (by omega) (by omega)) fun st3 S3 hl3 _=>?_)
    rw [if_neg (by simp)]
    exact wpS_pure ⟨rfl,S3,by omega⟩
  ·rintro c st2 ⟨rfl,S2,hl⟩
   exact⟨rfl,S2,by omega⟩
  ·have:=S.ch.len
   simp at this
   omega
  ·rintro c st2 ⟨rfl,S2,hl⟩
   refine wpS_pure (h st2 S2.pm S2.f ?_)
   rw [hN]
   have hc:=S2.ch
   have hl:(pendingOf st2).toList.length≤1:=by simpa using hl
   match e:(pendingOf st2).toList,hl,hc with
   | [],_,hc=>have hc:0=N:=hc;omega
   | [x],_,⟨_,_,q3,q4⟩ =>
    have q4:0 + x.2.1=N:=q4
    rw [q4] at q3
    exact q3
   | _ :: _ :: _,hl,_=>simp at hl
end
end TS
namespace DL
open PySem PySem.Spec PySem.W PyProof.Rows L2
section
variable {prog:Program} {w:World} {A:Around} {E:Value→Shared→Prop} {s:Shared}
theorem kz {a:Addr} {vs:List Value} {ss:List Str} {n:Nat} {Q:Value→Shared→Prop} (ho:s.heap.get? a=some (seqObj "list" vs.toArray n)) (hS:StrsAre vs ss) (h2:2≤vs.length) (h9:vs.length≤9000)
  (h:∀ (out:Array Value) (ss':List Str),StrsAre out.toList ss'→ss'.Perm ss→sortedS ss'=true→Q .none { s with heap:=sortedHeap s.heap a vs out }) :
  wpAny (model prog w) A (call (.builtin "list.sort") [.ref a]) Q E s:=by
 refine wpAny_call_entry slot_list_sort ⟨_,ho,rfl⟩ entry_list_sort ?_ (args_list_sort _)
 rw [list_sort_plain]
 have sv:vs.toArray.size≤sizeLine:=by simpa using bV h9
 refine wpAny_bind (listItems_at ho rfl ?_)
 refine wpAny_bind (listUpdate_at ho rfl ?_ (hsz:=sv))
 obtain ⟨e1,ho1⟩:∃ e1,(s.heap.update a (Obj.mapSeq fun _=>#[])).get? a=some (seqObj "list" #[] e1):=⟨_,get?_update_seq ho (fun _=>#[])⟩
 refine wpAny_bind (seqEpoch_at ho1 rfl ?_)
 refine wpAny_bind (wpAny_newTuple ?_ (by simpa using bV h9))
 refine wpAny_bind (wpAny_newList ?_)
 refine wpAny_holding ?_
 have ho6:(((s.heap.update a (Obj.mapSeq fun _=>#[])).push (seqObj "tuple" vs.toArray 0)).push (seqObj "list" #[] 0)).get? a=some (seqObj "list" #[] e1):=Heap.get?_push_of_some _ (Heap.get?_push_of_some _ ho1)
 show wpAny (model prog w) _ _ _ E { s with heap:=((s.heap.update a (Obj.mapSeq fun _=>#[])).push (seqObj "tuple" vs.toArray 0)).push (seqObj "list" #[] 0) }
 generalize hh:((s.heap.update a (Obj.mapSeq fun _=>#[])).push (seqObj "tuple" vs.toArray 0)).push (seqObj "list" #[] 0)=h6 at *
 dsimp only
 have n2:¬ vs.toArray.size < 2:=by simpa using h2
 rw [if_neg n2,if_neg n2]
 have kk:keyKind' vs.toArray=pure oneType':=by
  match vs,hS,h2 with
  | [],_,h2=>simp at h2
  | [_],_,h2=>simp at h2
  | v1 :: v2 :: r,hS,_=>exact keyKind_strs hS
 rw [kk]
 refine wpAny_bind (wpAny_pure ?_)
 have kys:∀ p∈(pairsOf vs).toList,TS.Ky strKind p:=fun p hp=>hS.keysOf p hp
 refine wpAny_bind (wpAny_mono (TS.w_runs (κ:=strKind) strKind_oneLt (st:=SortSt.mk' oneType' (pairsOf vs) #[] 7 none) (Q:=fun _ st'=>failedOf st'=none∧(arrOf st').Perm (pairsOf vs)∧SortedToK strKind (arrOf st') (pairsOf vs).size) rfl rfl rfl kys (by show 0 < (pairsOf vs).size;rw [pairsOf_size];omega) fun st' pm hf sg=>⟨hf,Array.perm_iff_toList_perm.mpr pm,fun i j hij hj=>?_⟩) ?_ fun _ _ e=>e)
 ·have sz:(arrOf st').size=(pairsOf vs).size:=by have:=pm.length_eq;simpa using this
  obtain ⟨x,ex⟩:=TS.at_some (a:=arrOf st') (i:=i) (by omega)
  obtain ⟨y,ey⟩:=TS.at_some (a:=arrOf st') (i:=j) (by omega)
  rw [TS.kk_of ex,TS.kk_of ey]
  exact sg i j x y (Nat.zero_le _) hij hj ex ey
 ·rintro ⟨⟨⟩,st'⟩ s' ⟨rfl,hf,hp,hs⟩
  dsimp only at hf hp hs ⊢
  obtain ⟨ss',k1,k2,k3⟩:=sorted_out_str hS hp hs
  refine wpAny_bind (seqEpoch_at (s:={ s with heap:=h6 }) ho6 rfl ?_)
  refine wpAny_bind (listUpdate_at (s:={ s with heap:=h6 }) ho6 rfl ?_ (hsz2:=by
   rw [Array.size_map,hp.size_eq,pairsOf_size]
   exact Nat.le_succ_of_le (bV h9)))
  rw [hf]
  simp only [bne_self_eq_false,Bool.false_eq_true,if_false]
  refine wpAny_pure ⟨_,rfl,?_⟩
  have:=h _ ss' k1 k2 k3
  have e:sortedHeap s.heap a vs ((arrOf st').map (·.2))=h6.update a (Obj.mapSeq fun _=>(arrOf st').map (·.2)):=by rw [← hh];rfl
  rw [e] at this
  exact this
end
def lZ:List D→(D→Prop)→Prop
 | [.lst ds],R=>∃ ss:List Str,ds=ss.map D.str∧ss.length≤9000∧∀ ss',ss'.Perm ss→Srt ss'→R (.lst (ss'.map D.str))
 | _,_=>False
theorem ni {d0:List D} {R:D→Prop} (h:lZ d0 R):∃ ss:List Str,d0=[.lst (ss.map D.str)]∧ss.length≤9000∧∀ ss',ss'.Perm ss→Srt ss'→R (.lst (ss'.map D.str)):=by
 rcases d0 with _ | ⟨a,_ | ⟨b,l⟩⟩
 ·exact False.elim h
 ·cases a<;>first | exact False.elim h | (obtain ⟨ss,rfl,h⟩:=h;exact⟨ss,rfl,h⟩)
 ·cases a<;>exact False.elim h
theorem kh {ds:List D} {R:D→Prop}:lZ [.lst ds] R=(∃ ss:List Str,ds=ss.map D.str∧ss.length≤9000∧∀ ss',ss'.Perm ss→Srt ss'→R (.lst (ss'.map D.str))):=rfl
section
variable {X:Cx}
theorem sJ (hc:X.calm=true):bI X (.builtin "sorted") (aB X.K lZ):=by
 intro pins s σ H xs us Q I rv h
 obtain ⟨M,ds,R,m,rs,h,k⟩:=h
 obtain ⟨ss,rfl,h9,h⟩:=ni h
 by_cases h64:ss.length < 64
 ·exact f6 hc pins s σ H xs us Q I rv ⟨M,[.lst (ss.map D.str)],R,m,rs,⟨ss,rfl,h64,h⟩,k⟩
 obtain ⟨x,rfl,q⟩:=a7 rs
 unfold yF at q
 obtain ⟨a,vs,rfl,_,e,r⟩:=q
 obtain ⟨u0,rfl,ru⟩:=fK rv
 cases ru
 cases b9 r
 obtain ⟨its,rv2,pl,_⟩:=I.list (yI.of e)
 have hs:=bR rv2
 have hl:its.length=ss.length:=by rw [← rv2.length,List.length_map]
 refine Calls.call_function_entry kind_sorted plain_sorted entry_sorted (args_sorted1 _) ?_
 unfold Builtin.«sorted»
 refine wpAny_bind (m:=checkCount "sorted" 1 1 _) (wpAny_pure ?_)
 refine wpAny_bind (collect_list pl.isList ?_)
 refine wpAny_bind (wpAny_newList ?_ (by rw [hl];exact bV h9))
 have hsz:((s.heap.push (seqObj "list" #[] 0)).update s.heap.objs.size (Obj.mapSeq (·++its.toArray))).objs.size=s.heap.objs.size + 1:=by rw [Heap.size_update,size_push']
 have keep:∀ b o,s.heap.get? b=some o→(((s.heap.push (seqObj "list" #[] 0)).update s.heap.objs.size (Obj.mapSeq (·++its.toArray))).push (seqObj "list" its.toArray 0)).get? b=some o:=fun b o q=>by
  have n1:=Nat.ne_of_lt (Heap.lt_size q)
  refine Heap.get?_push_of_some _ ?_
  rw [Heap.get?_update_ne _ _ _ _ n1]
  exact Heap.get?_push_of_some _ q
 have hoL:(((s.heap.push (seqObj "list" #[] 0)).update s.heap.objs.size (Obj.mapSeq (·++its.toArray))).push (seqObj "list" its.toArray 0)).get? (s.heap.objs.size + 1)=some (seqObj "list" its.toArray 0):=by
  rw [← hsz];exact Heap.get?_push_size _ rfl
 show wpAny _ _ _ _ _ { s with heap:=((s.heap.push (seqObj "list" #[] 0)).update s.heap.objs.size (Obj.mapSeq (·++its.toArray))).push (seqObj "list" its.toArray 0) }
 have hnew:(((s.heap.push (seqObj "list" #[] 0)).update s.heap.objs.size (Obj.mapSeq (·++its.toArray))).push (seqObj "list" its.toArray 0)).objs.size=s.heap.objs.size + 2:=by rw [size_push',hsz]
 rw [hsz]
 generalize (((s.heap.push (seqObj "list" #[] 0)).update s.heap.objs.size (Obj.mapSeq (·++its.toArray))).push (seqObj "list" its.toArray 0))=h1 at *
 refine wpAny_bind (wpAny_holding (kz (s:={ s with heap:=h1 }) hoL hs (by omega) (by omega) fun out ss' k1 k2 k3=>?_))
 refine wpAny_pure ⟨_,rfl,?_⟩
 obtain ⟨ep2,he⟩:=sortedHeap_at (out:=out) hoL
 have kp:∀ b o,s.heap.get? b=some o→(sortedHeap h1 (s.heap.objs.size + 1) its out).get? b=some o:=fun b o e=>by
  have hb:=Heap.lt_size e
  rw [sortedHeap_old (Nat.ne_of_lt (Nat.lt_succ_of_lt hb)) (by rw [hnew];exact Nat.lt_succ_of_lt (Nat.lt_succ_of_lt hb))]
  exact keep _ _ e
 have hz2:(ss'.map V.str).length≤sizeLine:=by rw [List.length_map,k2.length_eq];exact bV h9
 have I2:L2.Inv X pins σ (yV H (s.heap.objs.size + 1) (.lst (ss'.map V.str))) { s with heap:=sortedHeap h1 (s.heap.objs.size + 1) its out } :=
  I.laid (t':=s.toks) kp (Nat.le_succ _) (show bd X.prog X.w _ _ _ (.lst (ss'.map V.str)) from ⟨hz2,out.toList,ep2,bq k1,he⟩)
 have fr:H (s.heap.objs.size + 1)=none:=I.hok.fresh (Nat.le_succ _)
 refine⟨.ref _,_,I2,rfl,k _ (h ss' k2 k3) _ _ (ap fr _) ?_⟩
 unfold yF
 exact⟨_,_,rfl,fun z=>m _ z fr,al,bj ss'⟩
end
end DL
namespace DL
open PySem PySem.Spec PyProof.Rows L2
section
variable {X:Cx} {pos:Pos} {a:Expr} {ta:yM}
def pI (i j:Nat) (ta:yM) (R:ax) (δ:En):Prop:=qD δ[j]? fun d=>qX d fun k=>ta δ (wd fun x δ1=>∀ a,fJ δ1 i (.own a (.dct [k] [x])) R.nx)
theorem oj (i j:Nat) {x y:Str} {p p1 pos':Pos} (hN:X.N.Nodup) (ha:DE X a ta) (hi:X.N[i]?=some x:=by rfl) (hj:X.N[j]?=some y:=by rfl) (hx:Loc X.env.scope x:=by walk_at "v2") (hv:Vis X.env.scope y:=by walk_at "v3")
  (hd:(y == ("__debug__":Str))=false:=by decide) (hcd:(y == ("__classdict__":Str))=false:=by decide)
  (hs:swapsWith (.Dict [some (.Name y p1)] [a] p) (some (.Name x pos')) pos.line X.env=pure false:=by rfl)
  (hf:X.fn x=true∨X.env.scope.names.lookup x=some .local :=by walk_at "v1") :
  DS X (.Assign [.Name x pos'] (.Dict [some (.Name y p1)] [a] p) pos) (pI i j ta) :=
 PS.imp (dI hN hi hx (t3 (pi (aQ hj hv hd hcd) ha r6) rfl rfl (fun z=>nomatch z) (by show 1≤15;decide)) hs hf) fun E σ H ⟨G,δ,P,R,⟨A,s⟩,h,kk,_⟩=>fun p hp=>by
  replace h:=qD.ex h
  obtain ⟨d,e,h⟩:=h
  replace h:=qX.ex h
  obtain ⟨k,ez,h⟩:=h
  subst ez
  obtain ⟨v0,q0,r0⟩:=s.dat j _ e
  have ev:v0=.str k:=aW r0
  subst ev
  have nA:¬ A p:=fun z=>s.thr p z hp
  have h0:G.H0 p=none:=by
   cases q:G.H0 p with
   | none=>rfl
   | some o=>exact absurd hp (s.stay p (by rw [q];exact fun z=>nomatch z))
  have hg:yV H p (.dK []) p=some (.dK []):=al
  have s1:=s.addA hp (ap hp (.dK [])) (by rw [hg];exact fun z=>nomatch z)
  have sin:=s1.inner nA (fun i a d e=>(s.own i a d e).2.1)
  refine⟨_,q0,_,δ,P,_,⟨A,sin⟩,h,fun xv δ1 r1 v H2 s2=>?_,fun i δ' r=>r.elim⟩
  obtain ⟨A3,x3⟩:=s2
  have e3:H2 p=some (.dK []):=x3.old p _ hg nA
  have n3:¬ A3 p:=fun z=>by
   rcases x3.new p z with q | q
   ·have q:yV H p (.dK []) p=none:=q
    rw [hg] at q;cases q
   ·exact nA q
  have hno:∀ (j:Nat) d,δ1[j]?≠some (.own p d):=fun j d e=>n3 (x3.own j p d e).2.1
  have x4:=s1.outer h0 x3
  have x5:=x4.pokeD (kvs':=aO [k] [v]) (.inr rfl) e3 hno
  refine⟨e3,aO [k] [v],rfl,by show 1≤15;decide,?_⟩
  have em:fR [] (aO [k] [v])=aO [k] [v]:=rfl
  rw [em]
  refine kk _ (r1 p) _ _ ⟨_,x5.slot (P':=P) (.inr rfl) ⟨[v],al,rfl,?_⟩ hno fun q hq=>List.mem_cons_of_mem _ hq⟩
  exact x5.reps [xv] [v] rfl (fun q hq=>by rw [List.mem_singleton.mp hq];exact List.mem_cons_self ..)
end
end DL
namespace DL
open PySem PySem.Spec PyProof.Rows L2
structure C2 (h:Heap) (C N R NR:Addr) (mN mR:Str→Option Value):Prop where
 hC:∃ nm q bs sn sub ab col dd k0 k1 k2 k3 k5,h.get? C=some (excClassObj nm q C N bs (.ref R :: bmV) true sn sub ab col dd k0 k1 k2 k3 k5 "ValueError.__new__")
 hR:∃ nm q bs sn sub ab col dd k0 k1 k2 k3 k5,h.get? R=some (excClassObj nm q R NR bs bmV true sn sub ab col dd k0 k1 k2 k3 k5 "ValueError.__new__")
 nN:h.Ns N mN
 nR:h.Ns NR mR
 ini:mR "__init__"=none
theorem C2.keep {h h':Heap} {C N R NR:Addr} {mN mR:Str→Option Value} (c:C2 h C N R NR mN mR) (k:∀ b o,h.get? b=some o→h'.get? b=some o):C2 h' C N R NR mN mR:=by
 obtain ⟨⟨nm,q,bs,sn,sub,ab,col,dd,k0,k1,k2,k3,k5,hC⟩,⟨nm',q',bs',sn',sub',ab',col',dd',j0,j1,j2,j3,j5,hR⟩,nN,nR,i⟩:=c
 exact⟨⟨nm,q,bs,sn,sub,ab,col,dd,k0,k1,k2,k3,k5,k _ _ hC⟩,⟨nm',q',bs',sn',sub',ab',col',dd',j0,j1,j2,j3,j5,k _ _ hR⟩,nN.keeps k,nR.keeps k,i⟩
theorem C2.tail {h:Heap} {C N R NR:Addr} {mN mR:Str→Option Value} (c:C2 h C N R NR mN mR):OwnTail h bmV (.ref R :: bmV):=by
 obtain ⟨_,⟨nm',q',bs',sn',sub',ab',col',dd',j0,j1,j2,j3,j5,hR⟩,nN,nR,i⟩:=c
 exact .own hR nR i .base
section
variable {prog:Program} {w:World} {A:Around} {E:Value→Shared→Prop} {h:Heap} {g:Array GenState} {d:Drawn} {t:Nat} {os:OsState} {C N R NR:Addr} {mN mR:Str→Option Value}
theorem vF {M:Model} {name:Str} {y:Option Value} {Q:Option Value→Shared→Prop} (c:C2 h C N R NR mN mR) (hB:typeLookup (.type "ValueError") name=pure y)
  (hq:Q (match mN name with | some v=>some v | none=>match mR name with | some v=>some v | none=>y) ⟨h,g,d,t,os⟩):wpAny M A (typeLookup (.ref C) name) Q E ⟨h,g,d,t,os⟩:=by
 obtain ⟨⟨nm,q,bs,sn,sub,ab,col,dd,k0,k1,k2,k3,k5,hC⟩,⟨nm',q',bs',sn',sub',ab',col',dd',j0,j1,j2,j3,j5,hR⟩,nN,nR,i⟩:=c
 have hrest:lookupAlong bmV name=pure y:=by rw [typeLookup_eq,PySem.F.excBase_ValueError.mroIs] at hB;exact hB
 rw [typeLookup_eq]
 refine wpAny_bind (wpAny_mroOf_exc hC ?_)
 rw [lookupAlong_cons]
 refine wpAny_bind (wpAny_classOwn_exc hC nN ?_)
 cases hv:mN name with
 | some v=>rw [hv] at hq;exact wpAny_pure hq
 | none =>
  rw [hv] at hq
  show wpAny _ _ (lookupAlong (.ref R :: bmV) name) _ _ _
  rw [lookupAlong_cons]
  refine wpAny_bind (wpAny_classOwn_cls hR nR ?_)
  cases hu:mR name with
  | some v=>rw [hu] at hq;exact wpAny_pure hq
  | none =>
   rw [hu] at hq
   show wpAny _ _ (lookupAlong bmV name) _ _ _
   rw [hrest]
   exact wpAny_pure hq
set_option maxHeartbeats 2000000 in
theorem yg {bW:List Value} {fI:Addr} {oI:Obj} {Q:Value→Shared→Prop} (c:C2 h C N R NR mN mR) (hi:mN "__init__"=some (.ref fI)) (hfI:h.get? fI=some oI) (hfc:oI.cls=.type "function")
  (hq:∀ h' e,h.objs.size≤e→Heap.MadeExcOf h h' e (.ref C) bW→wpAny (model prog w) (A.under (.builtin "type.__call__" ⟨.ref C :: bW,[]⟩)) (call (.ref fI) (.ref e :: bW)) (fun r s'=>r=.none∧Q (.ref e) s') E ⟨h',g,d,t,os⟩) (hrest:bW.length≤sizeLine) :
  wpAny (model prog w) A (call (.ref C) bW) Q E ⟨h,g,d,t,os⟩:=by
 obtain ⟨nm,q,bs,sn,sub,ab,col,dd,k0,k1,k2,k3,k5,hC⟩:=c.hC
 have F:=PySem.F.excBase_ValueError
 have T:=c.tail
 have f1:=tc_lookup
 have f2:=tc_bind (.ref C)
 have hT:(⟨h,g,d,t,os⟩:Shared).TypeIs (.ref C) "type":=⟨_,hC,rfl⟩
 refine wpAny_call (codeAny_of_tree ?_)
 show wpAny _ _ (callAny (.ref C) ⟨bW,[]⟩) _ _ _
 repeat (any_goals (first | assumption | with_reducible refine wpAny_loadPart_at hC ?_ | wp_step))
 refine⟨rfl,codeAny_call_builtin_at (Code.quiet_builtin _ (by decide +kernel)) entry_typeCall (wpAny_check_type_call_sub hC ?_)⟩
 repeat (first | with_reducible refine wpAny_loadPart_at hC ?_ | with_reducible refine wpAny_madeBy_exc hC ?_ | wp_step)
 refine codeAny_call_builtin_code (Code.quiet_builtin _ F.quiet) (wpAny_check_new_subT F T hC (codeAny_exc_new_subT F T hC ?_ hrest))
 show wpAny _ _ _ _ _ _
 have hup:∀ b o,h.get? b=some o→((h.push { cls:=.type "tuple",data:=.seq bW.toArray }).push { cls:=.ref C,data:=.fields #[.ref h.objs.size,.none,.none,.none,.bool false,.none] }).get? b=some o:=fun b o e=>Heap.get?_push_of_some _ (Heap.get?_push_of_some _ e)
 have c1:=c.keep hup
 have hC1:=hup _ _ hC
 have hfI1:=hup _ _ hfI
 have hget:((h.push { cls:=.type "tuple",data:=.seq bW.toArray }).push { cls:=.ref C,data:=.fields #[.ref h.objs.size,.none,.none,.none,.bool false,.none] }).get? (h.objs.size + 1)=some { cls:=.ref C,data:=.fields #[.ref h.objs.size,.none,.none,.none,.bool false,.none] }:=by heap_get
 unfold isInstance
 repeat (first | with_reducible refine wpAny_loadPart_at hget ?_ | wp_step)
 show wpAny _ _ (isSubtype (.ref C) (.ref C)) _ _ _
 refine wpAny_isSubtype_exc hC1 ?_
 rw [show (Value.ref C :: (Value.ref R :: bmV)).contains (.ref C)=true by simp]
 repeat (first | with_reducible refine wpAny_loadPart_at hget ?_ | wp_step)
 show wpAny _ _ (typeLookup (.ref C) _) _ _ _
 refine vF c1 F.init.lookup ?_
 rw [hi]
 refine wpAny_holding (wpAny_bind ?_)
 unfold bindSpecial
 refine wpAny_bind (wpAny_typeOf (T:="function") ⟨_,hfI1,hfc⟩ ?_)
 rw [if_pos (by decide)]
 refine wpAny_pure (wpAny_bind (wpAny_mono (hq _ (h.objs.size + 1) (Nat.le_succ _) ⟨hup,Heap.get?_none_of_le (Nat.le_succ _),h.objs.size,hget,Heap.get?_none_of_le (Nat.le_refl _),?_⟩) (fun r s' hr=>?_) fun _ _ x=>x))
 ·exact Heap.get?_push_of_some _ (Heap.get?_push_at rfl rfl)
 ·obtain ⟨rfl,hQ⟩:=hr
  wp_walk
  exact hQ
theorem yD {e:Addr} {bW:List Value} {a0:Value} {Q:Value→Shared→Prop} (c:C2 h C N R NR mN mR) (he:h.get? e=some (yE C none a0 .none))
  (hq:∀ h' a,h'.get? e=some (yE C none a .none)→(∀ b o,b≠e→h.get? b=some o→h'.get? b=some o)→Q .none ⟨h',g,d,t,os⟩) (hrest:bW.length≤sizeLine) :
  wpAny (model prog w) A (call (.builtin "ValueError.__init__") (.ref e :: bW)) Q E ⟨h,g,d,t,os⟩:=by
 obtain ⟨nm,q,bs,sn,sub,ab,col,dd,k0,k1,k2,k3,k5,hC⟩:=c.hC
 have F:=PySem.F.excBase_ValueError
 refine wpAny_call (codeAny_call_builtin F.init.plain F.initEntry (wpAny_check_init_subT F c.tail hC he rfl ?_))
 wp_walk
 have hget:((h.push { cls:=.type "tuple",data:=.seq bW.toArray }).update e (Obj.mapFields fun x=>x.setIfInBounds 0 (Value.ref h.objs.size))).get? e=some (yE C none (.ref h.objs.size) .none):=Heap.get?_update_self (Obj.mapFields fun x=>x.setIfInBounds 0 (Value.ref h.objs.size)) (Heap.get?_push_of_some _ he) rfl
 have fin:=hq _ (.ref h.objs.size) hget fun b o hb ho=>by
  rw [Heap.get?_update_other _ _ (Ne.symm hb)]
  exact Heap.get?_push_of_some _ ho
 have key:∀ {Q':Unit→Shared→Prop} {E':Value→Shared→Prop} {s':Shared},Q' () s'→wpAny (model prog w) A.in1 (match #[a0,Value.none,Value.none,Value.none,Value.bool false,Value.none][0] with | Value.ref a=>letGo [#[a0,Value.none,Value.none,Value.none,Value.bool false,Value.none][0]] | x=>pure ()) Q' E' s':=fun {Q' E' s'} q=>by
  show wpAny _ _ (match a0 with | Value.ref a=>letGo [a0] | x=>pure ()) _ _ _
  cases a0<;>first | exact wpAny_letGo q | exact wpAny_pure q
 refine key ?_
 wp_walk
 exact fin
end
section
variable {prog:Program} {w:World} {A:Around} {E:Value→Shared→Prop} {h:Heap} {g:Array GenState} {d:Drawn} {t:Nat} {os:OsState} {C N R NR:Addr} {mN mR:Str→Option Value}
open Builtin Builtin.ObjectAttr in
theorem uJ {e:Addr} {name:Str} {a v:Value} {Q:Unit→Shared→Prop} {sa owner:String} (SF:StoreFacts "ValueError" bmV sa owner) (c:C2 h C N R NR mN mR) (n1:mN "__setattr__"=none) (n2:mR "__setattr__"=none) (n3:mN name=none) (n4:mR name=none)
  (hB:typeLookup (.type "ValueError") name=pure none) (he:h.get? e=some (yE C none a .none))
  (hq:∀ h' tk' dx,h.objs.size≤dx→h'.get? e=some (yE C (some dx) a .none)→h'.Ns1 dx (fun y=>if y=name then some v else none)→(∀ b o,b≠e→h.get? b=some o→h'.get? b=some o)→Q () ⟨h',g,d,tk',os⟩) :
  wpAny (model prog w) A (setAttr (.ref e) name v) Q E ⟨h,g,d,t,os⟩:=by
 obtain ⟨nm,q,bs,sn,sub,ab,col,dd,k0,k1,k2,k3,k5,hC⟩:=c.hC
 have f3:=SF.slot.bind (.ref e)
 have hpass:=SF.passes (.ref e)
 have ha:∀ tk,argsOk sa ⟨[.ref e,.str name tk,v],[]⟩:=fun tk=>SF.args (.ref e) (.str name tk) v
 have hcB:(Value.ref C :: (Value.ref R :: bmV)).contains (.type owner)=true:=by rw [List.contains_cons,List.contains_cons,SF.hasOwner,Bool.or_true,Bool.or_true]
 have lk:∀ {M:Model} {A':Around} {E':Value→Shared→Prop} {tk:Nat} {Q':Option Value→Shared→Prop} {nme:Str} {y:Option Value},mN nme=none→mR nme=none→typeLookup (.type "ValueError") nme=pure y→Q' y ⟨h,g,d,tk,os⟩→wpAny M A' (typeLookup (.ref C) nme) Q' E' ⟨h,g,d,tk,os⟩:=fun a1 a2 a3 q'=>vF c a3 (by rw [a1,a2];exact q')
 unfold setAttr callSpecial? specialOf
 repeat (any_goals (first | assumption | (with_reducible refine wpAny_loadPart_at he ?_) | (with_reducible refine lk n1 n2 SF.slot.lookup ?_) | wp_step))
 refine codeAny_call_builtin SF.slot.plain SF.entry ?_
 simp only [checkBuiltinCall,SF.kind,SF.split]
 show wpAny _ _ _ _ _ _
 refine wpAny_bind ?_
 unfold isInstance
 repeat (first | (with_reducible refine wpAny_loadPart_at he ?_) | (with_reducible refine wpAny_isSubtype_exc hC ?_;rw [hcB]) | wp_step)
 have body:∀ {Q':Fin→Shared→Prop} {E':Value→Shared→Prop} {tk:Nat} {A':Around},(∀ h' tk' dx,h.objs.size≤dx→h'.get? e=some (yE C (some dx) a .none)→h'.Ns1 dx (fun y=>if y=name then some v else none)→(∀ b o,b≠e→h.get? b=some o→h'.get? b=some o)→Q' (.done (.ret .none)) ⟨h',g,d,tk',os⟩) →
   wpAny (model prog w) A' (Builtin.«object.__setattr__» ⟨[.ref e,.str name t,v],[]⟩) Q' E' ⟨h,g,d,tk,os⟩:=fun {Q' E' tk A'} hq=>by
  have hxs:e≠h.objs.size:=Nat.ne_of_lt (Heap.lt_size he)
  have fin:∀ h' tk',h'.get? e=some (yE C (some h.objs.size) a .none)→h'.Ns1 h.objs.size (fun y=>if y=name then some v else none)→(∀ b o,b≠e→h.get? b=some o→h'.get? b=some o)→Q' (.done (.ret .none)) ⟨h',g,d,tk',os⟩:=fun h' tk' a1 a2 a3=>hq h' tk' _ (Nat.le_refl _) a1 a2 a3
  clear hq
  generalize hO:yE C none a .none=o at he
  have hc:o.cls=.ref C:=by rw [← hO]
  have hdn:o.dict=none:=by rw [← hO]
  have hnc:∀ c,o.data≠.cls c:=fun c z=>by rw [← hO] at z;cases z
  have hOd:({ cls:=o.cls,dict:=some h.objs.size,data:=o.data,slots:=o.slots }:Obj)=yE C (some h.objs.size) a .none:=by rw [← hO]
  unfold Builtin.«object.__setattr__»
  repeat (first | rw [refuse_eq] | (rw [refuseLoop_ref,refuseLoop_ref,hpass]) | (with_reducible refine wpAny_loadPart_at he ?_;rw [hc]) | with_reducible refine wpAny_mroOf_exc hC ?_ | (with_reducible refine lk n3 n4 hB ?_) | wp_step)
  rw [hdn,if_neg (by simp [typeHasDict])]
  split
  ·rename_i hcd
   cases hcd
  split
  ·rename_i c hcd
   exact absurd hcd (hnc c)
  have hx₁:(h.push { cls:=.type "dict",data:=.dict #[] }).get? e=some o:=Heap.get?_push_of_some _ he
  refine wpAny_bind (wpAny_alloc' ?_)
  refine wpAny_bind (wpAny_update' hx₁ ?_)
  refine wpAny_pure ?_
  have hgd:((h.push { cls:=.type "dict",data:=.dict #[] }).update e fun o=>{ cls:=o.cls,dict:=some h.objs.size,data:=o.data,slots:=o.slots }).get? h.objs.size=some { cls:=.type "dict",data:=.dict #[] } :=
   (Heap.get?_update_ne _ _ _ _ hxs.symm).trans (Heap.get?_push_at rfl rfl)
  have hnd:((h.push { cls:=.type "dict",data:=.dict #[] }).update e fun o=>{ cls:=o.cls,dict:=some h.objs.size,data:=o.data,slots:=o.slots }).Ns h.objs.size (fun _=>none) :=
   ⟨_,#[],_,hgd,rfl,fun e he=>absurd he (by simp),fun _=>rfl⟩
  show wpAny _ _ (storeInDict h.objs.size (.str name t) name v) _ _ _
  unfold storeInDict newKeyGuard
  refine wpAny_bind (wpAny_pure (wpAny_bind (wpAny_nsSet1 (Heap.Ns1.of_empty hnd) fun h' hn' hs=>?_)))
  obtain ⟨oD,esD,epD,hoD,hdD,hcD⟩:=hn'.count (Within.cons name v Within.nil)
  refine wpAny_bind (wpAny_lookBehind hoD (by rw [hdD];exact pastItsLine_dict (Nat.le_trans hcD (by rw [List.length_cons,List.length_nil,sizeLine_eq];omega))) ?_)
  wp_walk
  refine fin h' _ ?_ hn' fun b ob hbx hb=>?_
  ·rw [← hOd]
   refine (hs.2 e hxs).trans (Heap.get?_update_self _ hx₁ ?_)
   rw [← hO];rfl
  ·exact (hs.2 b (Nat.ne_of_lt (Heap.lt_size hb))).trans ((Heap.get?_update_ne _ _ _ _ hbx).trans (Heap.get?_push_of_some _ hb))
 have hch:∀ {Q':Unit→Shared→Prop} {E':Value→Shared→Prop} {s':Shared} {A':Around},Q' () s'→wpAny (model prog w) A' (match Manifest.signature? sa with | some sig=>Bind.checkArgs sa sig ⟨[.ref e,.str name t,v],[]⟩ | _=>pure ()) Q' E' s':=fun {Q' E' s' A'} q'=>by
  have ha:=ha t
  cases hsig:Manifest.signature? sa with
  | none=>exact wpAny_pure q'
  | some sig =>
   simp only [argsOk,hsig] at ha
   have h2:Bind.checkArgs sa sig ⟨[.ref e,.str name t,v],[]⟩=pure ():=ha
   show wpAny _ _ (Bind.checkArgs sa sig ⟨[.ref e,.str name t,v],[]⟩) _ _ _
   rw [h2];exact wpAny_pure q'
 refine hch (body fun h' tk' dx a0 a1 a2 a3=>?_)
 exact wpAny_pure (wpAny_pure (hq h' tk' dx a0 a1 a2 a3))
end
def iC (e C:Addr):HO:=.ext fun h=>∃ a,h.get? e=some (yE C none a .none)
structure EK (K:PySem.W.Frag) (C R:Addr) (fld:Str):Prop where
 ex:∃ N NR mN mR,(∀ h,K.In h→C2 h C N R NR mN mR)∧mN "__setattr__"=none∧mR "__setattr__"=none∧mN fld=none∧mR fld=none
 fb:typeLookup (.type "ValueError") fld=pure none
structure RK (K:PySem.W.Frag) (R:Addr):Prop where
 sp:PySem.W.specialIn K (.ref R) "__getattribute__"=some (some (.builtin "type.__getattribute__"))
 rd:∃ mc,PySem.W.readsIn K R mc=true∧PySem.W.findCls K (.ref R) mc "__init__"=some (.val (.builtin "ValueError.__init__"))
section
variable {X:Cx} {pins:List (Addr×Obj)} {σ:L2.St} {H:Hp} {s:Shared} {C R e:Addr} {fld:Str}
theorem vL {o:HO} (h:H e=some o):yV H e o=H:=funext fun b=>by
 by_cases z:b=e
 ·rw [z,al,h]
 ·rw [ar z]
theorem lK (I:L2.Inv X pins σ H s) (h:H e=some (iC e C)):∃ a,s.heap.get? e=some (yE C none a .none):=(I.hok e _ h).1
theorem mB {P:Program} {w:World} {H:Hp} {h':Heap} {a:Value} (g:h'.get? e=some (yE C none a .none)):bd P w H h' e (iC e C) :=
 ⟨⟨a,g⟩,⟨_,g⟩,fun h1 h2 p k=>by obtain ⟨a,p⟩:=p;exact⟨a,k _ p⟩⟩
theorem rO {P:Program} {w:World} {H:Hp} {h':Heap} {a:Value} {dx:Addr} (g:h'.get? e=some (yE C (some dx) a .none)):bd P w H h' e (kM e C dx) :=
 ⟨⟨a,g⟩,⟨_,g⟩,fun h1 h2 p k=>by obtain ⟨a,p⟩:=p;exact⟨a,k _ p⟩⟩
def qQ (C:Addr) (t:TA):TE:=fun σ H Q=>t σ H fun vs H1=>∃ e y,vs=[.ref e,y]∧H1 e=some (iC e C)∧Q .non H1
theorem i9 {xR:Str} {pR apos pos:Pos} {a1 a2:Expr} {t:TA} {pl:Sem Bool} (rk:RK X.K R) (ek:EK X.K C R fld) (hg:Gl X xR) (hm:X.mg xR=some (.ref R)) (ha:PA X [a1,a2] t) (hdb:(xR == ("__debug__":Str))=false:=by decide)
    (hst:starEach [a1,a2] X.env=(false,eval a1 X.env) :: starEach [a2] X.env:=by rfl) (hpl:(backTo pos (starEach [a2] X.env)).any (·.1)=false:=by rfl)
    (ht:eval (.Call (.Attribute (.Name xR pR) "__init__" apos) [a1,a2] [] pos) X.env=(do
      let ov←eval (.Name xR pR) X.env
      standAt apos.atName
      let (f,first)←holding [ov] (getMethod ov "__init__" pl)
      callWith pos f first (backTo pos (starEach [a1,a2] X.env)) (backToKw pos (keywordEach [] X.env))):=by rfl) :
    PE X (.Call (.Attribute (.Name xR pR) "__init__" apos) [a1,a2] [] pos) (qQ C t):=by
  intro pins s σ H Q I h
  obtain ⟨mc,hrd,hfc⟩:=rk.rd
  refine PySem.W.methodCall_KW (pl:=pl) (eQ I hg hm ?_ hdb) ht
  refine PySem.W.method_cls I.kIn rk.sp (PySem.W.cls_value I.kIn hrd hfc (by rfl) ?_)
  have I1:=I.tok (s.toks + 1)
  have hA:=ha pos pins _ σ H _ I1 h
  rw [hst] at hA
  show wpAny _ _ (callWith pos (.builtin "ValueError.__init__") [] (backTo pos (starEach [a1,a2] X.env)) (backToKw pos (keywordEach [] X.env))) _ _ _
  rw [hst]
  refine Calls.callWith_builtin (by show (false || (backTo pos (starEach [a2] X.env)).any (·.1))=false;rw [hpl]<;>rfl) (Calls.evalArgs_plain ?_)
  refine yT hA fun us s2 hs2=>?_
  obtain ⟨vs,H2,I2,r2,e,y,rfl,hX,q2⟩:=hs2
  cases r2 with
  | cons r0 r2 =>
    cases r2 with
    | cons r1 r2 =>
      cases r2
      cases r0
      obtain ⟨N,NR,mN,mR,c2,_⟩:=ek.ex
      obtain ⟨a,he⟩:=lK I2 hX
      obtain ⟨hh,g,d,tk,os⟩:=s2
      refine yD (c2 _ I2.kIn) he (fun h' a' g1 g2=>?_) (by show 1≤sizeLine;decide)
      have I3:=I2.write (t':=tk) (x:=e) (e:=e) (o:=iC e C) (h':=h') (by rw [hX];trivial) (.inl rfl) g2 ⟨_,g1⟩ (mB g1)
      rw [vL hX] at I3
      exact⟨.non,H2,I3,rfl,q2⟩
end
end DL
namespace DL
open PySem PySem.Spec PyProof.Rows L2
structure Lft (fs:List Addr) (h h':Heap) (e:Addr) (t:Value) (C:Addr) (dx:Option Addr) (a:Value) (T:Addr):Prop where
 ex:h'.get? e=some (yE C dx a (.ref T))
 tb:ot h' e (.ref T)
 new:h.objs.size≤T
 keep:∀ b o,h.get? b=some o→b≠e→t≠.ref b→b∉fs→h'.get? b=some o
 slot:∀ b o,h.get? b=some o→b≠e→t≠.ref b→∃ sl,h'.get? b=some { o with slots:=sl }
 there:∀ b o,h.get? b=some o→∃ o',h'.get? b=some o'
section
variable {M:Model} {A:Around} {E:Value→Shared→Prop} {s:Shared} {base:Heap} {env:Env} {outer:List Env} {L e C:Addr} {dx:Option Addr} {a t:Value} {Q:Unit→Shared→Prop}
theorem entry {head:Value} {had:Bool} (hfr:A.frames=some (env :: outer)) (hl:s.heap.FunFrames base (env :: outer)) (hf:env.frame=some L) (he:s.heap.get? e=some (yE C dx a t))
  (h:∀ h' T,h'.get? e=some (yE C dx a (.ref T))→ot h' e (.ref T)→s.heap.objs.size≤T→(∀ b o,s.heap.get? b=some o→b≠e→b∉frs (env :: outer)→h'.get? b=some o)→(∀ b o,s.heap.get? b=some o→b≠e→∃ sl,h'.get? b=some { o with slots:=sl })→Q () { s with heap:=h' }) :
  wpAny M A (do let a←frameOf env;let pl←entryPlaceOf L had;let b←EntryCells.newEntry head a .none (rawInt L) .none pl;setField (.ref e) 1 b) (fun _ s'=>wpAny M A (setFlight (.ref e) none) Q E s') E s:=by
 have hene:e∉(env :: outer).filterMap (·.frame):=fun hm=>by
  obtain ⟨_,o,ho,hnf⟩:=hl.mem hm
  rw [he] at ho;injection ho with ho;subst ho;exact hnf _ rfl
 refine wpAny_bind (wpAny_frameOf_fun hfr hl hf fun h₁ hs₁=>?_)
 refine wpAny_bind (wpAny_entryPlaceOf fun pl hpl=>?_)
 unfold EntryCells.newEntry newFields
 refine wpAny_bind (wpAny_newObj_type ?_ (hpl.sizeOk5 _ _ _ _ _))
 have he₁:h₁.get? e=some (yE C dx a t):=(hs₁.2.1 e hene).trans he
 generalize hO:({ cls:=.type "traceback",dict:=none,data:=.fields ([head,.ref L,.none,rawInt L,.none]++(if pl.isEmpty then List.replicate 6 Value.none else pl)).toArray }:Obj)=O
 have hOd:O.data=.fields ([head,.ref L,.none,rawInt L,.none]++(if pl.isEmpty then List.replicate 6 Value.none else pl)).toArray:=by rw [← hO]
 have hOf:O.isFreed=false:=by rw [← hO];rfl
 have he₂:=Heap.get?_push_of_some (h:=h₁) O he₁
 refine wpAny_setField he₂ rfl (by simp) ?_
 have hTe:h₁.objs.size≠e:=Nat.ne_of_gt (Heap.lt_size he₁)
 have he₃:((h₁.push O).update e (Obj.mapFields (·.setIfInBounds 1 (Value.ref h₁.objs.size)))).get? e=some (yE C dx a (.ref h₁.objs.size)):=Heap.get?_update_self (Obj.mapFields (·.setIfInBounds 1 (Value.ref h₁.objs.size))) he₂ rfl
 have hT₃:((h₁.push O).update e (Obj.mapFields (·.setIfInBounds 1 (Value.ref h₁.objs.size)))).get? h₁.objs.size=some O:=(Heap.get?_update_other _ _ (Ne.symm hTe)).trans (Heap.get?_push_size h₁ hOf)
 unfold setFlight
 refine wpAny_bind (wpAny_field he₃ rfl (x:=.ref h₁.objs.size) rfl ?_)
 rw [if_pos (show (Value.ref h₁.objs.size != Value.none)=true from by simp)]
 have hsz:3 < ([head,.ref L,.none,rawInt L,.none]++(if pl.isEmpty then List.replicate 6 Value.none else pl)).toArray.size:=by simp only [List.size_toArray,List.length_append,List.length_cons,List.length_nil]<;>omega
 have hne:∀ b o,h₁.get? b=some o→h₁.objs.size≠b:=fun b o hb=>Nat.ne_of_gt (Heap.lt_size hb)
 have keep:∀ b o,b≠e→h₁.get? b=some o→(((h₁.push O).update e (Obj.mapFields (·.setIfInBounds 1 (Value.ref h₁.objs.size)))).update h₁.objs.size (Obj.mapFields (·.setIfInBounds 3 ((none:Option Addr).elim Value.none fun f=>rawInt f)))).get? b=some o:=fun b o hbe hb=>by
  rw [Heap.get?_update_other _ _ (hne b o hb),Heap.get?_update_other _ _ (Ne.symm hbe)]
  exact Heap.get?_push_of_some _ hb
 refine wpAny_setField hT₃ hOd hsz (h _ h₁.objs.size ?_ ?_ ?_ (fun b o hb hbe hbf=>keep b o hbe ((hs₁.2.1 b hbf).trans hb)) fun b o hb hbe=>?_)
 ·rw [Heap.get?_update_other _ _ hTe];exact he₃
 ·exact .inr ⟨_,_,_,rfl,hTe,Heap.get?_update_self _ hT₃ (Obj.isFreed_of_fields (Obj.data_mapFields hOd _)),Obj.data_mapFields hOd _,by simp [hsz]⟩
 ·rw [hs₁.1];exact Nat.le_refl _
 ·obtain ⟨sl,hs⟩:=hs₁.2.2 b o hb
  exact⟨sl,keep b _ hbe hs⟩
theorem note (hfr:A.frames=some (env :: outer)) (hl:s.heap.FunFrames base (env :: outer)) (hf:env.frame=some L) (he:s.heap.get? e=some (yE C dx a t)) (ht:ot s.heap e t)
  (h:∀ h' T,Lft (frs (env :: outer)) s.heap h' e t C dx a T→Q () { s with heap:=h' }) :
  wpAny M A (noteFrame (.ref e) env) (fun _ s'=>wpAny M A (setFlight (.ref e) none) Q E s') E s:=by
 unfold noteFrame
 simp only [hf]
 refine wpAny_bind (wpAny_field he rfl (x:=t) rfl ?_)
 rcases ht with rfl | ⟨T,oT,ts,rfl,hTe,hT,hdT,h3⟩
 ·rw [if_neg (by decide)]
  refine entry hfr hl hf he fun h' T h1 h2 h3 h4 h5=>h h' T ⟨h1,h2,h3,fun b o hb hbe _=>h4 b o hb hbe,fun b o hb hbe _=>h5 b o hb hbe,fun b o hb=>?_⟩
  by_cases z:b=e
  ·exact⟨_,by rw [z];exact h1⟩
  ·obtain ⟨sl,q⟩:=h5 b o hb z;exact⟨_,q⟩
 ·rw [if_pos (show (Value.ref T != Value.none)=true from by simp)]
  refine wpAny_bind (wpAny_field hT hdT h3 ?_)
  rw [if_neg (show ¬ ((Value.none == rawInt L)=true) from by simp [rawInt])]
  refine wpAny_bind (wpAny_setField hT hdT (Array.getElem?_eq_some_iff.mp h3).1 ?_)
  have other:∀ b,b≠T→(s.heap.update T (Obj.mapFields (·.setIfInBounds 3 Value.none))).get? b=s.heap.get? b:=fun b hb=>Heap.get?_update_other _ _ (Ne.symm hb)
  have noRecord:∀ b o,s.heap.get? b=some o→(∀ vs,o.data≠.fields vs)→b≠T:=fun b o hb hnf q=>by
   rw [q,hT] at hb;injection hb with hb;subst hb;exact hnf ts hdT
  have hT2:=Heap.get?_update_self (Obj.mapFields (·.setIfInBounds 3 Value.none)) hT (Obj.isFreed_of_fields (Obj.data_mapFields hdT _))
  refine entry (s:={ s with heap:=s.heap.update T (Obj.mapFields (·.setIfInBounds 3 Value.none)) }) hfr (hl.of_keeps fun b o hb hnf=>⟨o,(other b (noRecord b o hb hnf)).trans hb,rfl⟩) hf ((other e (Ne.symm hTe)).trans he)
   fun h' T' h1 h2 h3 h4 h5=>h h' T' ⟨h1,h2,by rw [← Heap.size_after_update];exact h3,fun b o hb hbe hbt=>h4 b o ((other b fun z=>hbt (by rw [z])).trans hb) hbe,fun b o hb hbe hbt=>h5 b o ((other b fun z=>hbt (by rw [z])).trans hb) hbe,fun b o hb=>?_⟩
  by_cases z:b=e
  ·exact⟨_,by rw [z];exact h1⟩
  ·by_cases z2:b=T
   ·subst z2
    obtain ⟨sl,q⟩:=h5 b _ hT2 z;exact⟨_,q⟩
   ·obtain ⟨sl,q⟩:=h5 b o ((other b z2).trans hb) z;exact⟨_,q⟩
theorem yq (hfr:A.frames=some (env :: outer)) (hl:s.heap.FunFrames base (env :: outer)) (hf:env.frame=some L) (he:s.heap.get? e=some (yE C dx a t)) (ht:ot s.heap e t)
  (h:∀ h' T,Lft (frs (env :: outer)) s.heap h' e t C dx a T→Q () { s with heap:=h' }):wpAny M A (leaving env (.ref e)) Q E s:=by
 unfold leaving
 exact wpAny_bind (note hfr hl hf he ht h)
end
inductive CXE (P:Program) (w:World) (outer:List Env) (H:Hp) (s:Shared) (E:XK) (v:Value) (s':Shared):Prop
 | mk (e C dx:Addr) (a t:Value) (H':Hp) (hv:v=.ref e) (os:s'.os=s.os) (bare:AllBare s'.gens) (un:Un (frs outer) [] H H' s.heap s'.heap) (hok:yO P w H' s'.heap)
  (he:s'.heap.get? e=some (yE C (some dx) a t)) (ht:ot s'.heap e t) (hT:∀ T,t=.ref T→H' T=none∧s.heap.objs.size≤T) (hX:H' e=some (XAt e C dx)) (hE:E (.ref e) (some dx) H')
section
variable {P:Program} {w:World} {K:PySem.W.Frag} {mg:Str→Option Value} {base:Heap} {N:List Str} {qual:Str} {scope:Scope} {f:Addr} {cd:Value} {A:Around} {outer:List Env} {s:Shared} {H:Hp} {E:XK}
theorem Lft.hok {fs:List Addr} {h h':Heap} {e C dx T:Addr} {a t:Value} {H':Hp} (l:Lft fs h h' e t C (some dx) a T) (hok:yO P w H' h) (hX:H' e=some (XAt e C dx)) (hT:∀ T,t=.ref T→H' T=none) (hfs:∀ b∈fs,H' b=none):yO P w H' h':=fun b o q=>by
 have kp:∀ c u v,H' c=some v→c≠e→h.get? c=some u→h'.get? c=some u:=fun c u v hc hce hu=>l.keep c u hu hce (fun z=>by rw [hT c z] at hc;cases hc) fun z=>by rw [hfs c z] at hc;cases hc
 by_cases hb:b=e
 ·subst hb
  rw [hX] at q
  cases q
  refine⟨⟨_,_,l.ex⟩,⟨_,l.ex⟩,fun h1 h2 p k=>?_⟩
  obtain ⟨a,t,p⟩:=p
  exact⟨a,t,k _ p⟩
 ·refine (hok b o q).stay (fun c u hc hu=>?_) (fun _ r=>r) fun _ _ r=>r
  rcases hc with rfl | hc
  ·exact kp _ _ _ q hb hu
  ·exact kp _ _ _ hc (fun z=>by rw [z,hX] at hc;cases hc) hu
end
end DL
namespace DL
open PySem PySem.Spec PyProof.Rows L2
section
variable {X:Cx} {pins:List (Addr×Obj)} {σ:L2.St} {H:Hp} {s:Shared} {C R e:Addr} {fld:Str}
theorem oV {f:Str} {y:V} {u:Value} (r:aN y u) (f':Str):jG (([(f,y)]:List (Str×V)).lookup f') (if f'=f then some u else none):=by
 by_cases z:f'=f
 ·subst z
  rw [if_pos rfl]
  simp only [List.lookup,beq_self_eq_true]
  exact r
 ·rw [if_neg z]
  have:(f' == f)=false:=beq_eq_false_iff_ne.mpr z
  simp only [List.lookup,this]
  exact True.intro
theorem Inv.xput {h':Heap} {dx:Addr} {a u:Value} {y:V} {t':Nat} (I:L2.Inv X pins σ H s) (hX:H e=some (iC e C)) (hdx:s.heap.objs.size≤dx) (r:aN y u) (g1:h'.get? e=some (yE C (some dx) a .none)) (g2:h'.Ns1 dx (fun z=>if z=fld then some u else none))
  (g3:∀ b o,b≠e→s.heap.get? b=some o→h'.get? b=some o):L2.Inv X pins σ (yV (yV H dx (.xd [(fld,y)])) e (kM e C dx)) { s with heap:=h',toks:=t' }:=by
 have hn:H dx=none:=I.hok.fresh hdx
 have hne:dx≠e:=fun z=>by rw [z,hX] at hn;cases hn
 have at':∀ b,b≠e→b≠dx→yV (yV H dx (.xd [(fld,y)])) e (kM e C dx) b=H b:=fun b z1 z2=>by rw [ar z1,ar z2]
 have ndx:∀ b o,s.heap.get? b=some o→b≠dx:=fun b o hb z=>by
  have:=Heap.lt_size hb
  rw [z] at this
  exact absurd (Nat.lt_of_lt_of_le this hdx) (Nat.lt_irrefl _)
 have nH:∀ b v,H b=some v→b≠dx:=fun b v hb z=>by rw [z,hn] at hb;cases hb
 have nX:∀ b v,H b=some v→v≠iC e C→b≠e:=fun b v hb hv z=>by rw [z,hX] at hb;exact hv (Option.some.inj hb).symm
 refine I.un ⟨fun b o hb hu _ _=>g3 b o (fun z=>by rw [z,hX] at hu;cases hu) hb,fun b o hb hu _ _=>⟨o.slots,g3 b o (fun z=>by rw [z,hX] at hu;cases hu) hb⟩,fun b o hb hu _=>?_,fun b o hb _=>?_,fun b xs hb=>?_,fun b o u hb=>?_,fun b ps hb=>⟨#[],?_⟩⟩ fun b o q=>?_
 ·rw [at' b (fun z=>by rw [z,hX] at hu;cases hu) (ndx b o hb)];exact hu
 ·by_cases z:b=e
  ·exact⟨_,by rw [z];exact g1⟩
  ·exact⟨o,g3 b o z hb⟩
 ·rw [at' b (nX b _ hb (by unfold iC;exact fun z=>nomatch z)) (nH b _ hb)];exact hb
 ·rw [at' b (nX b _ hb (by unfold iC;exact fun z=>nomatch z)) (nH b _ hb)];exact hb
 ·rw [at' b (nX b _ hb (by unfold iC;exact fun z=>nomatch z)) (nH b _ hb),hb,Array.append_empty]
 ·by_cases z:b=e
  ·subst z
   rw [al] at q
   cases q
   exact rO g1
  ·by_cases z2:b=dx
   ·subst z2
    rw [ar z,al] at q
    cases q
    exact⟨_,g2,oV r⟩
   ·rw [at' b z z2] at q
    refine (I.hok b o q).stay (fun c v hc hv=>?_) (fun c hc=>?_) fun c xs hc=>?_
    ·refine g3 c v ?_ hv
     rcases hc with rfl | hc
     ·exact z
     ·exact nX c _ hc (by unfold iC;exact fun z=>nomatch z)
    ·rw [at' c (nX c _ hc (by unfold iC;exact fun z=>nomatch z)) (nH c _ hc)];exact hc
    ·rw [at' c (nX c _ hc (by unfold iC;exact fun z=>nomatch z)) (nH c _ hc)];exact hc
def sL (C:Addr) (f:Str) (ta tv:TE):TS:=fun D σ H=>tv σ H fun y H1=>ta σ H1 fun x H2=>∃ e,x=.ref e∧H2 e=some (iC e C)∧∀ dx,H2 dx=none→dx≠e→D.nx σ (yV (yV H2 dx (.xd [(f,y)])) e (kM e C dx))
theorem ja {o value:Expr} {pos' pos:Pos} {ta tv:TE} (ek:EK X.K C R fld) (ha:PE X o ta) (hv:PE X value tv) (hs:swapsWith value (some (.Attribute o fld pos')) pos.line X.env=pure false:=by rfl):PS X (.Assign [.Attribute o fld pos'] value pos) (sL C fld ta tv):=by
 intro pins s σ H D I h
 refine plainObj_wpAny_Assign_Attribute (yT (hv pins s σ H _ I h) fun u s1 hs1=>?_) hs
 obtain ⟨y,H1,I1,ry,q⟩:=hs1
 refine yT (ha pins s1 σ H1 _ I1 q) fun ov s2 hs2=>?_
 obtain ⟨x,H2,I2,rx,e,rfl,hX,q2⟩:=hs2
 cases rx
 obtain ⟨N,NR,mN,mR,c2,n1,n2,n3,n4⟩:=ek.ex
 obtain ⟨a,he⟩:=lK I2 hX
 obtain ⟨hh,g,d,tk,os⟩:=s2
 refine uJ PySem.F.store_ValueError (c2 _ I2.kIn) n1 n2 n3 n4 ek.fb he fun h' tk' dx hdx g1 g2 g3=>?_
 have hn:H2 dx=none:=I2.hok.fresh hdx
 exact⟨σ,_,Inv.xput (t':=tk') I2 hX hdx ry g1 g2 g3,q2 dx hn fun z=>by rw [z,hX] at hn;cases hn⟩
end
structure EM (K:PySem.W.Frag) (C R fI:Addr):Prop where
 ex:∃ N NR mN mR,(∀ h,K.In h→C2 h C N R NR mN mR)∧mN "__init__"=some (.ref fI)
 kp:PySem.W.keepIn K (.ref C)=true
 fn:∃ o,K.lookup fI=some o∧o.cls=.type "function"
def pyB:Bool→V→Prop
 | false,_=>True
 | true,v=>∃ x,v=.str x∧x.length≤100
def spI (C:Addr) (fld:Str) (b:Bool):Sp:=fun vs H Q _=>∃ e y,vs=[.ref e,y]∧pyB b y∧H e=some (iC e C)∧∀ dx,H dx=none→dx≠e→Q .non (yV (yV H dx (.xd [(fld,y)])) e (kM e C dx))
theorem upd3 {H:Hp} {e dx:Addr} {a b c:HO}:yV (yV (yV H e a) dx b) e c=yV (yV H dx b) e c:=funext fun z=>by
 by_cases h:z=e
 ·rw [h,al,al]
 ·rw [ar h,ar h]
  by_cases h2:z=dx
  ·rw [h2,al,al]
  ·rw [ar h2,ar h2,ar h]
section
variable {X:Cx} {pins:List (Addr×Obj)} {σ:L2.St} {H:Hp} {s:Shared} {C R fI:Addr} {fld:Str} {k:Nat} {fd:FuncData} {ps:List Str} {Q:VK} {b:Bool}
theorem mE {y:V} {u:Value} (em:EM X.K C R fI) (F:c8 X.prog X.w X.K X.mg X.base CX0 k fI fd ps (spI C fld b)) (hr:bP (k + 1) X.A) (hb:cT X.K fd ps []) (I:L2.Inv X pins σ H s) (r:aN y u) (hy:pyB b y)
  (h:∀ e dx,H e=none→H dx=none→dx≠e→Q (.ref e) (yV (yV H dx (.xd [(fld,y)])) e (kM e C dx))):wpAny (model X.prog X.w) X.A (call (.ref C) [u]) (EP X pins σ Q) X.xe s:=by
 obtain ⟨N,NR,mN,mR,c2,hi⟩:=em.ex
 obtain ⟨o,lk,hc⟩:=em.fn
 obtain ⟨hh,g,d,tk,os⟩:=s
 refine yg (c2 _ I.kIn) hi (I.kIn _ _ lk) hc (fun h' e hs M=>?_) (by show 1≤sizeLine;decide)
 obtain ⟨t,he,_⟩:=M.there
 have I2:=I.laid (t':=tk) (a:=e) (o:=iC e C) M.keeps hs (mB he)
 have hn:H e=none:=I.hok.fresh hs
 have sp:spI C fld b [.ref e,y] (yV H e (iC e C)) (fun v H2=>v=.non∧Q (.ref e) H2) E0:=⟨e,y,rfl,hy,al,fun dx hdx hne=>⟨rfl,by
  rw [upd3]
  exact h e dx hn (by rw [ar hne] at hdx;exact hdx) hne⟩⟩
 have r2:aV [V.ref e,y] [Value.ref e,u]:=.cons rfl (.cons r .nil)
 have hl:([Value.ref e,u]++[]).length=ps.length:=by
  have:=F.len _ _ _ _ sp
  exact this
 refine wpAny_call (codeAny_mono (F.run _ X.stack _ _ ⟨[Value.ref e,u],[]⟩ [Value.ref e,u] [V.ref e,y] _ E0 (hr.make C [u] []) (I2.env0.make C [u] []) (hb _ [Value.ref e,u] I2.kIn hl) r2 sp) fun r s' hq'=>?_)
 cases r with
 | error e=>exact False.elim hq'
 | ok fl =>
  cases fl with
  | ret u' =>
   obtain ⟨v,H',I3,rv,ev,q3⟩:=I2.after hq'
   subst ev
   exact⟨rv,⟨V.ref e,H',I3,rfl,q3⟩⟩
  | next=>exact False.elim hq'
  | brk=>exact False.elim hq'
  | cont=>exact False.elim hq'
def pS (C:Addr) (fld:Str) (b:Bool) (t:TA):TE:=fun σ H Q=>t σ H fun vs H1=>∃ y,vs=[y]∧pyB b y∧∀ e dx,H1 e=none→H1 dx=none→dx≠e→Q (.ref e) (yV (yV H1 dx (.xd [(fld,y)])) e (kM e C dx))
theorem oO {x:Str} {p pos:Pos} {a:Expr} {t:TA} (em:EM X.K C R fI) (F:c8 X.prog X.w X.K X.mg X.base CX0 k fI fd ps (spI C fld b)) (hr:bP (k + 1) X.A) (hg:Gl X x) (hm:X.mg x=some (.ref C)) (hb:cT X.K fd ps []) (ha:PA X [a] t)
  (hdb:(x == ("__debug__":Str))=false:=by decide) (he:starEach [a] X.env=(false,eval a X.env) :: starEach [] X.env:=by rfl) (hpl:(backTo pos (starEach [] X.env)).any (·.1)=false:=by rfl) :
  PE X (.Call (.Name x p) [a] [] pos) (pS C fld b t):=by
 intro pins s σ H Q I h
 refine wpAny_Call_Name_kw (eQ I hg hm ?_ hdb)
 refine PySem.W.callWith_K (h₀:=X.base) I.ok.mod.kin em.kp (yT (ha pos pins s σ H _ I h) fun us s1 hs1=>?_) he hpl
 obtain ⟨vs,H1,I1,r,y,rfl,hy,q⟩:=hs1
 refine⟨I1.kIn,?_⟩
 cases r with
 | cons r0 r =>
  cases r
  exact mE em F hr hb I1 r0 hy q
end
theorem wU {M:Model} {A:Around} {E:Value→Shared→Prop} {s:Shared} {env:Env} {x:Sem Value} {Q:Flow→Shared→Prop} {C N R NR:Addr} {mN mR:Str→Option Value} (hh:A.handled=none)
  (h:wpAny M A x (fun v s₁=>∃ e dx a,v=.ref e∧C2 s₁.heap C N R NR mN mR∧s₁.heap.get? e=some (yE C dx a .none)∧E (.ref e) s₁) E s):wpAny M A (raiseStmt env (some x) none) Q E s:=by
 unfold raiseStmt
 refine wpAny_bind (wpAny_mono h (fun v s₁ h₁=>?_) fun _ _ x=>x)
 obtain ⟨e,dx,a,rfl,c,he,hE⟩:=h₁
 obtain ⟨nm,q,bs,sn,sub,ab,col,dd,k0,k1,k2,k3,k5,hC⟩:=c.hC
 have hcB:(Value.ref C :: (Value.ref R :: bmV)).contains (.type "BaseException")=true:=by rw [List.contains_cons,List.contains_cons,show bmV.contains (.type "BaseException")=true by decide +kernel,Bool.or_true,Bool.or_true]
 obtain ⟨hp,g,d,tk,os⟩:=s₁
 repeat (first | with_reducible refine wpAny_loadPart_at he ?_ | with_reducible refine wpAny_loadPart_at hC ?_ | (with_reducible refine wpAny_isSubtype_exc hC ?_;rw [hcB]) | wp_step)
 exact wpAny_raiseNew_none hh hE
section
variable {P:Program} {w:World} {K:PySem.W.Frag} {mg:Str→Option Value} {base:Heap} {N:List Str} {qual:Str} {scope:Scope} {f:Addr} {cd:Value} {A:Around} {outer:List Env} {s:Shared} {H:Hp} {E:XK} {C R e dx:Addr} {fld:Str}
end
end DL
namespace DL
open PySem PySem.Spec PyProof.Rows L2
section
variable {X:Cx} {pins:List (Addr×Obj)} {σ:L2.St} {H:Hp} {s:Shared}
theorem kH {M:Model} {A:Around} {E:Value→Shared→Prop} {i:Nat} {x:Str} {v:V} {Q:Unit→Shared→Prop} (I:L2.Inv X pins σ H s) (hN:X.N.Nodup) (hi:X.N[i]?=some x) (hk:X.env.scope.names.lookup x=some .local) (hv:σ[i]?=some (some v))
  (h:∀ s',L2.Inv X pins (σ.set i none) H s'→Q () s'):wpAny M A (unbindName X.env x) Q E s:=by
 obtain ⟨m,hn,hl⟩:=id I.loc
 have hcls:(X.env.scope.kind == .class || (X.env.scope.kind == .module && X.env.locals != X.env.globals))=false:=by rw [I.ok.kind];rfl
 have hiσ:i < σ.length:=by rw [I.len];exact (List.getElem?_eq_some_iff.mp hi).1
 have cne:=I.cne
 obtain ⟨u,r,q⟩:=hl i x v hi hv (.inl hk)
 have hm:m x=some u:=by
  rcases q with ⟨_,e⟩ | ⟨k,_⟩
  ·exact e
  ·rcases k with k | k
   ·rw [show X.env.kindOf x=X.env.scope.names.lookup x from rfl,hk] at k;cases k
   ·rw [show X.env.kindOf x=X.env.scope.names.lookup x from rfl,hk] at k;cases k
 refine wpAny_unbindName_local hk hn hm hcls fun h' u' hn' hs=>?_
 obtain ⟨oL,_,_,hoL,_⟩:=id hn
 have tracked:yO X.prog X.w H h':=fun b ob e=>by
  refine (I.hok b ob e).stay (fun c w' hc q=>(hs.2 c ?_).trans q) (fun _ q=>q) fun _ _ q=>q
  rintro rfl
  rcases hc with rfl | hc
  ·rw [I.free] at e;cases e
  ·rw [I.free] at hc;cases hc
 refine h _ ⟨I.ok,I.os,I.bare,⟨fun b o e n hb hx=>?_,fun b o e n hb hx=>?_,I.base.free,fun b o e hx=>?_,I.base.tups,I.base.frzs,I.base.tbls⟩,⟨_,hn',fun j y v' e1 e2 e3=>?_⟩,fun y c e=>?_,I.free,I.freeC,fun p hp=>?_,tracked,by simpa using I.len⟩
 ·exact (hs.2 b (Nat.ne_of_lt (Nat.lt_of_lt_of_le (Heap.lt_size e) I.ok.above))).trans (I.base.keep b o e n hb hx)
 ·obtain ⟨sl,e1⟩:=I.base.slot b o e n hb hx
  exact⟨sl,(hs.2 b (Nat.ne_of_lt (Nat.lt_of_lt_of_le (Heap.lt_size e) I.ok.above))).trans e1⟩
 ·obtain ⟨o',e1⟩:=I.base.there b o e hx
  exact⟨o',(hs.2 b (Nat.ne_of_lt (Nat.lt_of_lt_of_le (Heap.lt_size e) I.ok.above))).trans e1⟩
 ·by_cases hj:j=i
  ·subst hj
   rw [List.getElem?_set_self hiσ] at e2
   cases e2
  ·rw [List.getElem?_set_ne (Ne.symm hj)] at e2
   obtain ⟨u',r',q⟩:=hl j y v' e1 e2 e3
   refine⟨u',r',?_⟩
   rcases q with ⟨k,e⟩ | ⟨k,c,e,z⟩
   ·refine .inl ⟨k,?_⟩
    have:y≠x:=fun e=>hj (gw hN e1 (e ▸ hi))
    simp [this,e]
   ·exact .inr ⟨k,c,e,z.sameBut hs (cne y c e)⟩
 ·obtain ⟨w',z⟩:=I.cell y c e
  exact⟨w',z.sameBut hs (cne y c e)⟩
 ·obtain ⟨e,n,ne,nf,d⟩:=I.pin p hp
  exact⟨(hs.2 p.1 ne).trans e,n,ne,nf,d⟩
abbrev _root_.L2.Cx.inTry (X:Cx) (pins:List (Addr×Obj)) (E:Value→Shared→Prop):Cx:={ X with pn:=X.pn++pins,xe:=E }
theorem pj {E:Value→Shared→Prop} (ok:X.Ok):(X.inTry pins E).Ok:=⟨ok.mod,ok.kind,ok.glob,ok.blt,ok.above,ok.inj,ok.has,ok.cab,ok.hd,ok.frames,ok.stk,ok.exf,ok.bs,ok.bsz,ok.noex,ok.exfs,ok.funs,ok.frf⟩
theorem oh {E:Value→Shared→Prop} (ok:(X.inTry pins E).Ok):X.Ok:=⟨ok.mod,ok.kind,ok.glob,ok.blt,ok.above,ok.inj,ok.has,ok.cab,ok.hd,ok.frames,ok.stk,ok.exf,ok.bs,ok.bsz,ok.noex,ok.exfs,ok.funs,ok.frf⟩
theorem xZ {E:Value→Shared→Prop} (I:L2.Inv X pins σ H s):L2.Inv (X.inTry pins E) [] σ H s:=⟨pj I.ok,I.os,I.bare,I.base,I.loc,I.cell,I.free,I.freeC,fun p hp=>I.pin p (by simpa using hp),I.hok,I.len⟩
theorem li {E:Value→Shared→Prop} {q:List (Addr×Obj)} (I:L2.Inv (X.inTry pins E) q σ H s):L2.Inv X pins σ H s:=⟨oh I.ok,I.os,I.bare,I.base,I.loc,I.cell,I.free,I.freeC,fun p hp=>I.pin p (List.mem_append_left _ hp),I.hok,I.len⟩
inductive fN (X:Cx) (pins:List (Addr×Obj)) (Ex:XK) (v:Value) (s':Shared):Prop
 | mk (σ:L2.St) (H':Hp) (e C dx:Addr) (a t:Value) (hv:v=.ref e) (I:L2.Inv X pins σ H' s') (he:s'.heap.get? e=some (yE C (some dx) a t)) (ht:ot s'.heap e t)
  (hT:∀ T,t=.ref T→H' T=none∧X.s₀.heap.objs.size≤T∧T≠X.env.locals∧(∀ x c,X.env.cells.lookup x=some c→c≠T)∧∀ p∈X.pn++pins,p.1≠T) (hX:H' e=some (XAt e C dx)) (hE:Ex (.ref e) (some dx) H')
end
section
variable {X:Cx} {pins:List (Addr×Obj)} {Ex:XK} {v:Value} {s:Shared} {M:Model} {A:Around} {E:Value→Shared→Prop} {Q:Unit→Shared→Prop}
theorem cM {fs:List Addr} {h h':Heap} {e C dx:Addr} {H':Hp} (hX:H' e=some (XAt e C dx)) (ch:List Addr) (keep:∀ b o,h.get? b=some o→b≠e→b∉ch→b∉fs→h'.get? b=some o)
  (slot:∀ b o,h.get? b=some o→b≠e→b∉ch→∃ sl,h'.get? b=some { o with slots:=sl }) (there:∀ b o,h.get? b=some o→∃ o',h'.get? b=some o'):Un fs ch H' H' h h' :=
 ⟨fun b o hb hn hf hx=>keep b o hb (fun z=>by rw [z,hX] at hn;cases hn) hx hf,fun b o hb hn _ hx=>slot b o hb (fun z=>by rw [z,hX] at hn;cases hn) hx,fun _ _ _ hn _=>hn,fun b o hb _=>there b o hb,fun _ _ q=>q,fun _ _ _ q=>q,fun b ps q=>⟨#[],by rw [Array.append_empty];exact q⟩⟩
def trk:Value→List Addr
 | .ref T=>[T]
 | _=>[]
theorem gA {t:Value} {b:Addr} (h:b∉trk t):t≠.ref b:=fun z=>h (by rw [z];exact List.mem_singleton.mpr rfl)
theorem p0 {t:Value} {b:Addr} (h:b∈trk t):t=.ref b:=by
 cases t with
 | ref T=>rw [List.mem_singleton.mp h]
 | _=>cases h
theorem kG (hst:X.stack=X.env :: X.outer∧X.env.frame=some X.env.locals) (hA:A.frames=some X.stack) (L:fN X pins Ex v s) (h:∀ h',fN X pins Ex v { s with heap:=h' }→Q () { s with heap:=h' }) :
  wpAny M A (noteFrame v X.env) (fun _ s2=>wpAny M A (setFlight v none) Q E s2) E s:=by
 obtain ⟨σ,H',e,C,dx,a,t,rfl,I,he,ht,hT,hX,hE⟩:=L
 have st:=I.stack
 have sf:=I.stkFree
 rw [hst.1] at hA st
 refine note hA st hst.2 he ht fun h' T l=>h h' ⟨σ,H',e,C,dx,a,.ref T,rfl,?_,l.ex,l.tb,fun T' z=>?_,hX,hE⟩
 ·refine I.call' (s':={ s with heap:=h' }) (ch:=trk t) rfl (cM hX _ (fun b o hb hbe hc hf=>l.keep b o hb hbe (gA hc) (by rw [← hst.1];exact hf)) (fun b o hb hbe hc=>l.slot b o hb hbe (gA hc)) l.there) (l.hok I.hok hX (fun T z=>(hT T z).1) (by rw [← hst.1];exact sf)) I.bare fun b hb=>?_
  obtain ⟨_,z2,z3,z4,z5⟩:=hT b (p0 hb)
  exact⟨.inr z2,z3,z4,z5⟩
 ·cases z
  have fr:s.heap.objs.size≤T:=l.new
  refine⟨I.hok.fresh fr,Nat.le_trans I.sz fr,fun y=>?_,fun x c hxc y=>?_,fun p hp y=>?_⟩
  ·exact absurd (Nat.lt_of_lt_of_le I.lt fr) (by rw [y];exact Nat.lt_irrefl _)
  ·obtain ⟨w',o,ho,_⟩:=I.cell x c hxc
   exact absurd (Nat.lt_of_lt_of_le (Heap.lt_size ho) fr) (by rw [y];exact Nat.lt_irrefl _)
  ·exact absurd (Nat.lt_of_lt_of_le (Heap.lt_size (I.pin p hp).1) fr) (by rw [y];exact Nat.lt_irrefl _)
theorem iQ (L:fN X pins Ex v s) (h:∀ h',fN X pins Ex v { s with heap:=h' }→Q () { s with heap:=h' }):wpAny M A (setFlight v none) Q E s:=by
 obtain ⟨σ,H',e,C,dx,a,t,rfl,I,he,ht,hT,hX,hE⟩:=L
 unfold setFlight
 refine wpAny_bind (wpAny_field he rfl (x:=t) rfl ?_)
 have ht0:=ht
 rcases ht with rfl | ⟨T,oT,ts,rfl,hTe,hg,hd,h3⟩
 ·rw [if_neg (by decide)]
  exact wpAny_pure (h s.heap ⟨σ,H',e,C,dx,a,.none,rfl,I,he,ht0,hT,hX,hE⟩)
 ·rw [if_pos (show (Value.ref T != Value.none)=true from by simp)]
  have hsz:3 < ts.size:=(Array.getElem?_eq_some_iff.mp h3).1
  have other:∀ b,b≠T→(s.heap.update T (Obj.mapFields (·.setIfInBounds 3 ((none:Option Addr).elim Value.none fun f=>rawInt f)))).get? b=s.heap.get? b:=fun b hb=>Heap.get?_update_other _ _ (Ne.symm hb)
  have self:=Heap.get?_update_self (Obj.mapFields (·.setIfInBounds 3 ((none:Option Addr).elim Value.none fun f=>rawInt f))) hg (Obj.isFreed_of_fields (Obj.data_mapFields hd _))
  refine wpAny_setField hg hd hsz (h _ ⟨σ,H',e,C,dx,a,.ref T,rfl,?_,(other e (Ne.symm hTe)).trans he,.inr ⟨T,_,_,rfl,hTe,self,Obj.data_mapFields hd _,by simp [hsz]⟩,hT,hX,hE⟩)
  obtain ⟨z1,z2,z3,z4,z5⟩:=hT T rfl
  refine I.call' (ch:=[T]) rfl (cM hX _ (fun b o hb _ hc _=>(other b fun z=>hc (by rw [z];exact List.mem_singleton.mpr rfl)).trans hb) (fun b o hb _ hc=>⟨o.slots,(other b fun z=>hc (by rw [z];exact List.mem_singleton.mpr rfl)).trans hb⟩) fun b o hb=>?_) (fun b o q=>?_) I.bare fun b hb=>?_
  ·by_cases z:b=T
   ·exact⟨_,by rw [z];exact self⟩
   ·exact⟨o,(other b z).trans hb⟩
  ·refine (I.hok b o q).stay (fun c u hc hu=>(other c fun z=>?_).trans hu) (fun _ r=>r) fun _ _ r=>r
   rcases hc with rfl | hc
   ·rw [z,z1] at q;cases q
   ·rw [z,z1] at hc;cases hc
  ·rw [List.mem_singleton.mp hb]
   exact⟨.inr z2,z3,z4,z5⟩
theorem wN {h:Heap} {g:Array GenState} {d:Drawn} {t:Nat} {os:OsState} {e C N R NR:Addr} {mN mR:Str→Option Value} {dx:Option Addr} {a tb:Value} {Q:Bool→Shared→Prop} (c:C2 h C N R NR mN mR) (he:h.get? e=some (yE C dx a tb)) (hq:Q true ⟨h,g,d,t,os⟩) :
  wpAny M A (excMatches (.ref e) (.ref R)) Q E ⟨h,g,d,t,os⟩:=by
 obtain ⟨⟨nm,q,bs,sn,sub,ab,col,dd,k0,k1,k2,k3,k5,hC⟩,⟨nm',q',bs',sn',sub',ab',col',dd',j0,j1,j2,j3,j5,hR⟩,_⟩:=c
 have hcB:(Value.ref R :: bmV).contains (.type "BaseException")=true:=by rw [List.contains_cons,show bmV.contains (.type "BaseException")=true by decide +kernel,Bool.or_true]
 have hcC:(Value.ref C :: (Value.ref R :: bmV)).contains (.ref R)=true:=by simp
 have f:=tc_notTuple
 unfold excMatches
 repeat (first | (with_reducible refine wpAny_loadPart_at he ?_) | with_reducible refine wpAny_loadPart_at hR ?_ | (with_reducible refine wpAny_isSubtype_exc hR ?_;rw [hcB]) | (with_reducible refine wpAny_isSubtype_exc hC ?_;rw [hcC]) | wp_step)
 exact hq
end
abbrev _root_.L2.Cx.hdl (X:Cx) (A':Around) (E:Value→Shared→Prop):Cx:={ X with A:=A',calm:=false,xe:=E }
section
variable {X:Cx} {pins:List (Addr×Obj)} {σ:L2.St} {H:Hp} {s:Shared}
theorem wp {A':Around} {E:Value→Shared→Prop} (hA:A'.frames=some X.stack) (I:L2.Inv X pins σ H s):L2.Inv (X.hdl A' E) pins σ H s :=
 ⟨⟨I.ok.mod,I.ok.kind,I.ok.glob,I.ok.blt,I.ok.above,I.ok.inj,I.ok.has,I.ok.cab,(fun z=>nomatch z),hA,I.ok.stk,I.ok.exf,I.ok.bs,I.ok.bsz,I.ok.noex,I.ok.exfs,I.ok.funs,I.ok.frf⟩,I.os,I.bare,I.base,I.loc,I.cell,I.free,I.freeC,I.pin,I.hok,I.len⟩
theorem yt {A':Around} {E:Value→Shared→Prop} (ok:X.Ok) (I:L2.Inv (X.hdl A' E) pins σ H s):L2.Inv X pins σ H s:=⟨ok,I.os,I.bare,I.base,I.loc,I.cell,I.free,I.freeC,I.pin,I.hok,I.len⟩
def sTry (X:Cx) (R:Addr) (j:Nat) (tb:List (Addr×Obj)→(Value→Shared→Prop)→TS) (ts:TS):TS:=fun D σ H=>∃ Ex:XK,(∀ e C dx H',H' e=some (XAt e C dx)→Ex (.ref e) (some dx) H'→∃ N NR mN mR,∀ h,X.K.In h→C2 h C N R NR mN mR)∧(∀ pins E,(∀ v s',fN X pins Ex v s'→E v s')→tb pins E D σ H) ∧
 ∀ (σ':L2.St) (H':Hp) (e C dx:Addr),σ'.length=σ.length→H' e=some (XAt e C dx)→Ex (.ref e) (some dx) H'→ts { nx:=fun σ2 H2=>D.nx (σ2.set j none) H2,rt:=fun _ _=>False } (σ'.set j (some (.ref e))) H'
theorem vn {R:Addr} {body:List Stmt} {st:Stmt} {n xR:Str} {j:Nat} {np hpos pos:Pos} {tb:List (Addr×Obj)→(Value→Shared→Prop)→TS} {ts:TS} (hst:X.stack=X.env :: X.outer∧X.env.frame=some X.env.locals) (hN:X.N.Nodup) (hj:X.N[j]?=some n) (hk:X.env.scope.names.lookup n=some .local)
  (hg:Gl X xR) (hm:X.mg xR=some (.ref R))
  (hb:∀ (pins:List (Addr×Obj)) (E:Value→Shared→Prop),PSs (X.inTry pins E) body (tb pins E)) (hs:∀ A' E',PSs (X.hdl A' E') [st] ts) (hdb:(xR == ("__debug__":Str))=false:=by decide) :
  PS X (.Try body [.ExceptHandler (some (.Name xR np)) (some n) [st] hpos] [] [] pos) (sTry X R j tb ts):=by
 intro pins s σ H D I h
 obtain ⟨Ex,hcl,h1,h2⟩:=h
 rw [arm_exec_Try]
 refine wpAny_bind (wpAny_standAt (wpAny_tryStmt_except ?_))
 have key:∀ v s',fN X pins Ex v s'→(fun v s₁=>wpAny (model X.prog X.w) X.A (noteFrame v X.env) (fun _ s₂=>wpAny (model X.prog X.w) X.A (setFlight v none) (fun _ s₃=>wpAny (model X.prog X.w) X.A (handleBy v X.env [.ExceptHandler (some (.Name xR np)) (some n) [st] hpos]) (SP X pins D) X.xe s₃) X.xe s₂) X.xe s₁) v s':=fun v s' L=>?_
 refine wpAny_mono (hb pins _ [] s σ H D (xZ I) (h1 pins _ key)) (fun f s1 q=>?_) fun _ _ q=>q
 ·cases f with
  | next =>
   obtain ⟨σ',H',I',q⟩:=q
   exact wpAny_execs_nil ⟨σ',H',li I',q⟩
  | brk=>obtain ⟨σ',H',I',q⟩:=q;exact⟨σ',H',li I',q⟩
  | cont=>obtain ⟨σ',H',I',q⟩:=q;exact⟨σ',H',li I',q⟩
  | ret u=>obtain ⟨v,σ',H',I',r,q⟩:=q;exact⟨v,σ',H',li I',r,q⟩
 ·refine kG hst I.ok.frames L fun h' L=>?_
  obtain ⟨σ1,H1,e,C,dx,a,t,rfl,I1,he,ht,hT,hX,hE⟩:=id L
  have hA:(X.A.mark (some (.ref e))).frames=some X.stack:=I.ok.frames
  obtain ⟨N,NR,mN,mR,c2⟩:=hcl e C dx _ hX hE
  refine wpAny_handleBy_cons (codeAny_handlers_test (eQ (X:=X.hdl (X.A.mark (some (.ref e))) X.xe) (wp hA I1) hg hm ?_ hdb)) (by intro q;cases q)
  refine wN (c2 _ I1.kIn) he ?_
  show codeAny _ _ (.handlers (.ref e) [.ExceptHandler none (some n) [st] hpos] X.env) _ _
  refine codeAny_handlers_suite_as (iQ L fun h2' L2=>?_)
  obtain ⟨σ2,H2,e2,C2',dx2,a2,t2,hv2,I2,he2,ht2,hT2,hX2,hE2⟩:=L2
  cases hv2
  refine cu I2 hN hj (.inl hk) (v:=.ref e) rfl (fun s3 I3=>?_) (.inr hk)
  refine wpAny_mono (hs (X.A.mark (some (.ref e))) _ pins s3 _ H2 _ (wp hA I3) (h2 σ2 H2 e C2' dx2 (by rw [I2.len,I.len]) hX2 hE2)) (fun f s4 q=>?_) fun _ _ z=>z
  cases f with
  | next =>
   obtain ⟨σ4,H4,I4,q4⟩:=q
   have I5:=yt I.ok I4
   refine wpAny_bind (wpAny_bindName (cu I5 hN hj (.inl hk) (v:=.non) rfl (fun s5 I6=>?_) (.inr hk)))
   unfold unbindBehindTheSuite
   have hl:j < σ4.length:=by rw [I5.len];exact (List.getElem?_eq_some_iff.mp hj).1
   refine wpAny_onRaise (kH I6 hN hj hk (v:=.non) (by rw [List.getElem?_set_self hl]) fun s6 I7=>?_)
   rw [List.set_set] at I7
   exact⟨_,H4,I7,q4⟩
  | brk=>obtain ⟨σ',H',I',q⟩:=q;exact q.elim
  | cont=>obtain ⟨σ',H',I',q⟩:=q;exact q.elim
  | ret u=>obtain ⟨v,σ',H',I',r,q⟩:=q;exact q.elim
end
end DL
namespace DL
open PySem PySem.Spec PyProof.Rows L2
def oU (L:Addr) (h:Heap) (e:Addr) (t:Value):Prop:=∃ T oT ts,t=.ref T∧T≠e∧h.get? T=some oT∧oT.data=.fields ts∧ts[3]?=some (rawInt L)
structure LftN (fs:List Addr) (L:Addr) (h h':Heap) (e:Addr) (t:Value) (C:Addr) (dx:Option Addr) (a:Value) (T:Addr):Prop where
 ex:h'.get? e=some (yE C dx a (.ref T))
 tb:oU L h' e (.ref T)
 new:h.objs.size≤T
 keep:∀ b o,h.get? b=some o→b≠e→t≠.ref b→b∉fs→h'.get? b=some o
 slot:∀ b o,h.get? b=some o→b≠e→t≠.ref b→∃ sl,h'.get? b=some { o with slots:=sl }
 there:∀ b o,h.get? b=some o→∃ o',h'.get? b=some o'
section
variable {M:Model} {A:Around} {E:Value→Shared→Prop} {s:Shared} {base:Heap} {env:Env} {outer:List Env} {L e C:Addr} {dx:Option Addr} {a t:Value} {Q:Unit→Shared→Prop}
theorem pN {head:Value} {had:Bool} (hfr:A.frames=some (env :: outer)) (hl:s.heap.FunFrames base (env :: outer)) (hf:env.frame=some L) (he:s.heap.get? e=some (yE C dx a t))
  (h:∀ h' T,h'.get? e=some (yE C dx a (.ref T))→oU L h' e (.ref T)→s.heap.objs.size≤T→(∀ b o,s.heap.get? b=some o→b≠e→b∉frs (env :: outer)→h'.get? b=some o)→(∀ b o,s.heap.get? b=some o→b≠e→∃ sl,h'.get? b=some { o with slots:=sl })→Q () { s with heap:=h' }) :
  wpAny M A (do let a←frameOf env;let pl←entryPlaceOf L had;let b←EntryCells.newEntry head a .none (rawInt L) .none pl;setField (.ref e) 1 b) Q E s:=by
 have hene:e∉(env :: outer).filterMap (·.frame):=fun hm=>by
  obtain ⟨_,o,ho,hnf⟩:=hl.mem hm
  rw [he] at ho;injection ho with ho;subst ho;exact hnf _ rfl
 refine wpAny_bind (wpAny_frameOf_fun hfr hl hf fun h₁ hs₁=>?_)
 refine wpAny_bind (wpAny_entryPlaceOf fun pl hpl=>?_)
 unfold EntryCells.newEntry newFields
 refine wpAny_bind (wpAny_newObj_type ?_ (hpl.sizeOk5 _ _ _ _ _))
 have he₁:h₁.get? e=some (yE C dx a t):=(hs₁.2.1 e hene).trans he
 generalize hO:({ cls:=.type "traceback",dict:=none,data:=.fields ([head,.ref L,.none,rawInt L,.none]++(if pl.isEmpty then List.replicate 6 Value.none else pl)).toArray }:Obj)=O
 have hOd:O.data=.fields ([head,.ref L,.none,rawInt L,.none]++(if pl.isEmpty then List.replicate 6 Value.none else pl)).toArray:=by rw [← hO]
 have hOf:O.isFreed=false:=by rw [← hO];rfl
 have he₂:=Heap.get?_push_of_some (h:=h₁) O he₁
 have hTe:h₁.objs.size≠e:=Nat.ne_of_gt (Heap.lt_size he₁)
 have he₃:((h₁.push O).update e (Obj.mapFields (·.setIfInBounds 1 (Value.ref h₁.objs.size)))).get? e=some (yE C dx a (.ref h₁.objs.size)):=Heap.get?_update_self (Obj.mapFields (·.setIfInBounds 1 (Value.ref h₁.objs.size))) he₂ rfl
 have hT₃:((h₁.push O).update e (Obj.mapFields (·.setIfInBounds 1 (Value.ref h₁.objs.size)))).get? h₁.objs.size=some O:=(Heap.get?_update_other _ _ (Ne.symm hTe)).trans (Heap.get?_push_size h₁ hOf)
 have keep:∀ b o,b≠e→h₁.get? b=some o→((h₁.push O).update e (Obj.mapFields (·.setIfInBounds 1 (Value.ref h₁.objs.size)))).get? b=some o:=fun b o hbe hb=>by
  rw [Heap.get?_update_other _ _ (Ne.symm hbe)]
  exact Heap.get?_push_of_some _ hb
 refine wpAny_setField he₂ rfl (by simp) (h _ h₁.objs.size he₃ ⟨_,O,_,rfl,hTe,hT₃,hOd,by simp⟩ ?_ (fun b o hb hbe hbf=>keep b o hbe ((hs₁.2.1 b hbf).trans hb)) fun b o hb hbe=>?_)
 ·rw [hs₁.1];exact Nat.le_refl _
 ·obtain ⟨sl,hs⟩:=hs₁.2.2 b o hb
  exact⟨sl,keep b _ hbe hs⟩
theorem xX (hfr:A.frames=some (env :: outer)) (hl:s.heap.FunFrames base (env :: outer)) (hf:env.frame=some L) (he:s.heap.get? e=some (yE C dx a t)) (ht:ot s.heap e t)
  (h:∀ h' T,LftN (frs (env :: outer)) L s.heap h' e t C dx a T→Q () { s with heap:=h' }):wpAny M A (noteFrame (.ref e) env) Q E s:=by
 unfold noteFrame
 simp only [hf]
 refine wpAny_bind (wpAny_field he rfl (x:=t) rfl ?_)
 rcases ht with rfl | ⟨T,oT,ts,rfl,hTe,hT,hdT,h3⟩
 ·rw [if_neg (by decide)]
  refine pN hfr hl hf he fun h' T h1 h2 h3 h4 h5=>h h' T ⟨h1,h2,h3,fun b o hb hbe _=>h4 b o hb hbe,fun b o hb hbe _=>h5 b o hb hbe,fun b o hb=>?_⟩
  by_cases z:b=e
  ·exact⟨_,by rw [z];exact h1⟩
  ·obtain ⟨sl,q⟩:=h5 b o hb z;exact⟨_,q⟩
 ·rw [if_pos (show (Value.ref T != Value.none)=true from by simp)]
  refine wpAny_bind (wpAny_field hT hdT h3 ?_)
  rw [if_neg (show ¬ ((Value.none == rawInt L)=true) from by simp [rawInt])]
  refine wpAny_bind (wpAny_setField hT hdT (Array.getElem?_eq_some_iff.mp h3).1 ?_)
  have other:∀ b,b≠T→(s.heap.update T (Obj.mapFields (·.setIfInBounds 3 Value.none))).get? b=s.heap.get? b:=fun b hb=>Heap.get?_update_other _ _ (Ne.symm hb)
  have noRecord:∀ b o,s.heap.get? b=some o→(∀ vs,o.data≠.fields vs)→b≠T:=fun b o hb hnf q=>by
   rw [q,hT] at hb;injection hb with hb;subst hb;exact hnf ts hdT
  have hT2:=Heap.get?_update_self (Obj.mapFields (·.setIfInBounds 3 Value.none)) hT (Obj.isFreed_of_fields (Obj.data_mapFields hdT _))
  refine pN (s:={ s with heap:=s.heap.update T (Obj.mapFields (·.setIfInBounds 3 Value.none)) }) hfr (hl.of_keeps fun b o hb hnf=>⟨o,(other b (noRecord b o hb hnf)).trans hb,rfl⟩) hf ((other e (Ne.symm hTe)).trans he)
   fun h' T' h1 h2 h3 h4 h5=>h h' T' ⟨h1,h2,by rw [← Heap.size_after_update];exact h3,fun b o hb hbe hbt=>h4 b o ((other b fun z=>hbt (by rw [z])).trans hb) hbe,fun b o hb hbe hbt=>h5 b o ((other b fun z=>hbt (by rw [z])).trans hb) hbe,fun b o hb=>?_⟩
  by_cases z:b=e
  ·exact⟨_,by rw [z];exact h1⟩
  ·by_cases z2:b=T
   ·subst z2
    obtain ⟨sl,q⟩:=h5 b _ hT2 z;exact⟨_,q⟩
   ·obtain ⟨sl,q⟩:=h5 b o ((other b z2).trans hb) z;exact⟨_,q⟩
end
theorem LftN.hok {P:Program} {w:World} {fs:List Addr} {h h':Heap} {L e C dx T:Addr} {a t:Value} {H':Hp} (l:LftN fs L h h' e t C (some dx) a T) (hok:yO P w H' h) (hX:H' e=some (XAt e C dx)) (hT:∀ T,t=.ref T→H' T=none) (hfs:∀ b∈fs,H' b=none):yO P w H' h':=fun b o q=>by
 have kp:∀ c u v,H' c=some v→c≠e→h.get? c=some u→h'.get? c=some u:=fun c u v hc hce hu=>l.keep c u hu hce (fun z=>by rw [hT c z] at hc;cases hc) fun z=>by rw [hfs c z] at hc;cases hc
 by_cases hb:b=e
 ·subst hb
  rw [hX] at q
  cases q
  refine⟨⟨_,_,l.ex⟩,⟨_,l.ex⟩,fun h1 h2 p k=>?_⟩
  obtain ⟨a,t,p⟩:=p
  exact⟨a,t,k _ p⟩
 ·refine (hok b o q).stay (fun c u hc hu=>?_) (fun _ r=>r) fun _ _ r=>r
  rcases hc with rfl | hc
  ·exact kp _ _ _ q hb hu
  ·exact kp _ _ _ hc (fun z=>by rw [z,hX] at hc;cases hc) hu
inductive j7 (X:Cx) (E:XK) (v:Value) (s':Shared):Prop
 | mk (σ:L2.St) (H':Hp) (e C dx:Addr) (a t:Value) (hv:v=.ref e) (I:L2.Inv X [] σ H' s') (he:s'.heap.get? e=some (yE C (some dx) a t)) (ht:ot s'.heap e t∨oU X.env.locals s'.heap e t)
  (hT:∀ T,t=.ref T→H' T=none∧X.s₀.heap.objs.size≤T∧T≠X.env.locals∧(∀ x c,X.env.cells.lookup x=some c→c≠T)∧∀ p∈X.pn++[],p.1≠T) (hX:H' e=some (XAt e C dx)) (hE:E (.ref e) (some dx) H')
abbrev _root_.L2.Cx.lx (X:Cx) (E:XK):Cx:={ X with xe:=j7 X E }
section
variable {X:Cx} {E:XK} {pins:List (Addr×Obj)} {σ:L2.St} {H:Hp} {s:Shared}
theorem yi {e:Value→Shared→Prop} (ok:X.Ok):({ X with xe:=e }:Cx).Ok:=⟨ok.mod,ok.kind,ok.glob,ok.blt,ok.above,ok.inj,ok.has,ok.cab,ok.hd,ok.frames,ok.stk,ok.exf,ok.bs,ok.bsz,ok.noex,ok.exfs,ok.funs,ok.frf⟩
theorem toLx {e:Value→Shared→Prop} (I:L2.Inv X pins σ H s):L2.Inv { X with xe:=e } pins σ H s:=⟨yi I.ok,I.os,I.bare,I.base,I.loc,I.cell,I.free,I.freeC,I.pin,I.hok,I.len⟩
theorem ofLx {e:Value→Shared→Prop} (I:L2.Inv { X with xe:=e } pins σ H s):L2.Inv X pins σ H s:=toLx (X:={ X with xe:=e }) (e:=X.xe) I
theorem uL (I:L2.Inv X pins σ H s):L2.Inv X [] σ H s:=⟨I.ok,I.os,I.bare,I.base,I.loc,I.cell,I.free,I.freeC,fun p hp=>I.pin p (by rw [List.append_nil] at hp;exact List.mem_append_left _ hp),I.hok,I.len⟩
theorem oE {H':Hp} {e C dx:Addr} {s':Shared} (L:iT (X.lx E) pins H' e C dx s') (hE:E (.ref e) (some dx) H'):j7 X E (.ref e) s':=by
 obtain ⟨σ,a,t,I,he,ht,hT,hX⟩:=L.ex
 refine⟨σ,H',e,C,dx,a,t,rfl,uL (ofLx I),he,.inl ht,fun T z=>?_,hX,hE⟩
 obtain ⟨z1,z2,z3,z4,z5⟩:=hT T z
 exact⟨z1,z2,z3,z4,fun p hp=>z5 p (by rw [List.append_nil] at hp;exact List.mem_append_left _ hp)⟩
theorem ie {fl:Value} {Q:Unit→Shared→Prop} {M:Model} {A:Around} {W:Value→Shared→Prop} {H':Hp} {e C dx T:Addr} {a:Value} {oT:Obj} {ts:Array Value} (I:L2.Inv X [] σ H' s) (he:s.heap.get? e=some (yE C (some dx) a (.ref T))) (hTe:T≠e) (hg:s.heap.get? T=some oT) (hd:oT.data=.fields ts) (h3:3 < ts.size)
  (hT:H' T=none∧X.s₀.heap.objs.size≤T∧T≠X.env.locals∧(∀ x c,X.env.cells.lookup x=some c→c≠T)∧∀ p∈X.pn++[],p.1≠T) (hX:H' e=some (XAt e C dx))
  (h:∀ h',L2.Inv X [] σ H' { s with heap:=h' }→h'.get? e=some (yE C (some dx) a (.ref T))→(∃ oT ts,h'.get? T=some oT∧oT.data=.fields ts∧ts[3]?=some fl)→Q () { s with heap:=h' }):wpAny M A (setField (.ref T) 3 fl) Q W s:=by
 have other:∀ b,b≠T→(s.heap.update T (Obj.mapFields (·.setIfInBounds 3 fl))).get? b=s.heap.get? b:=fun b hb=>Heap.get?_update_other _ _ (Ne.symm hb)
 have self:=Heap.get?_update_self (Obj.mapFields (·.setIfInBounds 3 fl)) hg (Obj.isFreed_of_fields (Obj.data_mapFields hd _))
 obtain ⟨z1,z2,z3,z4,z5⟩:=hT
 refine wpAny_setField hg hd h3 (h _ ?_ ((other e (Ne.symm hTe)).trans he) ⟨_,_,self,Obj.data_mapFields hd _,by simp [h3]⟩)
 refine I.call' (ch:=[T]) rfl (cM hX _ (fun b o hb _ hc _=>(other b fun z=>hc (by rw [z];exact List.mem_singleton.mpr rfl)).trans hb) (fun b o hb _ hc=>⟨o.slots,(other b fun z=>hc (by rw [z];exact List.mem_singleton.mpr rfl)).trans hb⟩) fun b o hb=>?_) (fun b o q=>?_) I.bare fun b hb=>?_
 ·by_cases z:b=T
  ·exact⟨_,by rw [z];exact self⟩
  ·exact⟨o,(other b z).trans hb⟩
 ·refine (I.hok b o q).stay (fun c u hc hu=>(other c fun z=>?_).trans hu) (fun _ r=>r) fun _ _ r=>r
  rcases hc with rfl | hc
  ·rw [z,z1] at q;cases q
  ·rw [z,z1] at hc;cases hc
 ·rw [List.mem_singleton.mp hb]
  exact⟨.inr z2,z3,z4,z5⟩
theorem g9 (hst:X.stack=X.env :: X.outer∧X.env.frame=some X.env.locals):PassesOwn (model X.prog X.w) X.A X.env (j7 X E):=by
 intro v s' L
 show wpAny _ _ (noteFrame v X.env) (fun _ s''=>cameBackBy (model X.prog X.w) X.A X.env (j7 X E) v s'') _ s'
 have back:∀ (σ:L2.St) (H':Hp) (e C dx T:Addr) (a:Value) (s':Shared),L2.Inv X [] σ H' s'→s'.heap.get? e=some (yE C (some dx) a (.ref T))→oU X.env.locals s'.heap e (.ref T) →
   (H' T=none∧X.s₀.heap.objs.size≤T∧T≠X.env.locals∧(∀ x c,X.env.cells.lookup x=some c→c≠T)∧∀ p∈X.pn++[],p.1≠T)→H' e=some (XAt e C dx)→E (.ref e) (some dx) H'→cameBackBy (model X.prog X.w) X.A X.env (j7 X E) (.ref e) s':=fun σ H' e C dx T a s' I he hN hT hX hE=>by
  obtain ⟨T',oT,ts,q,hTe,hg,hd,h3⟩:=hN
  cases q
  unfold cameBackBy
  refine wpAny_bind (wpAny_field he rfl (x:=.ref T) rfl ?_)
  rw [if_neg (show ¬ ((Value.ref T == Value.none)=true) from by simp)]
  unfold setFlight
  refine wpAny_bind (wpAny_field he rfl (x:=.ref T) rfl ?_)
  rw [if_pos (show (Value.ref T != Value.none)=true from by simp),hst.2]
  refine ie I he hTe hg hd (Array.getElem?_eq_some_iff.mp h3).1 hT hX fun h' I' he' hr=>?_
  obtain ⟨oT',ts',g1,g2,g3⟩:=hr
  exact⟨σ,H',e,C,dx,a,.ref T,rfl,I',he',.inr ⟨T,oT',ts',rfl,hTe,g1,g2,g3⟩,fun T' z=>by cases z;exact hT,hX,hE⟩
 obtain ⟨σ,H',e,C,dx,a,t,rfl,I,he,ht,hT,hX,hE⟩:=L
 rcases ht with ht | hN
 ·have st:=I.stack
  have sf:=I.stkFree
  have hA:=I.ok.frames
  rw [hst.1] at hA st
  refine xX hA st hst.2 he ht fun h' T l=>?_
  refine back σ H' e C dx T a _ ?_ l.ex l.tb ?_ hX hE
  ·refine I.call' (s':={ s' with heap:=h' }) (ch:=trk t) rfl (cM hX _ (fun b o hb hbe hc hf=>l.keep b o hb hbe (gA hc) (by rw [← hst.1];exact hf)) (fun b o hb hbe hc=>l.slot b o hb hbe (gA hc)) l.there) (l.hok I.hok hX (fun T z=>(hT T z).1) (by rw [← hst.1];exact sf)) I.bare fun b hb=>?_
   obtain ⟨_,z2,z3,z4,z5⟩:=hT b (p0 hb)
   exact⟨.inr z2,z3,z4,z5⟩
  ·have fr:s'.heap.objs.size≤T:=l.new
   refine⟨I.hok.fresh fr,Nat.le_trans I.sz fr,fun y=>?_,fun x c hxc y=>?_,fun p hp y=>?_⟩
   ·exact absurd (Nat.lt_of_lt_of_le I.lt fr) (by rw [y];exact Nat.lt_irrefl _)
   ·obtain ⟨w',o,ho,_⟩:=I.cell x c hxc
    exact absurd (Nat.lt_of_lt_of_le (Heap.lt_size ho) fr) (by rw [y];exact Nat.lt_irrefl _)
   ·exact absurd (Nat.lt_of_lt_of_le (Heap.lt_size (I.pin p hp).1) fr) (by rw [y];exact Nat.lt_irrefl _)
 ·obtain ⟨T,oT,ts,rfl,hTe,hg,hd,h3⟩:=id hN
  unfold noteFrame
  simp only [hst.2]
  refine wpAny_bind (wpAny_field he rfl (x:=.ref T) rfl ?_)
  rw [if_pos (show (Value.ref T != Value.none)=true from by simp)]
  refine wpAny_bind (wpAny_field hg hd h3 ?_)
  rw [if_pos (by simp)]
  exact wpAny_pure (back σ H' e C dx T a _ I he hN (hT T rfl) hX hE)
end
end DL
namespace DL
open PySem PySem.Spec PyProof.Rows L2
section
variable {X:Cx} {pins:List (Addr×Obj)}
theorem xk:js (CXE X.prog X.w) X (XEs X):=by
 intro pins σ H s v s' I hc
 obtain ⟨e,C,dx,a,t,H',rfl,os,bare,un,hok,he,ht,hT,hX,hx⟩:=hc
 have lo:∀ T,t=.ref T→s.heap.objs.size≤T:=fun T z=>(hT T z).2
 refine hx e C dx pins s' rfl rfl ⟨σ,a,t,I.call' (ch:=[]) os un hok bare (fun b z=>absurd z (by simp)),he,ht,fun T z=>⟨(hT T z).1,Nat.le_trans I.sz (lo T z),fun y=>?_,fun x c hxc y=>?_,fun p hp y=>?_⟩,hX⟩
 ·exact absurd (Nat.lt_of_lt_of_le I.lt (lo T z)) (by rw [y];exact Nat.lt_irrefl _)
 ·obtain ⟨w',o,ho,_⟩:=I.cell x c hxc
  exact absurd (Nat.lt_of_lt_of_le (Heap.lt_size ho) (lo T z)) (by rw [y];exact Nat.lt_irrefl _)
 ·have:=(I.pin p hp).1
  exact absurd (Nat.lt_of_lt_of_le (Heap.lt_size this) (lo T z)) (by rw [y];exact Nat.lt_irrefl _)
end
section
variable {P:Program} {w:World} {K:PySem.W.Frag} {mg:Str→Option Value} {base:Heap} {N:List Str} {qual:Str} {scope:Scope} {f:Addr} {cd:Value} {A:Around} {outer:List Env} {s:Shared} {H:Hp} {E:XK}
theorem ya {pins:List (Addr×Obj)} {H':Hp} {e C dx:Addr} {s':Shared} (L:iT (iB (CXE P w) P w K mg base N qual scope f cd A outer s H E) pins H' e C dx s') (hE:E (.ref e) (some dx) H'):(iB (CXE P w) P w K mg base N qual scope f cd A outer s H E).xe (.ref e) s':=by
 obtain ⟨σ,a,t,I',he,ht,hT,hX⟩:=L.ex
 show wpAny _ _ _ _ _ _
 refine yq I'.ok.frames I'.stack rfl he ht fun h' T l=>?_
 have hTn:∀ T,t=.ref T→H' T=none:=fun T z=>(hT T z).1
 refine⟨e,C,dx,a,.ref T,H',rfl,I'.os,I'.bare,?_,l.hok I'.hok hX hTn I'.stkFree,l.ex,l.tb,fun T' z=>?_,hX,hE⟩
 ·have old:∀ b o,s.heap.get? b=some o→t≠.ref b:=fun b o hb z=>absurd (Nat.lt_of_lt_of_le (Heap.lt_size hb) (hT b z).2.1) (Nat.lt_irrefl _)
  have nfr:∀ b o,s.heap.get? b=some o→b≠s.heap.objs.size:=fun b o hb=>Nat.ne_of_lt (Heap.lt_size hb)
  have ne:∀ b,H' b=none→b≠e:=fun b z q=>by rw [q,hX] at z;cases z
  refine⟨fun b o hb hn hf hx=>?_,fun b o hb hn hf hx=>?_,fun b o hb hn hx=>?_,fun b o hb hx=>?_,I'.base.tups,I'.base.frzs,I'.base.tbls⟩
  ·exact l.keep b o (I'.base.keep b o hb hn hf hx) (ne b (I'.base.free b o hb hn hx)) (old b o hb) fun z=>by
    rcases List.mem_cons.mp (show b∈s.heap.objs.size :: frs outer from z) with z | z
    ·exact nfr b o hb z
    ·exact hf z
  ·obtain ⟨sl,q⟩:=I'.base.slot b o hb hn hf hx
   obtain ⟨sl',q'⟩:=l.slot b _ q (ne b (I'.base.free b o hb hn hx)) (old b o hb)
   exact⟨sl',q'⟩
  ·exact I'.base.free b o hb hn hx
  ·obtain ⟨o',q⟩:=I'.base.there b o hb hx
   exact l.there b o' q
 ·cases z
  have fr:s'.heap.objs.size≤T:=l.new
  exact⟨I'.hok.fresh fr,Nat.le_trans I'.sz fr⟩
theorem w6 {v:Value} {s':Shared} (L:j7 (iB (CXE P w) P w K mg base N qual scope f cd A outer s H E) E v s'):(iB (CXE P w) P w K mg base N qual scope f cd A outer s H E).xe v s':=by
 obtain ⟨σ,H',e,C,dx,a,t,rfl,I',he,ht,hT,hX,hE⟩:=L
 rcases ht with ht | hN
 ·exact ya (pins:=[]) ⟨σ,a,t,I',he,ht,hT,hX⟩ hE
 ·obtain ⟨T,oT,ts,rfl,hTe,hg,hd,h3⟩:=hN
  show wpAny _ _ (leaving _ _) _ _ _
  unfold leaving noteFrame
  refine wpAny_bind ?_
  show wpAny _ _ (do let head←field (Value.ref e) 1;_) _ _ _
  refine wpAny_bind (wpAny_field he rfl (x:=.ref T) rfl ?_)
  rw [if_pos (show (Value.ref T != Value.none)=true from by simp)]
  refine wpAny_bind (wpAny_field hg hd h3 ?_)
  rw [if_pos (by simp;rfl)]
  refine wpAny_pure ?_
  unfold setFlight
  refine wpAny_bind (wpAny_field he rfl (x:=.ref T) rfl ?_)
  rw [if_pos (show (Value.ref T != Value.none)=true from by simp)]
  refine ie I' he hTe hg hd (Array.getElem?_eq_some_iff.mp h3).1 (hT T rfl) hX fun h' I2 he2 hr=>?_
  obtain ⟨oT',ts',g1,g2,g3⟩:=hr
  refine⟨e,C,dx,a,.ref T,H',rfl,I2.os,I2.bare,I2.base,I2.hok,he2,.inr ⟨T,oT',ts',rfl,hTe,g1,g2,g3⟩,fun T' z=>?_,hX,hE⟩
  cases z
  exact⟨(hT T rfl).1,(hT T rfl).2.1⟩
end
theorem PSs.lx {X:Cx} {W:Value→Shared→Prop} {st:List Stmt} {t:TS} (h:PSs { X with xe:=W } st t) (hW:∀ v s',W v s'→X.xe v s'):PSs X st t:=fun pins s σ H D I hw =>
 wpAny_mono (h pins s σ H D (toLx I) hw) (fun f s' q=>by
  cases f with
  | next=>obtain ⟨σ',H',I',q⟩:=q;exact⟨σ',H',ofLx I',q⟩
  | brk=>obtain ⟨σ',H',I',q⟩:=q;exact⟨σ',H',ofLx I',q⟩
  | cont=>obtain ⟨σ',H',I',q⟩:=q;exact⟨σ',H',ofLx I',q⟩
  | ret u=>obtain ⟨v,σ',H',I',r,q⟩:=q;exact⟨v,σ',H',ofLx I',r,q⟩) hW
abbrev FE:=List D→(D→Prop)→(Str→Str→D→Prop)→Prop
inductive spE (K:PySem.W.Frag) (f:FE) (vs:List V) (H:Hp) (Q:VK) (E:XK):Prop
 | mk (M:Addr→Prop) (ds:List D) (R:D→Prop) (RE:Str→Str→D→Prop) (m:∀ b,M b→H b≠none) (rs:Reps K M H ds vs) (h:f ds R RE) (k:∀ d,R d→∀ v H',bh H H'→yF K M H' d v→Q v H')
  (kx:∀ c fl d,RE c fl d→∀ e C dx H',bh H H'→H' e=some (XAt e C dx)→yF K M H' (.exn c fl d) (.ref e)→E (.ref e) (some dx) H')
structure sr (P:Program) (w:World) (K:PySem.W.Frag) (mg:Str→Option Value) (base:Heap) (k:Nat) (x:Str) (ps:List Str) (f:FE):Prop where
 ex:∃ (a:Addr) (fd:FuncData),c8 P w K mg base (CXE P w) k a fd ps (spE K f)∧cT K fd ps []∧PySem.W.keepIn K (.ref a)=true∧mg x=some (.ref a)
section
variable {P:Program} {w:World} {K:PySem.W.Frag} {mg:Str→Option Value} {base:Heap}
theorem fn_E {x:Str} {st:Stmt} {N ps:List Str} {k:Nat} {f:FE} (F:Fd K mg x st ps) (Sc:au N ps (ah st)) (len:∀ ds R RE,f ds R RE→ds.length=ps.length)
    (hbody:∀ (a:Addr) (cdv:Value) (A:Around) (outer:List Env) (s:Shared) (H:Hp) (E:XK) (ds:List D) (R:D→Prop) (RE:Str→Str→D→Prop),bP k (A.deeper (envOfC x (ah st) s.heap.objs.size a cdv))→f ds R RE →
      ∃ t,DSs ((iB (CXE P w) P w K mg base N x (ah st) a cdv A outer s H E).lx E) (aI st) t∧t { nx:=fun _=>R .non,rt:=fun d _=>R d,ro:=R,ex:=RE } (bZ N ds)) :
    sr P w K mg base (k + 1) x ps f:=by
  obtain ⟨a,fd,Fu,b,m⟩:=F.ex
  refine⟨a,fd,?_,b,Fu.kp,m⟩
  obtain ⟨oc,od,kV,doc,pm,an,cdv,ct,osl,rfl,lk,hcd⟩:=Fu.ex
  refine vA lk hcd Sc (fun vs H Q E h=>?_) fun A outer s H vs Q E hr h=>?_
  · obtain ⟨M,ds,R,RE,_,rs,hf,_,_⟩:=h
    rw [← Reps.length _ _ rs]
    exact len _ _ _ hf
  · obtain ⟨M,ds,R,RE,hm,rs,hf,hk,hkx⟩:=h
    obtain ⟨t,ht,hq⟩:=hbody a cdv A outer s H E ds R RE hr hf
    refine⟨_,PSs.lx ht (fun _ _=>w6),⟨M,H,fun _=>False⟩,bZ N ds,[],_,jm N hm rs,hq,fun δ' r σ' H' hs=>?_,⟨fun d δ' r v σ' H' hs=>?_,fun d r a H' hs=>?_,fun c fl d r e C dx δ' σ' H' hs hX=>?_⟩,fun _ h=>h.elim,fun _ h=>h.elim,fun z=>z.elim⟩
    · obtain ⟨A',x⟩:=hs
      exact hk .non r .non H' (fun b o e=>x.old b o e id) (by unfold yF;rfl)
    · obtain ⟨A',x⟩:=hs
      exact hk d r v H' (fun b o e=>x.old b o e id) (yF.more (fun b z=>.inl (.inl z)) _ _ (x.pnd (d,v) (by simp)))
    · obtain ⟨o1,o2,o3,o4⟩:=hs
      exact hk d r (.ref a) H' (fun b o e=>o1 b o e id) (o4.rep o3 fun b z=>.inl z)
    · obtain ⟨A',x⟩:=hs
      intro e' C' dx' pins s' hC hd L
      cases hC
      cases hd
      refine oE L ?_
      exact hkx c fl d r e C dx H' (fun b o q=>x.old b o q id) hX (yF.more (fun b z=>.inl (.inl z)) _ _ (x.pnd (.exn c fl d,.ref e) (by simp)))
end
section
variable {X:Cx} {pos:Pos} {a:Expr} {es:List Expr} {ta:yM} {t:yS} {f:FE}
theorem g5 {K:PySem.W.Frag} {G:Gf} {δ:En} {P:List (D×V)} {σ:L2.St} {H:Hp} {Q:VK} {Wx:XK} {Rv:D→En→Prop} {RE:Str→Str→D→Prop} (s:S K G δ P σ H) (h:t δ fun ds δ1=>f ds (fun d=>Rv d δ1) RE)
  (k:∀ d δ',Rv d δ'→∀ v H',S K G δ' ((d,v) :: P) σ H'→Q v H') (kx:∀ c fl d,RE c fl d→∀ e C dx δ' σ' H',S K G δ' ((.exn c fl d,.ref e) :: P) σ' H'→H' e=some (XAt e C dx)→Wx (.ref e) (some dx) H') :
  rK (spE K f) [] Wx (upA K t) σ H Q:=by
 refine⟨G,δ,P,_,s,h,fun ds δ1 h1 vs H1 hl s1=>?_⟩
 obtain ⟨A,x⟩:=s1
 rw [List.append_nil]
 refine⟨fun b=>G.M0 b∨A b,ds,_,RE,x.mem,x.reps ds vs hl (fun q hq=>List.mem_append_left _ hq),h1,fun d r v H' sm rp=>k d δ1 r v H' ⟨A,((x.same sm).sub (P':=P) fun q hq=>List.mem_append_right _ hq).push rp⟩,fun c fl d r e C dx H' sm hX rp=>kx c fl d r e C dx δ1 σ H' ⟨A,((x.same sm).sub (P':=P) fun q hq=>List.mem_append_right _ hq).push rp⟩ hX⟩
def kS (i:Nat) (R:ax) (δ:En) (d:D):Prop:=fJ δ i (.dat d) R.nx
def kX (R:ax) (δ:En) (_:D):Prop:=R.nx δ
def u9 (i:Nat) (f:FE) (t:yS) (R:ax) (δ:En):Prop:=t δ fun ds δ1=>f ds (kS i R δ1) R.ex
def qt (f:FE) (t:yS) (R:ax) (δ:En):Prop:=t δ fun ds δ1=>f ds (kX R δ1) R.ex
theorem jy {x:Str} {k:Nat} {ps:List Str} {p:Pos} (C:sr X.prog X.w X.K X.mg X.base k x ps f) (hr:bP k X.A) (hg:Gl X x) (ha:DA X (a :: es) t) (hdb:(x == ("__debug__":Str))=false:=by decide)
  (he:starEach (a :: es) X.env=(false,eval a X.env) :: starEach es X.env:=by rfl) (hpl:(backTo pos (starEach es X.env)).any (·.1)=false:=by rfl):PE X (.Call (.Name x p) (a :: es) [] pos) (rK (spE X.K f) [] (XEs X) (upA X.K t)):=by
 obtain ⟨g,fd,F,b,kp,m⟩:=C.ex
 exact ff F hr hg m kp b .nil xk ha hdb he hpl
theorem mf (i:Nat) {x y:Str} {k:Nat} {ps:List Str} {p pos' cpos:Pos} (hN:X.N.Nodup) (C:sr X.prog X.w X.K X.mg X.base k x ps f) (hr:bP k X.A) (hg:Gl X x) (ha:DA X (a :: es) t) (hdb:(x == ("__debug__":Str))=false:=by decide)
  (he:starEach (a :: es) X.env=(false,eval a X.env) :: starEach es X.env:=by rfl) (hpl:(backTo cpos (starEach es X.env)).any (·.1)=false:=by rfl) (hi:X.N[i]?=some y:=by rfl) (hx:Loc X.env.scope y:=by walk_at "v2")
  (hs:swapsWith (.Call (.Name x p) (a :: es) [] cpos) (some (.Name y pos')) pos.line X.env=pure false:=by rfl) (hf:X.fn y=true∨X.env.scope.names.lookup y=some .local :=by walk_at "v1") :
  DS X (.Assign [.Name y pos'] (.Call (.Name x p) (a :: es) [] cpos) pos) (u9 i f t) :=
 PS.imp (dI hN hi hx (jy C hr hg ha hdb he hpl) hs hf) fun E σ H hu=>by
  obtain ⟨G,δ,P,R,s,h,k1,k2,_⟩:=hu
  exact g5 (Rv:=fun d δ1=>R.nx (δ1.set i (.dat d))) s h (fun d δ' r v H' s1=>k1 _ r _ H' (s1.set (by simp) fun p hp=>by simp [hp])) k2.2.2
theorem jr {x:Str} {k:Nat} {ps:List Str} {p cpos:Pos} (C:sr X.prog X.w X.K X.mg X.base k x ps f) (hr:bP k X.A) (hg:Gl X x) (ha:DA X (a :: es) t) (hdb:(x == ("__debug__":Str))=false:=by decide)
  (he:starEach (a :: es) X.env=(false,eval a X.env) :: starEach es X.env:=by rfl) (hpl:(backTo cpos (starEach es X.env)).any (·.1)=false:=by rfl) (hs:swapsWith (.Call (.Name x p) (a :: es) [] cpos) none pos.line X.env=pure false:=by rfl) :
  DS X (.Expr (.Call (.Name x p) (a :: es) [] cpos) pos) (qt f t) :=
 PS.imp (dh (jy C hr hg ha hdb he hpl) hs) fun E σ H hu=>by
  obtain ⟨G,δ,P,R,s,h,k1,k2,_⟩:=hu
  exact g5 (Rv:=fun _ δ1=>R.nx δ1) s h (fun d δ' r v H' s1=>k1 _ r _ H' (s1.sub fun p hp=>by simp [hp])) k2.2.2
variable {C R fI:Addr} {fld:Str} {k:Nat} {fd:FuncData} {ps:List Str} {x:Str} {p cpos:Pos} {b:Bool}
theorem yF.made {K:PySem.W.Frag} {G:Gf} {δ:En} {P P':List (D×V)} {σ:L2.St} {H:Hp} {c:Str} {d:D} {v:V} {e dx:Addr} {o:HO} (s:S K G δ P σ H) (hp:(d,v)∈P) (hs:∀ q∈P',q∈P) (he:H e=none) (hdx:H dx=none) (hne:dx≠e) (ho:o=XAt e C dx∨o=kM e C dx)
  (hns:PySem.W.nsIn K mainGlobals c=some (some (.ref C))):S K G δ ((.exn c fld d,.ref e) :: P') σ (yV (yV H dx (.xd [(fld,v)])) e o):=by
 obtain ⟨A,x⟩:=s
 have sm:bh H (yV (yV H dx (.xd [(fld,v)])) e o):=bh.trans (ap hdx _) (ap (by rw [ar (Ne.symm hne)];exact he) _)
 refine⟨A,((x.same sm).sub hs).push ?_⟩
 unfold yF
 refine⟨v,⟨⟨e,C,dx,rfl,fun z=>x.mem e z he,fun z=>x.mem dx z hdx,?_,?_,hns⟩⟩,yF.kp (Kp.of_same sm) _ _ (x.pnd (d,v) hp)⟩
 ·rw [al]
  exact ho.imp (fun z=>by rw [z]) fun z=>by rw [z]
 ·rw [ar hne,al]
def pdB:Bool→D→Prop
 | false,_=>True
 | true,d=>∃ x,d=.str x∧x.length≤100
theorem pdB.rep {K:PySem.W.Frag} {M:Addr→Prop} {H:Hp} {b:Bool} {d:D} {v:V} (h:pdB b d) (r:yF K M H d v):pyB b v:=by
 cases b with
 | false=>trivial
 | true =>
  obtain ⟨x,rfl,l⟩:=h
  unfold yF at r
  exact⟨x,r,l⟩
theorem S.pd {K:PySem.W.Frag} {G:Gf} {δ:En} {P:List (D×V)} {σ:L2.St} {H:Hp} {b:Bool} {d:D} {v:V} (s:S K G δ ((d,v) :: P) σ H) (h:pdB b d):pyB b v:=let ⟨_,x⟩:=s;h.rep (x.pnd (d,v) (List.mem_cons_self ..))
end
theorem upd2 {H:Hp} {e:Addr} {a b:HO}:yV (yV H e a) e b=yV H e b:=funext fun z=>by
 by_cases h:z=e
 ·rw [h,al,al]
 ·rw [ar h,ar h,ar h]
section
variable {X:Cx} {pos:Pos} {a:Expr} {ta:yM} {C R fI:Addr} {fld:Str} {k:Nat} {fd:FuncData} {ps:List Str} {x:Str} {p cpos:Pos} {t:TA} {b:Bool}
def sw (X:Cx) (C:Addr) (fld:Str) (b:Bool) (t:TA):TS:=fun _ σ H=>pS C fld b t σ H fun v H3=>∃ e dx y H2,v=.ref e∧H3=yV (yV H2 dx (.xd [(fld,y)])) e (kM e C dx)∧XEs X (.ref e) (some dx) (yV (yV H2 dx (.xd [(fld,y)])) e (XAt e C dx))
theorem k6 (ek:EK X.K C R fld) (em:EM X.K C R fI) (F:c8 X.prog X.w X.K X.mg X.base CX0 k fI fd ps (spI C fld b)) (hr:bP (k + 1) X.A) (hg:Gl X x) (hm:X.mg x=some (.ref C)) (hb:cT X.K fd ps []) (ha:PA X [a] t) (hc:X.calm=true)
  (hdb:(x == ("__debug__":Str))=false:=by decide) (he:starEach [a] X.env=(false,eval a X.env) :: starEach [] X.env:=by rfl) (hpl:(backTo cpos (starEach [] X.env)).any (·.1)=false:=by rfl) :
  PS X (.Raise (some (.Call (.Name x p) [a] [] cpos)) none pos) (sw X C fld b t):=by
 intro pins s1 σ H1 D I h
 obtain ⟨Nn,NR,mN,mR,c2,_⟩:=ek.ex
 rw [arm_exec_Raise]
 refine wpAny_bind (wpAny_standAt (wU (C:=C) (N:=Nn) (R:=R) (NR:=NR) (mN:=mN) (mR:=mR) (I.ok.hd hc) (wpAny_bind (yT (oO em F hr hg hm hb ha hdb he hpl pins s1 σ H1 _ I h) fun v s2 hs2=>?_))))
 obtain ⟨v',H3,I3,r,e,dx,y,H2,rfl,rfl,hE⟩:=hs2
 cases r
 obtain ⟨a',he'⟩:=(I3.hok e _ al).1
 obtain ⟨hh,g,d,tk,os⟩:=s2
 have I4:=I3.write (t':=tk) (x:=e) (e:=e) (o:=XAt e C dx) (h':=hh) (by rw [al];trivial) (.inl rfl) (fun _ _ _ q=>q) ⟨_,he'⟩ ⟨⟨a',.none,he'⟩,⟨_,he'⟩,fun h1 h2 p k=>by obtain ⟨a,t,p⟩:=p;exact⟨a,t,k _ p⟩⟩
 rw [upd2] at I4
 exact wpAny_bind (wpAny_standAt (wpAny_pure ⟨e,some dx,a',rfl,c2 _ I3.kIn,he',hE e C dx pins _ rfl rfl ⟨σ,a',.none,I4,he',.inl rfl,(fun T z=>nomatch z),al⟩⟩))
def kL (c f:Str) (b:Bool) (ta:yM) (R:ax) (δ:En):Prop:=ta δ (wd fun d _=>pdB b d∧R.ex c f d)
theorem oA (ek:EK X.K C R fld) (em:EM X.K C R fI) (F:c8 X.prog X.w X.K X.mg X.base CX0 k fI fd ps (spI C fld b)) (hr:bP (k + 1) X.A) (hg:Gl X x) (hm:X.mg x=some (.ref C)) (hb:cT X.K fd ps []) (hns:PySem.W.nsIn X.K mainGlobals x=some (some (.ref C))) (ha:DE X a ta) (hc:X.calm=true:=by rfl)
  (hdb:(x == ("__debug__":Str))=false:=by decide) (he:starEach [a] X.env=(false,eval a X.env) :: starEach [] X.env:=by rfl) (hpl:(backTo cpos (starEach [] X.env)).any (·.1)=false:=by rfl) :
  DS X (.Raise (some (.Call (.Name x p) [a] [] cpos)) none pos) (kL x fld b ta) :=
 PS.imp (k6 ek em F hr hg hm hb (aA ha bN he) hc hdb he hpl) fun E σ H hu=>by
  obtain ⟨G,δ,P,R',s,h,k1,k2,_⟩:=hu
  refine up.mk s h fun d δ1 h1 v H1 s1=>⟨v,rfl,s1.pd h1.1,fun e dx he hdx hne=>⟨e,dx,v,H1,rfl,rfl,?_⟩⟩
  exact k2.2.2 x fld d h1.2 e C dx δ1 σ _ (yF.made s1 (by simp) (fun q hq=>by simp [hq]) he hdx hne (.inl rfl) hns) al
end
end DL
namespace DL
open PySem PySem.Spec PyProof.Rows L2
structure XG (K:PySem.W.Frag) (C:Addr):Prop where
 ga:PySem.W.findIn K (.ref C) "__getattribute__"=some (some (.builtin "BaseException.__getattribute__"))
 gh:PySem.W.findIn K (.ref C) "__getattr__"=some none
 be:PySem.W.mroIn K C (.type "BaseException")=some true
 ob:PySem.W.mroIn K C (.type "object")=some true
 hd:PySem.W.hasDictIn K C=true
 cl:PySem.W.findIn K (.ref C) "__class__"=some (some (.builtin "object.__class__"))
 cg:PySem.W.specialIn K (.builtin "object.__class__") "__get__"=some (some (.builtin "getset_descriptor.__get__"))
 ct:PySem.W.takesIn K (.builtin "object.__class__")=some true
section
variable {prog:Program} {w:World} {A:Around} {E:Value→Shared→Prop} {s:Shared} {K:PySem.W.Frag} {x C:Addr} {ox:Obj} {od:Option Obj} {name:Str}
theorem sR {tk:Tok} {v:Value} {Q:Fin→Shared→Prop} (X:K.In s.heap) (I:PySem.W.InstAt s.heap x ox C od) (hf:PySem.W.findObj K C od name=some (.value v)) (h:Q (.done (.ret v)) s) :
  wpAny (model prog w) A (Builtin.«object.__getattribute__» ⟨[.ref x,.str name tk],[]⟩) Q E s:=by
 obtain ⟨hh,g,d,t,os⟩:=s
 have L0:=I.type (M:=model prog w)
 have L1:=PySem.W.looks_find (M:=model prog w) X I hf
 refine wpAny_bind (wpAny_pure (wpAny_bind (wpAny_pure (wpAny_bind (L0.at (wpAny_bind (L1.at ?_)))))))
 exact wpAny_pure h
theorem tQ {tk:Tok} {Q:Fin→Shared→Prop} (X:K.In s.heap) (g:XG K C) (I:PySem.W.InstAt s.heap x ox C od) (h:Q (.done (.ret (.ref C))) s) :
  wpAny (model prog w) A (Builtin.«object.__getattribute__» ⟨[.ref x,.str "__class__" tk],[]⟩) Q E s:=by
 have hf:PySem.W.findObj K C od "__class__"=some (.bind (.builtin "getset_descriptor.__get__") (.builtin "object.__class__")):=by
  obtain ⟨cd,hc,_⟩:=PySem.W.any_some g.hd
  unfold PySem.W.findObj
  rw [hc,Option.bind_some,g.cl,Option.bind_some]
  simp [g.cg,g.ct]
 have L0:=I.type (M:=model prog w)
 have L1:=PySem.W.looks_find (M:=model prog w) X I hf
 obtain ⟨hh,gg,d,t,os⟩:=s
 refine wpAny_bind (wpAny_pure (wpAny_bind (wpAny_pure (wpAny_bind (L0.at (wpAny_bind (L1.at ?_)))))))
 show wpAny _ _ (holding [Value.builtin "object.__class__"] (call (.builtin "getset_descriptor.__get__") [.builtin "object.__class__",.ref x,.ref C]) >>= ret) _ _ _
 exact wpAny_bind (wpAny_holding (wpAny_call (PySem.W.class_get (s:=⟨hh,gg,d,t,os⟩) X I g.ob (wpAny_pure h))))
theorem mQ {M:Model} {nameV:Value} {Q:Unit→Shared→Prop} (X:K.In s.heap) (g:XG K C) (I:PySem.W.InstAt s.heap x ox C od) (hq:Q () s):wpAny M A (checkBuiltinCall "BaseException.__getattribute__" ⟨[.ref x,nameV],[]⟩) Q E s:=by
 obtain ⟨hh,gg,d,t,os⟩:=s
 have L0:=I.type (M:=M)
 have L3:=PySem.W.looks_mroIn (M:=M) X g.be
 have hk:builtinKind "BaseException.__getattribute__"=some .slot:=by decide +kernel
 have hsplit:splitId "BaseException.__getattribute__"=some ("BaseException","__getattribute__"):=by decide +kernel
 have ha:=PySem.F.args_bexc_ga (.ref x) nameV
 simp only [checkBuiltinCall,hk,hsplit]
 refine wpAny_bind ?_
 unfold isInstance
 repeat (first | (with_reducible refine L0.at ?_) | (with_reducible refine L3.at ?_) | wp_step)
 exact hq
theorem qg {tk:Tok} {v:Value} {fill expr:Bool} {Q:Value→Shared→Prop} (X:K.In s.heap) (g:XG K C) (I:PySem.W.InstAt s.heap x ox C od) (hv:PySem.W.handedIn v=true)
  (body:∀ (A:Around) (E:Value→Shared→Prop) (Q:Fin→Shared→Prop),Q (.done (.ret v)) s→wpAny (model prog w) A (Builtin.«object.__getattribute__» ⟨[.ref x,.str name tk],[]⟩) Q E s) (h:Q v s) :
  wpAny (model prog w) A (getAttrBy (.ref x) (.str name tk) fill expr) Q E s:=by
 obtain ⟨hh,gg,d,t,os⟩:=s
 have L0:=I.type (M:=model prog w)
 have L1:=PySem.W.looks_findIn (M:=model prog w) X g.ga
 have L2:=PySem.W.looks_findIn (M:=model prog w) X g.gh
 have f3:=PySem.F.attrBase_ValueError.ga.bind (.ref x)
 have hx0:(expr && onTheHeap (Value.builtin "BaseException.__getattribute__"))=false:=by cases expr<;>rfl
 have hx2:(Value.builtin "BaseException.__getattribute__" == Value.builtin "object.__getattribute__")=false:=by decide +kernel
 have hx1:(onTheHeap (Value.ref C) && Value.builtin "BaseException.__getattribute__" == Value.builtin "object.__getattribute__")=false:=by rw [hx2];rfl
 repeat (any_goals (first | assumption | (with_reducible refine L0.at ?_) | (with_reducible refine L1.at ?_) | (with_reducible refine L2.at ?_) | wp_step))
 refine codeAny_call_builtin PySem.F.attrBase_ValueError.ga.plain PySem.F.entry_bexc_ga (mQ X g I (body _ _ _ ?_))
 show wpAny _ _ (handedOut v) _ _ _
 rw [PySem.W.handedOut_of hv]
 exact wpAny_pure h
theorem xget {v:Value} {expr:Bool} {Q:Value→Shared→Prop} (X:K.In s.heap) (g:XG K C) (I:PySem.W.InstAt s.heap x ox C od) (hv:PySem.W.handedIn v=true)
  (body:∀ (A:Around) (E:Value→Shared→Prop) (Q:Fin→Shared→Prop),Q (.done (.ret v)) { s with toks:=s.toks + 1 }→wpAny (model prog w) A (Builtin.«object.__getattribute__» ⟨[.ref x,.str name s.toks],[]⟩) Q E { s with toks:=s.toks + 1 })
  (h:Q v { s with toks:=s.toks + 1 }):wpAny (model prog w) A (getAttr (.ref x) name expr) Q E s:=by
 unfold getAttr
 exact wpAny_bind (wpAny_mkText (qg (s:={ s with toks:=s.toks + 1 }) X g I hv body h))
theorem xget? {v:Value} {Q:Option Value→Shared→Prop} (X:K.In s.heap) (g:XG K C) (I:PySem.W.InstAt s.heap x ox C od) (hv:PySem.W.handedIn v=true)
  (body:∀ (A:Around) (E:Value→Shared→Prop) (Q:Fin→Shared→Prop),Q (.done (.ret v)) { s with toks:=s.toks + 1 }→wpAny (model prog w) A (Builtin.«object.__getattribute__» ⟨[.ref x,.str name s.toks],[]⟩) Q E { s with toks:=s.toks + 1 })
  (h:Q (some v) { s with toks:=s.toks + 1 }):wpAny (model prog w) A (getAttr? (.ref x) name) Q E s:=by
 unfold getAttr? getAttrBy?
 exact wpAny_bind (wpAny_mkText (wpAny_bind (wpAny_attempt (qg (s:={ s with toks:=s.toks + 1 }) X g I hv body (wpAny_pure h)))))
end
end DL
namespace DL
open PySem PySem.Spec PyProof.Rows L2
theorem tF (n:Nat):∃ h:Heap,h.objs.size=n:=by
 induction n with
 | zero=>exact⟨{ objs:=#[] },rfl⟩
 | succ n ih =>
  obtain ⟨h,e⟩:=ih
  exact⟨h.push { cls:=.type "tuple",data:=.seq #[] },by rw [Heap.size_push,e]⟩
theorem tV {e C dx C' dx':Addr} (h:XAt e C dx=XAt e C' dx'∨XAt e C dx=kM e C' dx'):C=C'∧dx=dx':=by
 obtain ⟨g,hg⟩:=tF e
 have q:(g.push (yE C (some dx) .none .none)).get? e=some (yE C (some dx) .none .none):=by
  rw [← hg]
  exact Heap.get?_push_size g rfl
 have p:∃ a t,(g.push (yE C (some dx) .none .none)).get? e=some (yE C' (some dx') a t):=by
  rcases h with h | h
  ·have z:=congrFun (HO.ext.inj h) (g.push (yE C (some dx) .none .none))
   exact z.mp ⟨_,_,q⟩
  ·have z:=congrFun (HO.ext.inj h) (g.push (yE C (some dx) .none .none))
   obtain ⟨a,r⟩:=z.mp ⟨_,_,q⟩
   exact⟨a,.none,r⟩
 obtain ⟨a,t,r⟩:=p
 rw [q] at r
 have r:=Option.some.inj r
 exact⟨Value.ref.inj (congrArg Obj.cls r),Option.some.inj (congrArg Obj.dict r)⟩
section
variable {K:PySem.W.Frag} {G:Gf} {A:Addr→Prop} {δ:En} {P:List (D×V)} {σ σ':L2.St} {H:Hp} {i j n:Nat} {c f:Str} {d:D} {e:Addr}
theorem Sx.raised (s:Sx K G A δ ((.exn c f d,.ref e) :: P) σ H) (hl:σ'.length=n) (hij:i≠j) (hn:i < n):Sx K G A ((List.replicate n .no).set i (.dat (.exn c f d))) P (((σ'.set j (some (.ref e))).set i (some (.ref e))).set j none) H:=by
 have key:∀ (k:Nat) (y:Sl),y≠.no→((List.replicate n Sl.no).set i (.dat (.exn c f d)))[k]?=some y→i=k∧y=.dat (.exn c f d):=fun k y hy q=>by
  by_cases hk:i=k
  ·subst hk
   rw [List.getElem?_set_self (by simpa using hn)] at q
   exact⟨rfl,(Option.some.inj q).symm⟩
  ·rw [List.getElem?_set_ne hk,List.getElem?_replicate] at q
   split at q
   ·exact absurd (Option.some.inj q).symm hy
   ·cases q
 refine⟨s.old,s.stay,s.m0,s.pm,s.new,s.thr,by simp [hl],fun k d' q=>?_,fun k a d' q=>?_,fun k l a d' e' q _=>?_,fun p hp=>s.pnd p (List.mem_cons_of_mem _ hp)⟩
 ·obtain ⟨rfl,z⟩:=key k _ (by simp) q
  cases z
  refine⟨.ref e,?_,s.pnd _ (List.mem_cons_self ..)⟩
  rw [List.getElem?_set_ne (Ne.symm hij),List.getElem?_set_self (by simp [hl,hn])]
 ·obtain ⟨_,z⟩:=key k _ (by simp) q
  cases z
 ·obtain ⟨_,z⟩:=key k _ (by simp) q
  cases z
end
def dTry (cs:List Str) (i j:Nat) (tb:TDS) (R:ax) (δ:En):Prop:=(i < δ.length∧j < δ.length)∧tb { R with ex:=fun c f d=>c∈cs∧R.nx ((List.replicate δ.length .no).set i (.dat (.exn c f d))) } δ
def jl (K:PySem.W.Frag) (R:Addr) (cs:List Str):Prop:=∀ c∈cs,∀ C,PySem.W.nsIn K mainGlobals c=some (some (.ref C))→∃ N NR mN mR,∀ h,K.In h→C2 h C N R NR mN mR
section
variable {X:Cx}
theorem vY {R:Addr} {body:List Stmt} {n xR y:Str} {np hpos pos p1 p2 p3:Pos} {tb:TDS} {cs:List Str} (i j:Nat) (hst:X.stack=X.env :: X.outer∧X.env.frame=some X.env.locals) (hN:X.N.Nodup) (hij:i≠j) (hg:Gl X xR) (hm:X.mg xR=some (.ref R)) (hcs:jl X.K R cs)
  (hb:∀ (pins:List (Addr×Obj)) (E:Value→Shared→Prop),DSs (X.inTry pins E) body tb) (hj:X.N[j]?=some n:=by rfl) (hk:X.env.scope.names.lookup n=some .local :=by rfl) (hi:X.N[i]?=some y:=by rfl) (hki:X.env.scope.names.lookup y=some .local :=by rfl)
  (hdb:(xR == ("__debug__":Str))=false:=by decide) (hd:(n == ("__debug__":Str))=false:=by decide) (hcd:(n == ("__classdict__":Str))=false:=by decide)
  (hs:∀ A' E',swapsWith (.Name n p2) (some (.Name y p1)) p3.line (X.hdl A' E').env=pure false:=by intro _ _;rfl) :
  DS X (.Try body [.ExceptHandler (some (.Name xR np)) (some n) [.Assign [.Name y p1] (.Name n p2) p3] hpos] [] [] pos) (dTry cs i j tb) :=
 PS.imp (vn (tb:=fun pins E=>upS (X.inTry pins E) tb) hst hN hj hk hg hm hb (fun A' E'=>eN (dI (X:=X.hdl A' E') (i:=i) hN hi (.inl hki) (aQ (X:=X.hdl A' E') (i:=j) hj (.inl hk) hd hcd) (hs A' E') (.inr hki))) hdb) fun E σ H hu=>by
  obtain ⟨G,δ,P,R0,s,⟨⟨hiδ,hjδ⟩,h⟩,k1,k2,k3,k4,k5⟩:=hu
  have hlen:δ.length=σ.length:=let ⟨_,x⟩:=s;x.len
  refine⟨fun ev dxo H'=>∃ c f d e C dx δ' σ',ev=.ref e∧dxo=some dx∧c∈cs∧R0.nx ((List.replicate δ.length .no).set i (.dat (.exn c f d)))∧S X.K G δ' ((.exn c f d,.ref e) :: P) σ' H'∧H' e=some (XAt e C dx),?_,?_,?_⟩
  ·rintro e C dx H' hX ⟨c,f,d,e',C',dx',δ',σ',q1,q2,hc,_,⟨A,x⟩,hX'⟩
   cases q1
   cases q2
   have rp:=x.pnd (.exn c f d,.ref e) (List.mem_cons_self ..)
   unfold yF at rp
   obtain ⟨y,xr,_⟩:=rp
   obtain ⟨e2,C2,dx2,q,_,_,ho,_,hns⟩:=xr.ex
   cases q
   have z:=tV (ho.imp (fun z=>Option.some.inj (hX.symm.trans z)) fun z=>Option.some.inj (hX.symm.trans z))
   rw [z.1]
   exact hcs c hc C2 hns
  ·intro pins E1 hE
   refine⟨G,δ,P,_,s,h,k1,⟨k2.1,k2.2.1,fun c f d hcn e C dx δ' σ' H' s' hX=>?_⟩,k3,k4,k5⟩
   intro e' C' dx' pins' s1 q1 q2 L
   cases q1
   cases q2
   obtain ⟨σ1,a,t,I1,he,ht,hT,hX1⟩:=L.ex
   refine hE _ _ ⟨σ1,H',e,C',dx,a,t,rfl,li I1,he,ht,fun T z=>?_,hX1,c,f,d,e,C,dx,δ',σ',rfl,rfl,hcn.1,hcn.2,s',hX⟩
   obtain ⟨z1,z2,z3,z4,z5⟩:=hT T z
   exact⟨z1,z2,z3,z4,fun p hp=>z5 p (List.mem_append_left _ hp)⟩
  ·rintro σ' H' e C dx hl hX ⟨c,f,d,e',C',dx',δ',σ'',q1,q2,hc,hn,⟨A,x⟩,hX'⟩
   cases q1
   cases q2
   refine⟨.ref e,?_,?_⟩
   ·rw [List.getElem?_set_self (by rw [hl,← hlen];exact hjδ)]
   ·exact k1 _ hn _ H' ⟨A,x.raised (by rw [hl,hlen]) hij hiδ⟩
end
end DL
namespace DL
open PySem PySem.Spec PyProof.Rows L2
def tFs (te:TE):TE:=fun σ H Q=>te σ H fun v H1=>∃ x,v=.str x∧x.length≤100∧∀ y,Q (.str y) H1
section
variable {X:Cx}
theorem qO {c:Str} {j} {e:Expr} {p1 p2 pos:Pos} {te:TE} (he:PE X e te) (hc:c.length≤1000:=by decide +kernel):PE X (.JoinedStr [.Constant (.str c) j p1,.FormattedValue e (-1) none p2] pos) (tFs te):=by
 intro pins s σ H Q I h
 have ec:(Str.empty++c).length≤1000:=by rw [strLen_append];exact Nat.le_trans (Nat.le_of_eq (by rw [show Str.empty.length=0 from rfl,Nat.zero_add])) hc
 refine JoinedStr_many (joinParts_cons (yT (jD (x:=c) (j:=j) (pos:=p1) pins s σ H (fun v H1=>v=.str c∧tFs te σ H1 Q) I ⟨rfl,h⟩) fun u s1 hs1=>?_))
 obtain ⟨v,H1,I1,r,rfl,h1⟩:=hs1
 obtain ⟨t,rfl⟩:=r
 refine⟨Nat.le_trans ec (by decide),joinParts_cons (FormattedValue_plain (yT (he pins s1 σ H1 _ I1 h1) fun u2 s2 hs2=>?_))⟩
 obtain ⟨v2,H2,I2,r2,x,rfl,hx,q⟩:=hs2
 obtain ⟨t2,rfl⟩:=r2
 refine formatField_str (fun t' tk=>?_) (Nat.le_trans hx (by decide))
 have e2:(Str.empty++c++x).length≤2000:=by rw [strLen_append];omega
 exact⟨Nat.le_trans e2 (by decide),joinParts_nil ⟨.str _,H2,(I2.tok tk).tok _,⟨_,rfl⟩,q _⟩ (Nat.le_trans e2 (by decide))⟩
end
structure Exc (P:Program) (w:World) (K:PySem.W.Frag) (mg:Str→Option Value) (base:Heap) (k:Nat) (x f:Str) (b:Bool):Prop where
 ex:∃ (C R fI:Addr) (fd:FuncData) (ps:List Str),EK K C R f∧EM K C R fI∧c8 P w K mg base CX0 k fI fd ps (spI C f b)∧cT K fd ps []∧mg x=some (.ref C)∧PySem.W.nsIn K mainGlobals x=some (some (.ref C))
section
variable {X:Cx} {pos:Pos} {a:Expr} {ta:yM} {f:Str} {k:Nat} {x:Str} {p cpos:Pos} {b:Bool}
theorem ds_x (E:Exc X.prog X.w X.K X.mg X.base k x f b) (hr:bP (k + 1) X.A) (hg:Gl X x) (ha:DE X a ta) (hc:X.calm=true:=by rfl)
  (hdb:(x == ("__debug__":Str))=false:=by decide) (he:starEach [a] X.env=(false,eval a X.env) :: starEach [] X.env:=by rfl) (hpl:(backTo cpos (starEach [] X.env)).any (·.1)=false:=by rfl) :
  DS X (.Raise (some (.Call (.Name x p) [a] [] cpos)) none pos) (kL x f b ta):=by
 obtain ⟨C,R,fI,fd,ps,ek,em,F,hb,hm,hns⟩:=E.ex
 exact oA ek em F hr hg hm hb hns ha hc hdb he hpl
end
def mNs (K:PySem.W.Frag) (N:Addr):Str→Option Value:=fun x=>match K.lookup N with
 | some ⟨_,_,.dict es _,_⟩=>nsFind es x
 | _=>none
theorem ig.ns {K:PySem.W.Frag} {N:Addr} {h:Heap} (q:ig K N=true) (X:K.In h):h.Ns N (mNs K N):=by
 unfold ig at q
 split at q
 ·rename_i c d es n sl e
  refine⟨_,es,n,X _ _ e,rfl,fun en hen=>?_,fun name=>?_⟩
  ·have:=List.all_eq_true.mp q en (by simpa using hen)
   split at this
   ·rename_i y t z
    exact⟨y,t,z⟩
   ·cases this
  ·unfold mNs
   rw [e]
 ·cases q
theorem fL {K:PySem.W.Frag} {N:Addr} {x:Str} {r:Option Value} (q:PySem.W.nsIn K N x=some r):mNs K N x=r:=by
 unfold PySem.W.nsIn at q
 unfold mNs
 split at q
 ·rename_i c d es n sl e
  rw [e]
  show nsFind es x=r
  unfold nsFind findBy
  rw [← Array.find?_toList]
  split at q
  ·rename_i en he
   rw [he]
   cases q
   rfl
  ·rename_i he
   rw [he]
   split at q
   ·cases q
   ·cases q
    rfl
 ·cases q
theorem RcK.rk {K:PySem.W.Frag} {xR:Str} {R NR:Addr} (r:RcK K xR R NR):RK K R:=⟨r.sp,_,r.rd,r.fc⟩
section
variable {K:PySem.W.Frag} {x f xR q:Str} {R NR:Addr} {st:Stmt}
theorem KCls.c2 {C N:Addr} (c:KCls K C N (.ref R :: bmV)) (r:RcK K xR R NR) (ns:ig K N=true):∀ h,K.In h→C2 h C N R NR (mNs K N) (mNs K NR):=fun h X=>by
 obtain ⟨nm,q,bs,sn,sub,ab,col,dd,k0,k1,k2,k3,k5,hC⟩:=c.ex
 obtain ⟨nm',q',bs',sn',sub',ab',col',dd',j0,j1,j2,j3,j5,hR⟩:=r.cl.ex
 exact⟨⟨nm,q,bs,sn,sub,ab,col,dd,k0,k1,k2,k3,k5,X _ _ hC⟩,⟨nm',q',bs',sn',sub',ab',col',dd',j0,j1,j2,j3,j5,X _ _ hR⟩,ig.ns ns X,ig.ns r.ns X,fL r.ini⟩
theorem XcK.exc {P:Program} {w:World} {mg:Str→Option Value} {base h:Heap} {k:Nat} {b:Bool} {ps:List Str} (e:XcK K x f R NR q st) (r:RcK K xR R NR) (X:K.In h) (G:h.Ns mainGlobals mg) (fb:typeLookup (.type "ValueError") f=pure none)
  (hini:∀ (C fI:Addr) (fd:FuncData),Fun K "__init__" q st fI fd→EK K C R f→RK K R→mg xR=some (.ref R)→c8 P w K mg base CX0 k fI fd ps (spI C f b))
  (hb:∀ (kV doc pm:Value) (an:Option Addr) (cdv ct:Value) (us:List Value),us.length=ps.length→bindArgs (PySem.W.fnOf "__init__" q (a8 st) (aI st) (ah st) .none kV doc pm an cdv ct) ⟨us,[]⟩=pure (ps.zip us)) :
  Exc P w K mg base k x f b:=by
 obtain ⟨C,N,fI,h1,h2,h3,h4,h5,h6,h7,h8,od,kV,dc,pm,an,cd,ct,sl,h9,h10,h11⟩:=e.ex
 have F:Fun K "__init__" q st fI (PySem.W.fnOf "__init__" q (a8 st) (aI st) (ah st) .none kV dc pm an cd ct):=⟨⟨_,od,kV,dc,pm,an,cd,ct,sl,rfl,h9,h10⟩,h11⟩
 have ek:EK K C R f:=⟨⟨N,NR,mNs K N,mNs K NR,h2.c2 r h3,fL h5,fL r.sa,fL h6,fL h7⟩,fb⟩
 exact⟨C,R,fI,_,ps,ek,⟨⟨N,NR,mNs K N,mNs K NR,h2.c2 r h3,fL h4⟩,h8,_,h9,rfl⟩,hini C fI _ F ek r.rk (PySem.W.mg_of X G r.at_),F.binds hb,PySem.W.mg_of X G h1,h1⟩
theorem XcK.under (e:XcK K x f R NR q st) (r:RcK K xR R NR):jl K R [x]:=fun c hc C hC=>by
 obtain ⟨C',N,fI,h1,h2,h3,_⟩:=e.ex
 cases List.mem_singleton.mp hc
 rw [h1] at hC
 cases hC
 exact⟨N,NR,_,_,h2.c2 r h3⟩
theorem jl.app {cs ds:List Str} (h:jl K R cs) (h':jl K R ds):jl K R (cs++ds):=fun c hc=>(List.mem_append.mp hc).elim (h c) (h' c)
end
end DL
namespace DL
open PySem PySem.Spec PyProof.Rows L2
theorem xgB.xg {K:PySem.W.Frag} {C:Addr} (h:xgB K C=true):XG K C:=by
 unfold xgB at h
 simp only [Bool.and_eq_true,beq_iff_eq] at h
 obtain ⟨⟨⟨⟨⟨⟨⟨h1,h2⟩,h3⟩,h4⟩,h5⟩,h6⟩,h7⟩,h8⟩:=h
 exact⟨h1,h2,h3,h4,h5,h6,h7,h8⟩
theorem fG.at {K:PySem.W.Frag} {x f:Str} {C:Addr} (h:fG K=true) (hx:(x,f)∈fv) (hC:PySem.W.nsIn K mainGlobals x=some (some (.ref C))) :
  XG K C∧PySem.W.findIn K (.ref C) f=some none∧PySem.W.kitOne K (.ref C) (.type "ValueError")=some true∧PySem.W.kitOne K (.type "NoneType") (.ref C)=some false ∧
   ∀ y g C',(y,g)∈fv→PySem.W.nsIn K mainGlobals y=some (some (.ref C'))→PySem.W.kitOne K (.ref C) (.ref C')=some (x == y):=by
 have q:=List.all_eq_true.mp h (x,f) hx
 simp only [hC,Bool.and_eq_true,beq_iff_eq] at q
 obtain ⟨⟨⟨⟨q1,q2⟩,q3⟩,q4⟩,q5⟩:=q
 refine⟨xgB.xg q1,q2,q3,q4,fun y g C' hy hC'=>?_⟩
 have z:=List.all_eq_true.mp q5 (y,g) hy
 simp only [hC',beq_iff_eq] at z
 exact z
def bK:List Str:=["NoQuotient","NoName","TooMany"]
theorem a5 {x:Str} (h:x∈bK):∃ f,(x,f)∈fv:=by
 simp only [bK,List.mem_cons,List.not_mem_nil,or_false] at h
 rcases h with rfl | rfl | rfl
 ·exact⟨"top",by simp [fv]⟩
 ·exact⟨"name",by simp [fv]⟩
 ·exact⟨"saying",by simp [fv]⟩
def xis (c:Str→Bool):D→Option Bool
 | .exn x _ _=>if bK.contains x then some (c x) else none
 | .non=>some false
 | _=>none
def dIsx (c:Str→Bool) (t:yM) (δ:En) (R:W→En→Prop):Prop:=t δ (wd fun x δ1=>∃ b,xis c x=some b∧R (.d (.bl b)) δ1)
theorem jO {K:PySem.W.Frag} {e C:Addr} (g:XG K C):PySem.W.KitX K (.ref e) (.ref C) (fun h=>∃ ox od,PySem.W.InstAt h e ox C od) where
 ty:=fun _ _ _ ⟨_,_,I⟩=>I.type
 it:=fun _ _ X _=>by
  obtain ⟨cdD,hcD,_⟩:=PySem.W.any_some g.hd
  unfold PySem.W.clsIn at hcD
  split at hcD
  ·rename_i c' d' cd' sl' ho
   intro A' Q' E' s' k q
   unfold isType loadHead
   exact wpAny_bind (wpAny_loadPart (k _ _ (X _ _ ho)) (wpAny_pure q))
  ·cases hcD
 ne:=fun h tp dd its n sl X htp=>by
  obtain ⟨cdD,hcD,_⟩:=PySem.W.any_some g.hd
  refine Bool.eq_false_iff.mpr fun q=>?_
  have e:C=tp:=Value.ref.inj (beq_iff_eq.mp q)
  subst e
  unfold PySem.W.clsIn at hcD
  split at hcD
  ·rename_i c' d' cd' sl' ho
   have z:=(X _ _ ho).symm.trans htp
   cases z
  ·cases hcD
 ca:=fun {prog w A E Q s} X ⟨ox,od,I⟩ k=>xget? X g I rfl (fun A E Q h=>tQ (s:={ s with toks:=s.toks + 1 }) X g I h) k
section
variable {X:Cx} {pins:List (Addr×Obj)} {σ:L2.St} {H:Hp} {s:Shared} {M:Addr→Prop} {d:D} {v y:V} {u:Value} {c f:Str} {A:Around} {E:Value→Shared→Prop}
theorem eR (I:L2.Inv X pins σ H s) (r:pg X.K M H c f v y):∃ e C ox od,v=.ref e∧PySem.W.nsIn X.K mainGlobals c=some (some (.ref C))∧PySem.W.InstAt s.heap e ox C (some od)∧∃ u,PySem.W.lookIn f od=some (some u)∧aN y u:=by
 obtain ⟨e,C,dx,rfl,_,_,h1,h2,h3⟩:=r.ex
 have ho:∃ a t,s.heap.get? e=some (yE C (some dx) a t):=by
  rcases h1 with h1 | h1
  ·exact (I.hok e _ h1).1
  ·obtain ⟨a,q⟩:=(I.hok e _ h1).1
   exact⟨a,.none,q⟩
 obtain ⟨a,t,ho⟩:=ho
 obtain ⟨mA,ns,rel⟩:=I.hok dx _ h2
 obtain ⟨od,hod,hl⟩:=lj ns
 have rf:=rel f
 simp only [List.lookup,beq_self_eq_true] at rf
 obtain ⟨u,hu,ru⟩:=jG.some_of (v:=y) (o:=mA f) rf
 exact⟨e,C,_,od,rfl,h3,⟨ho,rfl,rfl,hod⟩,u,by rw [hl,hu],ru⟩
theorem kZ {k:Str→Bool} {cv:Value} {b:Bool} {Q:Value→Shared→Prop} (tab:fG X.K=true) (I:L2.Inv X pins σ H s) (r:yF X.K M H d v) (ru:aN v u) (hb:xis k d=some b)
  (h1:∀ x∈bK,∀ C,PySem.W.nsIn X.K mainGlobals x=some (some (.ref C))→PySem.W.kitOne X.K (.ref C) cv=some (k x)) (h2:PySem.W.kitOne X.K (.type "NoneType") cv=some false) (h:∀ tk,Q (.bool b) { s with toks:=tk }) :
  wpAny (model X.prog X.w) A (call (.builtin "isinstance") [u,cv]) Q E s:=by
 unfold xis at hb
 split at hb
 ·rename_i x f x'
  split at hb
  ·rename_i hx
   cases hb
   have hx:x∈bK:=by simpa using hx
   unfold yF at r
   obtain ⟨y,xr,_⟩:=r
   obtain ⟨e,C,ox,od,rfl,hns,J,_⟩:=eR I xr
   cases ru
   obtain ⟨f',hf⟩:=a5 hx
   exact PySem.W.kia_one (jO (fG.at tab hf hns).1) I.kIn ⟨_,_,J⟩ (h1 x hx C hns) (fun z=>nomatch z) h
  ·cases hb
 ·cases hb
  unfold yF at r
  subst r
  cases ru
  exact PySem.W.kia_one PySem.W.kitx_none I.kIn True.intro h2 (fun z=>nomatch z) h
 ·cases hb
theorem rq {k:Str→Bool} {c1 c2:Value} {b:Bool} {tp:Addr} {dd:Option Addr} {n:Nat} {sl:Array (Option Value)} {Q:Value→Shared→Prop} (tab:fG X.K=true) (I:L2.Inv X pins σ H s) (r:yF X.K M H d v) (ru:aN v u) (hb:xis k d=some b)
  (htp:s.heap.get? tp=some ⟨.type "tuple",dd,.seq ([c1,c2]:List Value).toArray n,sl⟩)
  (h1:∀ x∈bK,∀ C,PySem.W.nsIn X.K mainGlobals x=some (some (.ref C))→PySem.W.kitAny X.K (.ref C) [c1,c2]=some (k x)) (h2:PySem.W.kitAny X.K (.type "NoneType") [c1,c2]=some false) (h:∀ tk,Q (.bool b) { s with toks:=tk }) :
  wpAny (model X.prog X.w) A (call (.builtin "isinstance") [u,.ref tp]) Q E s:=by
 unfold xis at hb
 split at hb
 ·rename_i x f x'
  split at hb
  ·rename_i hx
   cases hb
   have hx:x∈bK:=by simpa using hx
   unfold yF at r
   obtain ⟨y,xr,_⟩:=r
   obtain ⟨e,C,ox,od,rfl,hns,J,_⟩:=eR I xr
   cases ru
   obtain ⟨f',hf⟩:=a5 hx
   exact PySem.W.kia_tup (jO (fG.at tab hf hns).1) I.kIn ⟨_,_,J⟩ htp (h1 x hx C hns) (fun z=>nomatch z) h
  ·cases hb
 ·cases hb
  unfold yF at r
  subst r
  cases ru
  exact PySem.W.kia_tup PySem.W.kitx_none I.kIn True.intro htp h2 (fun z=>nomatch z) h
 ·cases hb
end
section
variable {X:Cx} {a:Expr} {ta:yM} {p p2 p3 p4 pos:Pos}
def rIsx (K:PySem.W.Frag) (c:Str→Bool) (T:V→Hp→Prop):List V→Hp→VK→Prop:=fun vs H Q=>∃ x y M d b,vs=[x,y]∧T y H∧yF K M H d x∧xis c d=some b∧Q (.bl b) H
theorem vz (K:PySem.W.Frag):PySem.W.kitOne K (.type "NoneType") (.type "ValueError")=some false:=by with_unfolding_all rfl
theorem gW:bootBuiltins "ValueError"=some (.type "ValueError"):=by decide +kernel
theorem rl (tab:fG X.K=true) (hg:Gl X "isinstance") (hm:X.mg "isinstance"=none) (hgT:Gl X "ValueError") (hmT:X.mg "ValueError"=none) (ha:DE X a ta)
  (he:starEach [a,.Name "ValueError" p2] X.env=(false,eval a X.env) :: starEach [.Name "ValueError" p2] X.env:=by rfl) (he2:starEach [.Name "ValueError" p2] X.env=(false,eval (.Name "ValueError" p2) X.env) :: starEach [] X.env:=by rfl)
  (hpl:(backTo pos (starEach [.Name "ValueError" p2] X.env)).any (·.1)=false:=by rfl) :
  DE X (.Call (.Name "isinstance" p) [a,.Name "ValueError" p2] [] pos) (dIsx (fun _=>true) ta):=by
 have cr:bI X (.builtin "isinstance") (rIsx X.K (fun _=>true) fun y _=>y=.ty "ValueError"):=by
  intro pins s σ H xs us Q I r h
  obtain ⟨x,y,M,d,b,rfl,rfl,rx,hb,q⟩:=h
  obtain ⟨u,w',rfl,ru,rw'⟩:=rH r
  cases rw'
  exact kZ tab I rx ru hb (fun x hx C hC=>let ⟨f,hf⟩:=a5 hx;(fG.at tab hf hC).2.2.1) (vz _) fun tk=>⟨.bl _,H,I.tok _,rfl,q⟩
 exact PE.imp (cL cr hg hm b8 (aA ha (aA (tU (v:=.ty "ValueError") hgT hmT gW rfl) bN he2) he) (by decide) (by decide) he hpl) fun σ H Q ⟨G,δ,P,R,s,h,k,_⟩=>up.mk s h fun d δ1 h1 v H1 s1=>by
  obtain ⟨A,q⟩:=id s1
  obtain ⟨b,hb,hR⟩:=h1
  exact⟨v,_,_,d,b,rfl,rfl,q.pnd (d,v) (by simp),hb,k _ δ1 hR _ H1 ((s1.sub (P':=P) fun p hp=>List.mem_cons_of_mem _ hp).sc rfl)⟩
structure XAd (K:PySem.W.Frag) (mg:Str→Option Value) (x:Str) (C:Addr):Prop where
 mg:mg x=some (.ref C)
 ns:PySem.W.nsIn K mainGlobals x=some (some (.ref C))
 mem:x∈bK
theorem rW {y:Str} (tab:fG X.K=true) (hg:Gl X "isinstance") (hm:X.mg "isinstance"=none) (hgT:Gl X y) (hC:∃ C,XAd X.K X.mg y C) (ha:DE X a ta) (hdT:(y == ("__debug__":Str))=false:=by decide)
  (he:starEach [a,.Name y p2] X.env=(false,eval a X.env) :: starEach [.Name y p2] X.env:=by rfl) (he2:starEach [.Name y p2] X.env=(false,eval (.Name y p2) X.env) :: starEach [] X.env:=by rfl) (hpl:(backTo pos (starEach [.Name y p2] X.env)).any (·.1)=false:=by rfl) :
  DE X (.Call (.Name "isinstance" p) [a,.Name y p2] [] pos) (dIsx (fun x=>x == y) ta):=by
 obtain ⟨C,hC⟩:=hC
 have cr:bI X (.builtin "isinstance") (rIsx X.K (fun x=>x == y) fun z _=>z=.ref C):=by
  intro pins s σ H xs us Q I r h
  obtain ⟨x,z,M,d,b,rfl,rfl,rx,hb,q⟩:=h
  obtain ⟨u,w',rfl,ru,rw'⟩:=rH r
  cases rw'
  obtain ⟨g,hg⟩:=a5 hC.mem
  exact kZ tab I rx ru hb (fun x hx C' hC'=>let ⟨f,hf⟩:=a5 hx;(fG.at tab hf hC').2.2.2.2 y g C hg hC.ns) (fG.at tab hg hC.ns).2.2.2.1 fun tk=>⟨.bl _,H,I.tok _,rfl,q⟩
 exact PE.imp (cL cr hg hm b8 (aA ha (aA (iW (v:=.ref C) hgT hC.mg rfl hdT) bN he2) he) (by decide) (by decide) he hpl) fun σ H Q ⟨G,δ,P,R,s,h,k,_⟩=>up.mk s h fun d δ1 h1 v H1 s1=>by
  obtain ⟨A,q⟩:=id s1
  obtain ⟨b,hb,hR⟩:=h1
  exact⟨v,_,_,d,b,rfl,rfl,q.pnd (d,v) (by simp),hb,k _ δ1 hR _ H1 ((s1.sub (P':=P) fun p hp=>List.mem_cons_of_mem _ hp).sc rfl)⟩
theorem lm {K:PySem.W.Frag} {t c1 c2:Value} {b1 b2:Bool} (h1:PySem.W.kitOne K t c1=some b1) (h2:PySem.W.kitOne K t c2=some b2):PySem.W.kitAny K t [c1,c2]=some (b1 || b2):=by
 unfold PySem.W.kitAny
 rw [h1]
 cases b1 with
 | true=>rfl
 | false =>
  show PySem.W.kitAny K t [c2]=_
  unfold PySem.W.kitAny
  rw [h2]
  cases b2<;>rfl
theorem qJ {y z:Str} {kt} (tab:fG X.K=true) (hg:Gl X "isinstance") (hm:X.mg "isinstance"=none) (hgy:Gl X y) (hgz:Gl X z) (hC:∃ C,XAd X.K X.mg y C) (hC':∃ C,XAd X.K X.mg z C) (ha:DE X a ta) (hdy:(y == ("__debug__":Str))=false:=by decide) (hdz:(z == ("__debug__":Str))=false:=by decide)
  (he:starEach [a,.Tuple [.Name y p2,.Name z p3] kt p4] X.env=(false,eval a X.env) :: starEach [.Tuple [.Name y p2,.Name z p3] kt p4] X.env:=by rfl)
  (he2:starEach [.Tuple [.Name y p2,.Name z p3] kt p4] X.env=(false,eval (.Tuple [.Name y p2,.Name z p3] kt p4) X.env) :: starEach [] X.env:=by rfl) (hpl:(backTo pos (starEach [.Tuple [.Name y p2,.Name z p3] kt p4] X.env)).any (·.1)=false:=by rfl)
  (he3:starEach [.Name y p2,.Name z p3] X.env=(false,eval (.Name y p2) X.env) :: starEach [.Name z p3] X.env:=by rfl) (he4:starEach [.Name z p3] X.env=(false,eval (.Name z p3) X.env) :: starEach [] X.env:=by rfl) :
  DE X (.Call (.Name "isinstance" p) [a,.Tuple [.Name y p2,.Name z p3] kt p4] [] pos) (dIsx (fun x=>x == y || x == z) ta):=by
 obtain ⟨C,hC⟩:=hC
 obtain ⟨C',hC'⟩:=hC'
 have cr:bI X (.builtin "isinstance") (rIsx X.K (fun x=>x == y || x == z) fun t H=>∃ tp,t=.ref tp∧H tp=some (.tup [.ref C,.ref C'])):=by
  intro pins s σ H xs us Q I r h
  obtain ⟨x,t,M,d,b,rfl,⟨tp,rfl,htp⟩,rx,hb,q⟩:=h
  obtain ⟨u,w',rfl,ru,rw'⟩:=rH r
  cases rw'
  obtain ⟨_,its,vs,o,ho,hc,n,hd⟩:=(show bd X.prog X.w H s.heap tp (.tup [.ref C,.ref C']) from I.hok tp _ htp)
  obtain ⟨g,hg⟩:=a5 hC.mem
  obtain ⟨g',hg'⟩:=a5 hC'.mem
  have hits:its=[.ref C,.ref C']:=by
   cases vs with
   | cons r0 vs =>
    cases vs with
    | cons r1 vs =>
     cases vs
     cases r0
     cases r1
     rfl
  subst hits
  obtain ⟨cls,dct,dat,sl⟩:=o
  cases hc
  cases hd
  exact rq tab I rx ru hb ho (fun x hx C'' hC''=>let ⟨f,hf⟩:=a5 hx;lm ((fG.at tab hf hC'').2.2.2.2 y g C hg hC.ns) ((fG.at tab hf hC'').2.2.2.2 z g' C' hg' hC'.ns)) (lm (fG.at tab hg hC.ns).2.2.2.1 (fG.at tab hg' hC'.ns).2.2.2.1) fun tk=>⟨.bl _,H,I.tok _,rfl,q⟩
 exact PE.imp (cL cr hg hm b8 (aA ha (aA (pK (aA (iW (v:=.ref C) hgy hC.mg rfl hdy) (aA (iW (v:=.ref C') hgz hC'.mg rfl hdz) bN he4) he3)) bN he2) he) (by decide) (by decide) he hpl) fun σ H Q ⟨G,δ,P,R,s,h,k,_⟩=>up.mk s h fun d δ1 h1 v H1 s1=>by
  refine⟨by show 2≤sizeLine;decide,fun tp htp=>?_⟩
  obtain ⟨b,hb,hR⟩:=h1
  obtain ⟨A,x⟩:=s1
  have x2:=x.same (ap htp (.tup [.ref C,.ref C']))
  exact⟨v,_,_,d,b,rfl,⟨tp,rfl,al⟩,x2.pnd (d,v) (by simp),hb,k _ δ1 hR _ _ (S.sc (S.sub ⟨A,x2⟩ (P':=P) fun p hp=>List.mem_cons_of_mem _ hp) rfl)⟩
def tXf (K:PySem.W.Frag) (f:Str) (ta:TE):TE:=fun σ H Q=>ta σ H fun v H1=>∃ M c y,pg K M H1 c f v y∧(c,f)∈fv∧Q y H1
theorem ym {f:Str} {e:Expr} {te:TE} (tab:fG X.K=true) (he:PE X e te) (hb:attributeBase e f X.env (eval e X.env)=eval e X.env):PE X (.Attribute e f pos) (tXf X.K f te):=by
 intro pins s σ H Q I h
 refine tG hb (yT (he pins s σ H _ I h) fun u s1 hs1=>?_)
 obtain ⟨v,H1,I1,r,M,c,y,xr,hc,q⟩:=hs1
 obtain ⟨e,C,ox,od,rfl,hns,J,u',hl,ru⟩:=eR I1 xr
 cases r
 obtain ⟨g,hf,_⟩:=fG.at tab hc hns
 refine xget I1.kIn g J (nh ru) (fun A E Q h=>sR (s:={ s1 with toks:=s1.toks + 1 }) I1.kIn J (PySem.W.findObj_own g.hd hf rfl hl) h) ?_
 exact⟨y,H1,I1.tok _,ru,q⟩
def dXf (f:Str) (t:yM) (δ:En) (R:W→En→Prop):Prop:=t δ (wd fun x δ1=>∃ c d,x=.exn c f d∧(c,f)∈fv∧R (.d d) δ1)
theorem yw {f:Str} (tab:fG X.K=true) (ha:DE X a ta) (hb:attributeBase a f X.env (eval a X.env)=eval a X.env:=by rfl):DE X (.Attribute a f pos) (dXf f ta) :=
 PE.imp (ym tab ha hb) fun σ H Q ⟨G,δ,P,R,s,h,k,_⟩=>up.mk s h fun x δ1 h1 v H1 s1=>by
  obtain ⟨c,d,rfl,hc,hR⟩:=h1
  obtain ⟨A,x⟩:=s1
  have rp:=x.pnd (.exn c f d,v) (by simp)
  unfold yF at rp
  obtain ⟨y,xr,ry⟩:=rp
  exact⟨_,c,y,xr,hc,k _ δ1 hR y H1 ⟨A,(x.sub (P':=P) fun p hp=>List.mem_cons_of_mem _ hp).push ry⟩⟩
end
section
variable {X:Cx} {pins:List (Addr×Obj)} {σ:L2.St} {H:Hp} {s:Shared} {R NR:Addr} {xR:Str} {Q:VK} {a:Expr} {ta:yM} {p p2 p3 p4 pos cpos:Pos}
end
end DL
namespace DL
open PySem PySem.Spec PyProof.Rows L2
structure Er (P:Program) (w:World) (K:PySem.W.Frag) (mg:Str→Option Value) (base:Heap) (R NR:Addr):Prop where
 rc:RcK K "RowError" R NR
 mR:mg "RowError"=some (.ref R)
 gR:XG K R
 kR:PySem.W.kitOne K (.ref R) (.type "ValueError")=some true
 tab:fG K=true
 un:jl K R bK
 q:Exc P w K mg base 1 "NoQuotient" "top" false
 n:Exc P w K mg base 1 "NoName" "name" true
 t:Exc P w K mg base 1 "TooMany" "saying" false
 aq:∃ C,XAd K mg "NoQuotient" C
 an:∃ C,XAd K mg "NoName" C
 a_t:∃ C,XAd K mg "TooMany" C
abbrev ke (P:Program) (w:World) (K:PySem.W.Frag) (mg:Str→Option Value) (base:Heap) (q p f:Str) (b:Bool) (st:Stmt):Prop :=
 ∀ (R C fI:Addr) (fd:FuncData),Fun K "__init__" q st fI fd→EK K C R f→RK K R→mg "RowError"=some (.ref R)→c8 P w K mg base CX0 1 fI fd ["self",p] (spI C f b)
abbrev ue (q p:Str) (st:Stmt):Prop:=∀ (kV doc pm:Value) (an:Option Addr) (cdv ct:Value) (us:List Value),us.length=2→bindArgs (PySem.W.fnOf "__init__" q (a8 st) (aI st) (ah st) .none kV doc pm an cdv ct) ⟨us,[]⟩=pure ((["self",p]:List Str).zip us)
theorem wz:typeLookup (.type "ValueError") "top"=pure none:=by rw [typeLookup_type,builtinLookup_eq_fast];kernel_rfl
theorem sN:typeLookup (.type "ValueError") "name"=pure none:=by rw [typeLookup_type,builtinLookup_eq_fast];kernel_rfl
theorem l7:typeLookup (.type "ValueError") "saying"=pure none:=by rw [typeLookup_type,builtinLookup_eq_fast];kernel_rfl
theorem XcK.ad {K:PySem.W.Frag} {x f q:Str} {R NR:Addr} {st:Stmt} {h:Heap} {mg:Str→Option Value} (e:XcK K x f R NR q st) (X:K.In h) (G:h.Ns mainGlobals mg) (hx:x∈bK):∃ C,XAd K mg x C:=by
 obtain ⟨C,N,fI,h1,_⟩:=e.ex
 exact⟨C,PySem.W.mg_of X G h1,h1,hx⟩
theorem ErF.er {P:Program} {w:World} {K:PySem.W.Frag} {mg:Str→Option Value} {base h:Heap} {s1 s2 s3:Stmt} (e:ErF K s1 s2 s3) (X:K.In h) (G:h.Ns mainGlobals mg)
  (i1:ke P w K mg base "NoQuotient.__init__" "top" "top" false s1) (b1:ue "NoQuotient.__init__" "top" s1) (i2:ke P w K mg base "NoName.__init__" "name" "name" true s2) (b2:ue "NoName.__init__" "name" s2)
  (i3:ke P w K mg base "TooMany.__init__" "saying" "saying" false s3) (b3:ue "TooMany.__init__" "saying" s3):∃ R NR,Er P w K mg base R NR:=by
 obtain ⟨R,NR,rc,gR,kR,tab,x1,x2,x3⟩:=e.ex
 refine⟨R,NR,rc,PySem.W.mg_of X G rc.at_,xgB.xg gR,kR,tab,(x1.under rc).app ((x2.under rc).app (x3.under rc)),x1.exc rc X G wz (i1 R) b1,x2.exc rc X G sN (i2 R) b2,x3.exc rc X G l7 (i3 R) b3,x1.ad X G ?_,x2.ad X G ?_,x3.ad X G ?_⟩<;>decide
theorem jc {C:Addr} {f p:Str} {b:Bool}:∀ vs H Q E,spI C f b vs H Q E→vs.length=(["self",p]:List Str).length:=fun vs H Q E ⟨e,y,h,_⟩=>by rw [h];rfl
theorem mq {C:Addr} {f p:Str} {b:Bool} {x:V} {vs:List V} {H:Hp} {Q:VK} {E:XK} (h:spI C f b vs H Q E) :
  tSeq (qK (qQ C (mU (p9 0) (mU (tC x) tNil)))) (sL C f (p9 0) (p9 1)) { nx:=fun _ H'=>Q .non H',rt:=Q } (start ["self",p] vs) H:=by
 obtain ⟨e,y,rfl,_,hX,h⟩:=h
 exact⟨.ref e,rfl,e,x,rfl,hX,y,rfl,.ref e,rfl,e,rfl,hX,h⟩
theorem oZ {C:Addr} {f p:Str} {vs:List V} {H:Hp} {Q:VK} {E:XK} (h:spI C f true vs H Q E) :
  tSeq (qK (qQ C (mU (p9 0) (mU (tFs (p9 1)) tNil)))) (sL C f (p9 0) (p9 1)) { nx:=fun _ H'=>Q .non H',rt:=Q } (start ["self",p] vs) H:=by
 obtain ⟨e,y,rfl,⟨t,rfl,ht⟩,hX,h⟩:=h
 exact⟨.ref e,rfl,.str t,rfl,t,rfl,ht,fun z=>⟨e,.str z,rfl,hX,.str t,rfl,.ref e,rfl,e,rfl,hX,h⟩⟩
theorem sr.pure {P:Program} {w:World} {K:PySem.W.Frag} {mg:Str→Option Value} {base:Heap} {k:Nat} {x:Str} {ps:List Str} {f:FE} (C:sr P w K mg base k x ps f):Cal P w K mg base k x ps (yQ K fun ds R=>f ds R fun _ _ _=>False):=by
 obtain ⟨a,fd,F,b,kp,m⟩:=C.ex
 refine⟨a,fd,⟨fun vs H Q E h=>?_,fun A outer s H args us vs Q E hr he hb hv h=>?_⟩,b,kp,m⟩
 ·obtain ⟨M,ds,R,m,rs,h,k⟩:=h
  exact F.len vs H Q (fun _ _ _=>False) ⟨M,ds,R,fun _ _ _=>False,m,rs,h,k,fun _ _ _ z=>z.elim⟩
 ·obtain ⟨M,ds,R,m,rs,h,k⟩:=h
  refine codeAny_mono (F.run A outer s H args us vs Q (fun _ _ _=>False) hr he hb hv ⟨M,ds,R,fun _ _ _=>False,m,rs,h,k,fun _ _ _ z=>z.elim⟩) fun r s' q=>?_
  cases r with
  | error e =>
   obtain ⟨_,_,_,_,_,_,_,_,_,_,_,_,_,_,_,z⟩:=q
   exact z.elim
  | ok fl=>cases fl<;>exact q
theorem DE.nox {X:Cx} {e:Expr} {t:yM} (h:DE X.nox e t):DE X e t:=PE.nox h
end DL
namespace DL
open PySem PySem.Spec PyProof.Rows L2
section
variable {X:Cx} {i j:Nat}
end
end DL
namespace DL
open PySem PySem.Spec PyProof.Rows L2
section
variable {X:Cx} {pos:Pos} {a tg:Expr} {es:List Expr} {t:yS} {f:FE} {g:TDG} {tb:TDS} {body:List Stmt}
end
end DL
namespace DL
open PySem PySem.Spec PyProof.Rows L2
section
variable {X:Cx} {a:Expr} {ta:yM} {apos cpos p1:Pos}
end
end DL
namespace Mf
abbrev V:=Nat→Rat
def dot:Nat→V→V→Rat
 | 0,_,_=>0
 | m + 1,c,w=>dot m c w + c m * w m
theorem eA (c u v:V) (a b:Rat):∀ m,dot m c (fun i=>a * u i + b * v i)=a * dot m c u + b * dot m c v
 | 0=>by show (0:Rat)=a * 0 + b * 0;grind
 | m + 1=>by show dot m c _ + _=a * (dot m c u + _) + b * (dot m c v + _);rw [eA c u v a b m];grind
theorem m5 {c w w':V}:∀ {m},(∀ i,i < m→w i=w' i)→dot m c w=dot m c w'
 | 0,_=>rfl
 | m + 1,h=>by show dot m c w + _=dot m c w' + _;rw [m5 fun i hi=>h i (by omega),h m (by omega)]
def sz (m:Nat) (w:V):Nat:=((List.range m).filter fun i=>decide (w i≠0)).length
theorem gk (m:Nat) (w:V):sz (m + 1) w=sz m w + if w m=0 then 0 else 1:=by
 unfold sz
 rw [List.range_succ,List.filter_append,List.length_append]
 by_cases h:w m=0<;>simp [h]
theorem vm {w w':V}:∀ (m:Nat),(∀ i,i < m→w' i≠0→w i≠0)→sz m w'≤sz m w
 | 0,_=>Nat.le_refl _
 | m + 1,h=>by
  rw [gk,gk]
  have:=vm m fun i hi=>h i (by omega)
  have:=h m (by omega)
  grind
theorem vh {w w':V} {q:Nat}:∀ (m:Nat),(∀ i,i < m→w' i≠0→w i≠0)→q < m→w q≠0→w' q=0→sz m w' < sz m w
 | 0,_,hq,_,_=>by omega
 | m + 1,h,hq,h1,h2=>by
  rw [gk,gk]
  have h3:=vm m fun i hi=>h i (by omega)
  have h4:=h m (by omega)
  by_cases e:q=m
  ·subst e;grind
  ·have:=vh m (fun i hi=>h i (by omega)) (by omega) h1 h2
   grind
variable {m:Nat} {st:Nat→Bool}
def sat (m:Nat) (st:Nat→Bool) (e w:V):Prop:=0 < dot m e w∨(dot m e w=0∧∀ i,i < m→0 < w i→st i=false)
theorem sat_comb {e u v:V} {a b:Rat} (hu:sat m st e u) (hv:sat m st e v) (ha:0≤a) (hb:0≤b):sat m st e (fun i=>a * u i + b * v i):=by
 unfold sat
 rw [eA]
 have hu0:0≤dot m e u:=by rcases hu with h | h<;>grind
 have hv0:0≤dot m e v:=by rcases hv with h | h<;>grind
 have h1:=Rat.mul_nonneg ha hu0
 have h2:=Rat.mul_nonneg hb hv0
 by_cases z:0 < a * dot m e u + b * dot m e v
 ·exact .inl z
 ·refine .inr ⟨by grind,fun i hi hw=>?_⟩
  have e1:a * dot m e u=0:=by grind
  have e2:b * dot m e v=0:=by grind
  have pos:0 < a * u i∨0 < b * v i:=by grind
  rcases pos with p | p
  ·have ha':0 < a:=by
    refine Classical.byContradiction fun z=>?_
    have:a=0:=by grind
    rw [this] at p;grind
   have hu':0 < u i:=by
    refine Classical.byContradiction fun z=>?_
    have:=Rat.mul_nonneg ha (b:=- u i) (by grind)
    grind
   rcases hu with h | h
   ·have:=Rat.mul_pos ha' h;grind
   ·exact h.2 i hi hu'
  ·have hb':0 < b:=by
    refine Classical.byContradiction fun z=>?_
    have:b=0:=by grind
    rw [this] at p;grind
   have hv':0 < v i:=by
    refine Classical.byContradiction fun z=>?_
    have:=Rat.mul_nonneg hb (b:=- v i) (by grind)
    grind
   rcases hv with h | h
   ·have:=Rat.mul_pos hb' h;grind
   ·exact h.2 i hi hv'
theorem i8:∀ (cs:List V) (J:List Nat),J.Nodup→cs.length < J.length→∃ d:V,(∀ i,d i≠0→i∈J)∧(∃ i,d i≠0)∧∀ c∈cs,dot m c d=0
 | [],J,nd,h=>by
  cases J with
  | nil=>simp at h
  | cons j J=>exact⟨fun i=>if i=j then 1 else 0,fun i hi=>by by_cases e:i=j<;>simp_all,⟨j,by simp⟩,fun c hc=>nomatch hc⟩
 | c :: cs,J,nd,h=>by
  cases J with
  | nil=>simp at h
  | cons j J =>
   have h:cs.length + 1 < J.length + 1:=h
   obtain ⟨nj,ndJ⟩:=List.nodup_cons.mp nd
   obtain ⟨d1,a1,⟨i,hi⟩,b1⟩:=i8 cs J ndJ (by omega)
   have him:=a1 i hi
   obtain ⟨d2,a2,⟨k,hk⟩,b2⟩:=i8 cs ((j :: J).erase i) (nd.erase i) (by rw [List.length_erase_of_mem (List.mem_cons_of_mem _ him)];simpa using by omega)
   have hd2i:d2 i=0:=Classical.byContradiction fun z=>((nd.mem_erase_iff).mp (a2 i z)).1 rfl
   by_cases e:dot m c d2=0
   ·refine⟨d2,fun i hi=>List.mem_of_mem_erase (a2 i hi),⟨k,hk⟩,fun c' hc'=>?_⟩
    rcases List.mem_cons.mp hc' with rfl | hc'
    ·exact e
    ·exact b2 c' hc'
   ·refine⟨fun i=>dot m c d2 * d1 i + (- dot m c d1) * d2 i,fun x hx=>?_,⟨i,?_⟩,fun c' hc'=>?_⟩
    ·by_cases z1:d1 x=0
     ·by_cases z2:d2 x=0
      ·refine absurd ?_ hx;show _ * d1 x + _ * d2 x=0;rw [z1,z2];grind
      ·exact List.mem_of_mem_erase (a2 x z2)
     ·exact List.mem_cons_of_mem _ (a1 x z1)
    ·show _ * d1 i + _ * d2 i≠0
     rw [hd2i]
     intro z
     have:dot m c d2 * d1 i=0:=by grind
     rcases Rat.mul_eq_zero.mp this with q | q
     ·exact e q
     ·exact hi q
    ·rw [eA]
     rcases List.mem_cons.mp hc' with rfl | hc'
     ·grind
     ·rw [b1 c' hc',b2 c' hc'];grind
theorem qw {w d:V} (hw:∀ i,0≤w i) (hd:∀ i,d i≠0→0 < w i):∀ (J:List Nat),(∃ i∈J,0 < d i)→∃ t,0 < t∧(∀ i∈J,0≤w i - t * d i)∧∃ q∈J,0 < d q∧w q - t * d q=0
 | [],⟨i,hi,_⟩=>nomatch hi
 | j :: J,h=>by
  have one:∀ i,0 < d i→0 < w i / d i∧w i - (w i / d i) * d i=0:=fun i hi=>by
   have hwi:=hd i (by grind)
   exact⟨by rw [Rat.lt_div_iff hi];grind,by grind⟩
  by_cases hJ:∃ i∈J,0 < d i
  ·obtain ⟨t,t0,h1,q,hq,dq,eq⟩:=qw hw hd J hJ
   by_cases hj:0≤w j - t * d j
   ·refine⟨t,t0,fun i hi=>?_,q,List.mem_cons_of_mem _ hq,dq,eq⟩
    rcases List.mem_cons.mp hi with rfl | hi
    ·exact hj
    ·exact h1 i hi
   ·have dj:0 < d j:=by
     refine Classical.byContradiction fun z=>hj ?_
     have:=Rat.mul_nonneg (a:=t) (b:=- d j) (by grind) (by grind)
     have:=hw j
     grind
    obtain ⟨o1,o2⟩:=one j dj
    have lt:w j / d j < t:=by
     refine Classical.byContradiction fun z=>hj ?_
     have:=Rat.mul_nonneg (a:=w j / d j - t) (b:=d j) (by grind) (by grind)
     grind
    refine⟨w j / d j,o1,fun i hi=>?_,j,List.mem_cons_self ..,dj,o2⟩
    rcases List.mem_cons.mp hi with rfl | hi
    ·grind
    ·by_cases di:0 < d i
     ·have:=h1 i hi
      have:=Rat.mul_nonneg (a:=t - w j / d j) (b:=d i) (by grind) (by grind)
      grind
     ·have:=Rat.mul_nonneg (a:=w j / d j) (b:=- d i) (by grind) (by grind)
      have:=hw i
      grind
  ·have dj:0 < d j:=by
    obtain ⟨i,hi,p⟩:=h
    rcases List.mem_cons.mp hi with rfl | hi
    ·exact p
    ·exact absurd ⟨i,hi,p⟩ hJ
   obtain ⟨o1,o2⟩:=one j dj
   refine⟨w j / d j,o1,fun i hi=>?_,j,List.mem_cons_self ..,dj,o2⟩
   rcases List.mem_cons.mp hi with rfl | hi
   ·grind
   ·have di:¬ 0 < d i:=fun p=>hJ ⟨i,hi,p⟩
    have:=Rat.mul_nonneg (a:=w j / d j) (b:=- d i) (by grind) (by grind)
    have:=hw i
    grind
structure Nn (m:Nat) (w:V):Prop where
 pos:∀ i,0≤w i
 top:∀ i,m≤i→w i=0
structure Sub (m:Nat) (cs:List V) (w u:V):Prop where
 nn:Nn m u
 an:∀ c∈cs,dot m c u=0
 su:∀ i,u i≠0→w i≠0
 lt:sz m u < sz m w
theorem vX {cs:List V} {w d:V} {p:Nat} (hw:Nn m w) (ha:∀ c∈cs,dot m c w=0) (hd:∀ i,d i≠0→w i≠0) (da:∀ c∈cs,dot m c d=0) (hp:w p≠0) (dp:d p=0) (h:∃ i,0 < d i) :
  ∃ u v a b,0≤a∧0≤b∧(∀ i,w i=a * u i + b * v i)∧Sub m cs w u∧Sub m cs w v:=by
 have lt:∀ {i},w i≠0→i < m:=fun {i} h=>Classical.byContradiction fun z=>h (hw.top i (by omega))
 have pos:∀ {i},w i≠0→0 < w i:=fun {i} h=>by have:=hw.pos i;grind
 have mk:∀ {x:V} {a b:Rat},0≤a→(∀ i,x i=a * w i + b * d i)→(∀ i,i < m→0≤x i)→(∃ q,w q≠0∧x q=0)→Sub m cs w x:=fun {x a b} ha0 hx h0 ⟨q,hq,xq⟩=>by
  have su:∀ i,x i≠0→w i≠0:=fun i hi z=>hi (by
   have:d i=0:=Classical.byContradiction fun y=>hd i y z
   rw [hx i,z,this];grind)
  refine⟨⟨fun i=>?_,fun i hi=>Classical.byContradiction fun z=>su i z (hw.top i hi)⟩,fun c hc=>?_,su,vh m (fun i _=>su i) (lt hq) hq xq⟩
  ·by_cases hi:i < m
   ·exact h0 i hi
   ·have:x i=0:=Classical.byContradiction fun z=>su i z (hw.top i (by omega))
    rw [this];exact Rat.le_refl
  ·have:x=fun i=>a * w i + b * d i:=funext hx
   rw [this,eA,ha c hc,da c hc];grind
 have hr:∀ {i},d i≠0→i∈List.range m:=fun {i} h=>List.mem_range.mpr (lt (hd i h))
 obtain ⟨i,hi⟩:=h
 obtain ⟨t,t0,h1,q,hq,dq,eq⟩:=qw hw.pos (fun i h=>pos (hd i h)) (List.range m) ⟨i,hr (by grind),hi⟩
 have s1:Sub m cs w (fun i=>w i - t * d i):=mk (a:=1) (b:=-t) (by grind) (fun i=>by grind) (fun i hi=>h1 i (List.mem_range.mpr hi)) ⟨q,hd q (by grind),eq⟩
 by_cases hn:∃ i,0 < - d i
 ·obtain ⟨k,hk⟩:=hn
  obtain ⟨t',t0',h1',q',hq',dq',eq'⟩:=qw (d:=fun i=>- d i) hw.pos (fun i h=>pos (hd i (by grind))) (List.range m) ⟨k,hr (by grind),hk⟩
  have s2:Sub m cs w (fun i=>w i - t' * - d i):=mk (a:=1) (b:=t') (by grind) (fun i=>by grind) (fun i hi=>h1' i (List.mem_range.mpr hi)) ⟨q',hd q' (by grind),eq'⟩
  have tt:t + t'≠0:=by grind
  have e1:0 < t' / (t + t'):=by rw [Rat.lt_div_iff (by grind)];grind
  have e2:0 < t / (t + t'):=by rw [Rat.lt_div_iff (by grind)];grind
  refine⟨_,_,t' / (t + t'),t / (t + t'),by grind,by grind,fun i=>?_,s1,s2⟩
  have e3:t' / (t + t') + t / (t + t')=1:=by grind
  have e4:t' / (t + t') * t=t / (t + t') * t':=by grind
  grind
 ·have s2:Sub m cs w d:=mk (a:=0) (b:=1) (by grind) (fun i=>by grind) (fun i hi=>Classical.byContradiction fun z=>hn ⟨i,by grind⟩) ⟨p,hp,dp⟩
  exact⟨_,_,1,t,by grind,by grind,fun i=>by grind,s1,s2⟩
theorem split {cs:List V} {w:V} (hw:Nn m w) (ha:∀ c∈cs,dot m c w=0) (hz:cs.length + 1 < sz m w) :
  ∃ u v a b,0≤a∧0≤b∧(∀ i,w i=a * u i + b * v i)∧Sub m cs w u∧Sub m cs w v:=by
 have mem:∀ {i},i∈(List.range m).filter (fun i=>decide (w i≠0))↔i < m∧w i≠0:=by simp
 have nd:((List.range m).filter (fun i=>decide (w i≠0))).Nodup:=List.nodup_range.filter _
 unfold sz at hz
 generalize hJ:(List.range m).filter (fun i=>decide (w i≠0))=J at mem nd hz
 cases J with
 | nil=>simp at hz
 | cons p J =>
  obtain ⟨np,ndJ⟩:=List.nodup_cons.mp nd
  obtain ⟨d,h1,⟨i,hi⟩,h3⟩:=i8 (m:=m) cs J ndJ (by simpa using hz)
  have hd:∀ i,d i≠0→w i≠0:=fun i h=>(mem.mp (List.mem_cons_of_mem _ (h1 i h))).2
  have dp:d p=0:=Classical.byContradiction fun z=>np (h1 p z)
  have hp:=(mem.mp (List.mem_cons_self ..:p∈p :: J)).2
  by_cases s:0 < d i
  ·exact vX hw ha hd h3 hp dp ⟨i,s⟩
  ·have e:(fun i=>- d i)=fun i=>(-1) * d i + 0 * d i:=by funext i;grind
   exact vX (d:=fun i=>- d i) hw ha (fun i h=>hd i (by grind)) (fun c hc=>by rw [e,eA,h3 c hc];grind) hp (by rw [dp];grind) ⟨i,by grind⟩
end Mf
namespace Mf
open PySem L2 DL
end Mf
namespace Mf
open PySem L2 DL
section
variable {rows:List Rw} {n:Str} {l h:List Int}
end
end Mf
namespace Mf
open PySem L2 DL
end Mf
namespace Mf
open PySem L2 DL
end Mf
namespace Mf
open PySem L2 DL
abbrev ib (x:Int):Nat:=Builtin.Int.intBits x
def wb (B m:Nat):Nat→Nat
 | 0=>1
 | k + 1=>2 * wb B m k + B + m + 1
def cb (B m k:Nat):Nat:=wb B m k + B + m
section
variable {nm:List Str} {rows:List Rw} {B:Nat}
end
theorem jM {a b:Int} {n:Nat} (h:a ∣ b) (h0:b≠0) (hb:ib b≤n):ib a≤n:=intBits_le_of_natAbs (Nat.le_of_dvd (by omega) (Int.natAbs_dvd_natAbs.mpr h)) hb
theorem lc {q:Str→Int}:∀ {l ks:List Str},l.Nodup→(∀ n∈l,n∈ks)→yH q l ∣ yH q ks
 | [],ks,_,_=>⟨yH q ks,(Int.one_mul _).symm⟩
 | n :: l,ks,nd,h=>by
  obtain ⟨h1,h2⟩:=List.nodup_cons.mp nd
  have hn:=h n (List.mem_cons_self ..)
  have e:yH q ks=q n * yH q (ks.erase n):=nG (List.perm_cons_erase hn)
  have:=lc (q:=q) (l:=l) (ks:=ks.erase n) h2 fun k hk=>(List.mem_erase_of_ne (fun (z:k=n)=>h1 (z ▸ hk))).mpr (h k (List.mem_cons_of_mem _ hk))
  rw [e]
  exact Int.mul_dvd_mul (Int.dvd_refl _) this
end Mf
namespace Lw
open PySem L2 DL
variable {P:Program} {w:World} {K:PySem.W.Frag} {mg:Str→Option Value} {base:Heap}
structure Zz where
 P:Program
 w:World
 K:PySem.W.Frag
 mg:Str→Option Value
 base:Heap
 d_common_divisor:Fd K mg "common_divisor" s_common_divisor ["one","other"]
 d_made:Fd K mg "made" s_made ["top","bottom"]
 d_is_row:Fd K mg "is_row" s_is_row ["saying"]
 d_mark_names:Fd K mg "mark_names" s_mark_names ["saying","found"]
 d_names_of:Fd K mg "names_of" s_names_of ["saying"]
 d_tops_of:Fd K mg "tops_of" s_tops_of ["names","point"]
 d_top_of_sum:Fd K mg "top_of_sum" s_top_of_sum ["terms","tops"]
 d_row_is_so:Fd K mg "row_is_so" s_row_is_so ["row","tops","bottom"]
 d_part_is_so:Fd K mg "part_is_so" s_part_is_so ["saying","tops","bottom"]
 d_total:Fd K mg "total" s_total ["terms","point"]
 d_is_so:Fd K mg "is_so" s_is_so ["saying","point"]
 d__law_cell:Fd K mg "_law_cell" s__law_cell ["_law_script","_law_k"]
 d__law_common:Fd K mg "_law_common" s__law_common ["_law_one","_law_other"]
 d__law_purse:Fd K mg "_law_purse" s__law_purse ["_law_cell_here"]
 d__law_take:Fd K mg "_law_take" s__law_take ["_law_purse_here","_law_many"]
 d__law_weight:Fd K mg "_law_weight" s__law_weight ["_law_purse_here"]
 d__law_names:Fd K mg "_law_names" s__law_names ["_law_cell_here"]
 d__law_row:Fd K mg "_law_row" s__law_row ["_law_cell_here","_law_names_here"]
 d__law_wild:Fd K mg "_law_wild" s__law_wild ["_law_cells","_law_names_here"]
 d__law_point:Fd K mg "_law_point" s__law_point ["_law_cell_here","_law_names_here"]
 d__law_stand:Fd K mg "_law_stand" s__law_stand ["_law_saying"]
 d__law_caught:Fd K mg "_law_caught" s__law_caught ["_law_way","_law_saying","_law_point_here"]
 d__law_good:Fd K mg "_law_good" s__law_good ["_law_way","_law_saying","_law_point_here"]
 z_abs:mg "abs"=none
 z_sorted:mg "sorted"=none
 z_len:mg "len"=none
 z_range:mg "range"=none
 z_int:mg "int"=none
 z_tuple:mg "tuple"=none
 z_isinstance:mg "isinstance"=none
 z_ValueError:mg "ValueError"=none
 z_dict:mg "dict"=none
 R:Addr
 NR:Addr
 er:Er P w K mg base R NR
abbrev Zz.C (Z:Zz) (k:Nat) (x:Str) (ps:List Str) (sp:Sp):Prop:=Cal Z.P Z.w Z.K Z.mg Z.base k x ps sp
abbrev Zz.E (Z:Zz) (k:Nat) (x:Str) (ps:List Str) (f:FE):Prop:=sr Z.P Z.w Z.K Z.mg Z.base k x ps f
local macro_rules | `(tactic| walk_at "sc") => `(tactic| exact ⟨rfl, rfl, rfl, by decide +kernel, rfl, by decide +kernel, by decide +kernel⟩)
open Mf
theorem ao {t u:TDS} {R:ax} {δ:En} (h:∀ K:En→Prop,K=u R→t { R with nx:=K } δ):dSeq t u R δ:=h _ rfl
def wc (src:TDC) (F:D→ax→En→Prop):TDS:=fun R δ=>src δ fun xs δ1=>∃ I:Nat→En→Prop,I 0 δ1 ∧
 (∀ i x δ',xs[i]?=some x→I i δ'→F x { R with nx:=I (i + 1),ct:=I (i + 1),bk:=R.nx,tp:=False } δ')∧∀ δ',I xs.length δ'→R.nx δ'
theorem tI {src:TDC} {g:TDG} {tb:TDS} {R:ax} {δ:En} (h:∀ (F:D→ax→En→Prop) (N:En→Prop),F=(fun x R δ=>g x δ fun δ2=>tb R δ2)→N=R.nx→wc src F { R with nx:=N } δ):dFor src g tb R δ:=h _ _ rfl rfl
def ql (t:yM) (F:D→ax→En→Prop):TDS:=fun R δ=>t δ (wd fun d δ1=>qL d fun xs=>∃ I:Nat→En→Prop,I 0 δ1 ∧
 (∀ i x δ',xs[i]?=some x→I i δ'→F x { R with nx:=I (i + 1),ct:=I (i + 1),bk:=R.nx,tp:=False } δ')∧∀ δ',I xs.length δ'→R.nx δ')
theorem cN {t:yM} {g:TDG} {tb:TDS} {R:ax} {δ:En} (h:∀ (F:D→ax→En→Prop) (N:En→Prop),F=(fun x R δ=>g x δ fun δ2=>tb R δ2)→N=R.nx→ql t F { R with nx:=N } δ):tL t g tb R δ:=h _ _ rfl rfl
def pW (t:yS) (F:D→ax→En→Prop):TDS:=fun R δ=>t δ fun ds δ1=>qC ds fun x r=>qN r <| qI x fun j=>-(2 ^ 62)≤j∧j < 2 ^ 62∧∃ I:Nat→En→Prop,I 0 δ1 ∧
 (∀ i δ',i < j.toNat→I i δ'→F (.int i) { R with nx:=I (i + 1),ct:=I (i + 1),bk:=R.nx,tp:=False } δ')∧∀ δ',I j.toNat δ'→R.nx δ'
theorem jI {t:yS} {g:TDG} {tb:TDS} {R:ax} {δ:En} (h:∀ (F:D→ax→En→Prop) (N:En→Prop),F=(fun x R δ=>g x δ fun δ2=>tb R δ2)→N=R.nx→pW t F { R with nx:=N } δ):sT t g tb R δ:=h _ _ rfl rfl
theorem jw {g:TDG} {x:D} {t u:TDS} {R:ax} {δ:En} (h:∀ K:En→Prop,K=u R→g x δ fun δ2=>t { R with nx:=K } δ2):g x δ fun δ2=>dSeq t u R δ2:=h _ rfl
theorem bL {α β γ:Type} (f:β→Option γ) (g:α→β) (h:α→γ):∀ (l:List α),(∀ x∈l,f (g x)=some (h x))→(l.map g).filterMap f=l.map h
 | [],_=>rfl
 | x :: l,e=>by rw [List.map_cons,List.map_cons,List.filterMap_cons,e x (List.mem_cons_self ..),bL f g h l fun y hy=>e y (List.mem_cons_of_mem _ hy)]
theorem ifn {c A B:Prop} [Decidable c] (hc:¬ c) (h:B):if c then A else B:=by rw [if_neg hc];exact h
theorem ifp {c A B:Prop} [Decidable c] (hc:c) (h:A):if c then A else B:=by rw [if_pos hc];exact h
theorem at0 {α:Type} {x:α} {xs:List α}:yN (x :: xs) 0=some x:=by
 unfold yN ixN
 simp only [List.length_cons]
 rw [if_pos (by omega),if_pos (by omega)]
 rfl
theorem at1 {α:Type} {x y:α} {xs:List α}:yN (x :: y :: xs) 1=some y:=by
 unfold yN ixN
 simp only [List.length_cons]
 rw [if_pos (by omega),if_pos (by omega)]
 rfl
theorem at2 {α:Type} {x y z:α} {xs:List α}:yN (x :: y :: z :: xs) 2=some z:=by
 unfold yN ixN
 simp only [List.length_cons]
 rw [if_pos (by omega),if_pos (by omega)]
 rfl
theorem atm1 {α:Type} {x:α} {xs:List α}:yN (xs++[x]) (-1)=some x:=oR xs x
theorem lA {i j:Int} {R:D→Prop}:mW [.int i,.int j] R=(R (.int (i + j))):=rfl
theorem lg {xs ys:List D} {R:D→Prop}:mW [.lst xs,.lst ys] R=(xs.length + ys.length≤9000∧R (.lst (xs++ys))):=rfl
theorem oB {xs:List D} {R:D→Prop}:fLen [.lst xs] R=(R (.int xs.length)):=rfl
theorem sh {xs:List D} {R:D→Prop}:fLen [.fz xs] R=(R (.int xs.length)):=rfl
theorem oe {xs:List D} {R:D→Prop}:fLen [.tup xs] R=(R (.int xs.length)):=rfl
theorem oW {i:Int} {R:D→Prop}:fInt [.int i] R=(R (.int i)):=rfl
theorem sk {b:Bool} {R:D→Prop}:fInt [.bl b] R=(R (.int (if b then 1 else 0))):=rfl
theorem rM {xs:List D} {i:Int} {R:D→Prop}:fIx [.tup xs,.int i] R=yJ xs i R:=rfl
theorem qU {xs:List D} {i:Int} {R:D→Prop}:fIx [.lst xs,.int i] R=yJ xs i R:=rfl
theorem vM {xs:List D} {i:Int} {R:D→Prop}:fIx [.fz xs,.int i] R=yJ xs i R:=rfl
theorem qv {z:Str} {i:Int} {R:D→Prop}:fIx [.str z,.int i] R=(z.length≤9000∧∃ c,yN z.cps.toList i=some c∧R (.str ⟨#[c]⟩)):=rfl
theorem rS {xs:List D} {l u:Option Int} {R:D→Prop}:fSl (.lst xs) l u R=(R (.lst (cut xs l u))):=rfl
theorem wB {xs:List D} {l u:Option Int} {R:D→Prop}:fSl (.fz xs) l u R=(R (.lst (cut xs l u))):=rfl
theorem Nat.cast_ofNat_Int {n:Nat}:((OfNat.ofNat n:Nat):Int)=OfNat.ofNat n:=rfl
theorem ld {xs ys:List D} {R:D→Prop}:mW [.tup xs,.tup ys] R=(xs≠[]∧ys≠[]∧xs.length + ys.length≤9000∧R (.tup (xs++ys))):=rfl
theorem se {xs:List D} {l u:Option Int} {R:D→Prop}:fSl (.tup xs) l u R=(¬ (HT.sIx xs.length 0 l=0∧HT.sIx xs.length xs.length u=xs.length)∧R (.tup (cut xs l u))):=rfl
theorem ub {R:D→Prop}:fIs [.non,.non] R=(R (.bl true)):=rfl
theorem tD {c f:Str} {d:D} {R:D→Prop}:fIs [.exn c f d,.non] R=(R (.bl false)):=rfl
theorem sI {xs:List D} {R:D→Prop}:fIs [.tup xs,.non] R=(R (.bl false)):=rfl
theorem wd_e {R:D→En→Prop} {x:D} {δ:En}:wd R (.d x) δ=R x δ:=rfl
theorem qB_e {b:Bool} {k:Bool→Prop}:qB (.bl b) k=k b:=rfl
theorem qI_e {b:Int} {k:Int→Prop}:qI (.int b) k=k b:=rfl
theorem qX_e {b:Str} {k:Str→Prop}:qX (.str b) k=k b:=rfl
theorem qT_e {b:List D} {k:List D→Prop}:qT (.tup b) k=k b:=rfl
theorem qL_e {b:List D} {k:List D→Prop}:qL (.lst b) k=k b:=rfl
theorem qY_l {b:List D} {k:List D→Prop}:qY (.lst b) k=k b:=rfl
theorem qY_t {b:List D} {k:List D→Prop}:qY (.tup b) k=k b:=rfl
theorem w5 {b:Bool} {l:List D} {k:List D→Prop}:qY (sq b l) k=k l:=by cases b<;>rfl
theorem qG_e {b:List Str} {c:List D} {k:List Str→List D→Prop}:qG (.dct b c) k=k b c:=rfl
theorem qF_e {b:List Str} {c:List D} {k:List Str→List D→Prop}:qF (.fd b c) k=k b c:=rfl
theorem qZ_d {b:List Str} {c:List D} {k:List Str→List D→Prop}:qZ (.dct b c) k=k b c:=rfl
theorem qZ_f {b:List Str} {c:List D} {k:List Str→List D→Prop}:qZ (.fd b c) k=k b c:=rfl
theorem qV_e {α:Type} {a:α} {k:α→Prop}:qV (some a) k=k a:=rfl
theorem qN_e {k:Prop}:qN [] k=k:=rfl
theorem qC_e {x:D} {r:List D} {k:D→List D→Prop}:qC (x :: r) k=k x r:=rfl
theorem pQ {k:Prop}:nr [] 0 k=k:=rfl
theorem qj {x:D} {r:List D} {n:Nat} {k:Prop}:nr (x :: r) (n + 1) k=nr r n k:=rfl
theorem q9_0 {k:Prop}:q9 [] k=k:=rfl
theorem q9_1 {a:D} {k:Prop}:q9 [a] k=k:=rfl
theorem q9_2 {a b:D} {k:Prop}:q9 [a,b] k=k:=rfl
theorem q9_3 {a b c:D} {k:Prop}:q9 [a,b,c] k=k:=rfl
theorem q9_4 {a b c d:D} {k:Prop}:q9 [a,b,c,d] k=k:=rfl
theorem qW_s {x:Sl} {δ:En} {i:Nat} {k:Addr→D→Prop}:qW (x :: δ)[i + 1]? k=qW δ[i]? k:=rfl
theorem qW_z {a:Addr} {d:D} {δ:En} {k:Addr→D→Prop}:qW (.own a d :: δ)[0]? k=k a d:=rfl
theorem qD_s {x:Sl} {δ:En} {i:Nat} {k:D→Prop}:qD (x :: δ)[i + 1]? k=qD δ[i]? k:=rfl
theorem qD_z {d:D} {δ:En} {k:D→Prop}:qD (.dat d :: δ)[0]? k=k d:=rfl
theorem pL {x y:Sl} {δ:En} {i:Nat} {k:En→Prop}:fJ (x :: δ) (i + 1) y k=fJ δ i y fun δ'=>k (x :: δ'):=rfl
theorem qp {x y:Sl} {δ:En} {k:En→Prop}:fJ (x :: δ) 0 y k=k (y :: δ):=rfl
theorem xu {x:D} {l:List D} {k:D→Prop}:yJ (x :: l) 0 k=k x:=rfl
theorem xy {x y:D} {l:List D} {k:D→Prop}:yJ (x :: y :: l) 1 k=k y:=rfl
theorem xh {x y z:D} {l:List D} {k:D→Prop}:yJ (x :: y :: z :: l) 2 k=k z:=rfl
theorem yr {x y z u:D} {l:List D} {k:D→Prop}:yJ (x :: y :: z :: u :: l) 3 k=k u:=rfl
theorem xI {x y z u v:D} {l:List D} {k:D→Prop}:yJ (x :: y :: z :: u :: v :: l) 4 k=k v:=rfl
theorem qS_t {d:D} {k:List D→Prop}:qS true d k=qL d k:=rfl
theorem qS_f {d:D} {k:List D→Prop}:qS false d k=qT d k:=rfl
theorem xz {A B:Prop}:(if true=true then A else B)=A:=rfl
theorem xo {A B:Prop}:(if false=true then A else B)=B:=rfl
theorem xP {A B:Prop}:(if (!true)=true then A else B)=B:=rfl
theorem xn {A B:Prop}:(if (!false)=true then A else B)=A:=rfl
theorem uU {p:List Sl→Prop}:qh 0 p=p []:=rfl
theorem uO {n:Nat} {p:List Sl→Prop}:qh (n + 1) p=(∀ t:Option D,qh n fun ts=>p (oS t :: ts)):=rfl
theorem xi {δ c:En}:okT 0 δ c=(δ=c):=rfl
theorem xF {n:Nat} {d:D} {δ c:En}:okT (n + 1) (.dat d :: δ) c=okT n δ c:=rfl
theorem vJ {d:D}:lR (some (.dat d))=.dat d:=rfl
theorem qD_e {d:D} {k:D→Prop}:qD (some (.dat d)) k=k d:=rfl
theorem qW_e {a:Addr} {d:D} {k:Addr→D→Prop}:qW (some (.own a d)) k=k a d:=rfl
theorem vR {x:Sl} {δ:En} {i:Nat}:lR (x :: δ)[i + 1]?=lR δ[i]?:=rfl
theorem wy {d:D} {δ:En}:lR (.dat d :: δ)[0]?=.dat d:=rfl
theorem yz {f:List D→(D→Prop)→Prop} {x y:D} {δ:En} {R:W→En→Prop}:kOb f x R (.d y) δ=f [x,y] (kD R δ):=rfl
theorem xY {f:List D→(D→Prop)→Prop} {tb:yM} {x:D} {δ:En} {R:W→En→Prop}:kOa f tb R (.d x) δ=tb δ (kOb f x R):=rfl
theorem yy {f:List D→(D→Prop)→Prop} {x:D} {δ:En} {R:W→En→Prop}:kUn f R (.d x) δ=f [x] (kD R δ):=rfl
theorem yC {t:yS} {x:D} {δ:En} {R:List D→En→Prop}:kAc t R (.d x) δ=t δ (kAd x R):=rfl
theorem wX {R:Bool→En→Prop} {b:Bool} {δ:En}:kTs R (.d (.bl b)) δ=R b δ:=rfl
theorem xj {u:yM} {b:Bool} {δ:En} {R:W→En→Prop}:kAV u R (.d (.bl b)) δ=(if b=true then u δ R else R (.d (.bl false)) δ):=rfl
theorem xM {u:yM} {b:Bool} {δ:En} {R:W→En→Prop}:kOV u R (.d (.bl b)) δ=(if b=true then R (.d (.bl true)) δ else u δ R):=rfl
theorem xH {b:Bool} {δ:En} {R:W→En→Prop}:kNV R (.d (.bl b)) δ=R (.d (.bl (!b))) δ:=rfl
theorem xb {R:ax} {x:D} {δ:En}:kRe R (.d x) δ=R.rt x δ:=rfl
theorem uZ {i:Nat} {R:ax} {x:D} {δ:En}:kSe i R (.d x) δ=fJ δ i (.dat x) R.nx:=rfl
theorem uT {g:TDG} {R:ax} {x:D} {δ:En}:kAs g R (.d x) δ=g x δ R.nx:=rfl
theorem wW {T:String} {x:D} {δ:En} {R:W→En→Prop}:kIs T R (.d x) δ=(qIs T x fun b=>R (.d (.bl b)) δ):=rfl
theorem dxi (i:Nat) {X:Cx} {x:Str} {j} {k:Int} {p p2 pos:Pos} (hN:X.N[i]?=some x:=by rfl) (hv:Vis X.env.scope x:=by walk_at "v3") (hd:(x == ("__debug__":Str))=false:=by decide) (hcd:(x == ("__classdict__":Str))=false:=by decide):DE X (.Subscript (.Name x p) (.Constant (.int k) j p2) pos) (dOp fIx (dV i) (dC (.int k))):=dw cZ (am i hN hv hd hcd) ag (fun _ _=>rfl)
local macro_rules | `(tactic| walk_at "rh") => `(tactic| try simp only [↓kD, ↓kN, ↓kO, ↓kI, ↓wd_e, ↓uZ, ↓uT, ↓pL, ↓qp, ↓qj, ↓pQ, ↓qC_e, ↓qN_e, ↓qT_e, ↓qL_e, ↓re, ↓uQ, ↓lG, ↓tR, ↓cC, ↓jN, ↓eX, ↓qWD, ↓qW_s, ↓qW_z, ↓qG_e])
local macro_rules | `(tactic| walk_at "rd") => `(tactic| ((try simp only [bZ, List.map_cons, List.map_nil, List.cons_append, List.nil_append, List.append_nil, List.length_cons, List.length_nil, Nat.reduceAdd, Nat.reduceSub, List.replicate]); try simp only [↓dTry, ↓yz, ↓xY, ↓yy, ↓yC, ↓wX, ↓xj, ↓xM, ↓xH, ↓xb, ↓uZ, ↓uT, ↓wW, ↓kAd, ↓kCa, ↓kTu, ↓kLs, ↓kAn, ↓kOr, ↓kNo, ↓dIsx, ↓kL, ↓dXf, ↓u9, ↓qt, ↓kS, ↓kX, ↓dcSq, ↓jN, ↓kh, ↓pI, ↓nO, ↓kA, ↓ld, ↓se, ↓uY, ↓ub, ↓sI, ↓tD, ↓vg, ↓wH, ↓ui, ↓wO, ↓wP, ↓qo, ↓lQ, ↓dIxO, ↓vj, ↓uV, ↓wn, ↓mG, ↓eX, ↓dSeq, ↓dIf, ↓kIf, ↓dRet, ↓dSet, ↓dV, ↓dC, ↓dOp, ↓dUn, ↓dTst, ↓dAnd, ↓dOr, ↓dNot, ↓ww, ↓dOrV, ↓wT, ↓qr, ↓v9, ↓kc, ↓kD, ↓kN, ↓kO, ↓kI, ↓dTup, ↓dLst, ↓dPar, ↓v8, ↓lC, ↓uA, ↓cC, ↓tR, ↓lG, ↓re, ↓uQ, ↓dSl, ↓kT, ↓uM, ↓wS, ↓xQ, ↓w9, ↓qH, ↓t7, ↓we, ↓sA, ↓o5, ↓u4, ↓lA, ↓lg, ↓oB, ↓sh, ↓oe, ↓oW, ↓sk, ↓rM, ↓qU, ↓vM, ↓qv, ↓rS, ↓wB, ↓nU, ↓t4, ↓pk, ↓nT, ↓uD, ↓dPop, ↓oQ, ↓t8, ↓t9, ↓jb, ↓iX, ↓v4, ↓k8, ↓uq, ↓wD, ↓vI, ↓wJ, ↓vy, ↓qWL, ↓qWD, ↓qWe, ↓n6, ↓qWDe, ↓fA, ↓oS, ↓wd_e, ↓qB_e, ↓qI_e, ↓qX_e, ↓qT_e, ↓qL_e, ↓qY_l, ↓qY_t, ↓qG_e, ↓qF_e, ↓qZ_d, ↓qZ_f, ↓qV_e, ↓qN_e, ↓qC_e, ↓pQ, ↓qj, ↓q9_0, ↓q9_1, ↓q9_2, ↓q9_3, ↓q9_4, ↓qW_s, ↓qW_z, ↓qD_s, ↓qD_z, ↓pL, ↓qp, ↓xu, ↓xy, ↓xh, ↓yr, ↓xI, ↓qS_t, ↓qS_f, ↓xz, ↓xo, ↓xP, ↓xn, ↓uU, ↓uO, ↓xi, ↓xF, ↓vJ, ↓qD_e, ↓qW_e, ↓vR, ↓wy, ↓List.map_cons, ↓List.map_nil, ↓List.cons_append, ↓List.nil_append, ↓List.replicate, w5, pdB, D.exn.injEq, sE, nK, ne_eq, List.cons_ne_nil, Sl.own.injEq, exists_const, exists_eq, D.lst.injEq, D.dct.injEq, D.str.injEq, List.length_cons, List.length_nil, List.append_nil, List.getElem?_cons_zero, List.getElem?_cons_succ, List.set_cons_zero, List.set_cons_succ, Option.some.injEq, Sl.dat.injEq, D.int.injEq, D.bl.injEq, D.tup.injEq, List.cons.injEq, and_assoc, and_true, true_and, exists_eq_left', exists_eq_left, exists_eq_right', exists_and_left, Nat.zero_add, Nat.reduceAdd, Nat.reduceSub, Nat.add_zero, Nat.reduceLeDiff, Nat.sub_self, at0, at1, at2, atm1, if_true, if_false, ite_true, ite_false, Int.reduceEq, Int.reduceLT, Nat.cast_ofNat_Int, not_true_eq_false, not_false_eq_true, Bool.false_eq_true, reduceCtorEq, Bool.not_false, Bool.not_true, List.forall_mem_cons, List.mem_cons, List.not_mem_nil, forall_const, false_implies, implies_true, Nat.reduceLT, if_pos, List.filterMap_cons, List.filterMap_nil, decide_eq_true_eq, Bool.not_eq_true', decide_eq_false_iff_not]))
theorem mo2 {x y:Int} {m n:Nat} (h1:Builtin.Int.intBits x≤m) (h2:Builtin.Int.intBits y≤n) (h:m + n≤134217728:=by decide):IntMulOk x y:=IntMulOk.of_le h1 h2 h
theorem ug {x:Int} (h0:0≤x) (h1:x < 18446744073709551616):Builtin.Int.intBits x≤64:=intBits_le_64 (by omega) (by omega)
theorem ny {b:Int} {n:Nat} (h:Builtin.Int.intBits b≤n) (hn:n≤8000):b.natAbs.log2 < 9000:=by
 have h1:=intBits_le_iff.mp h
 rcases Nat.eq_zero_or_pos b.natAbs with h0 | hp
 ·rw [h0];decide
 ·have h2:b.natAbs.log2 < n:=(Nat.log2_lt (Nat.ne_of_gt hp)).mpr h1
  omega
inductive bw (ds:List D) (R:D→Prop):Prop
 | mk (a b:_) (hh:ds=[.int a,.int b]∧R (.int (gc a b)))
theorem bA:∀ ds R,bw ds R→ds.length=2:=fun _ _ ⟨_,_,e,_⟩=>by rw [e];rfl
theorem aU:au ["one","other","rest"] ["one","other"] (ah s_common_divisor):=by walk_at "sc"
theorem cQ (Z:Zz):Z.C 1 "common_divisor" ["one","other"] (yQ Z.K bw):=by
 refine iI Z.d_common_divisor aU bA fun fa cdv A outer s H E ds R hr h=>?_
 have hU:=hr.units
 refine⟨_,(af (f8 PassesOwn.never (aK (ud hU) (am 1) ag (aH _)) (af (aw 2 aU.nd (av b5 (am 0) (am 1))) (af (aw 0 aU.nd (am 1)) (aj (aw 1 aU.nd (am 2)))))) (aj (ay (bC rG rfl Z.z_abs qE (ae (am 0) ak))))),?_⟩
 obtain ⟨x,y,rfl,q⟩:=h
 refine⟨fun δ=>∃ a b t,δ=[.dat (.int a),.dat (.int b),t]∧gc a b=gc x y,fun δ=>match δ with | [_,.dat (.int b),_]=>b.natAbs | _=>0,⟨x,y,.no,rfl,rfl⟩,?_⟩
 rintro δ ⟨a,b,t,rfl,e⟩
 walk_at "rd"
 refine ij (fun c=>⟨c,(lq a b).trans e,cz a b c⟩) (fun c=>?_)
 have c:=Decidable.not_not.mp c
 subst c
 rw [← nq,e]
 exact q
theorem tM {t b:Int} {n:Nat} (hb:b≠0) (h:Builtin.Int.intBits b≤n):Builtin.Int.intBits (dv t b)≤n:=by
 refine intBits_le_of_natAbs ?_ h
 rw [iz]
 exact Int.gcd_le_natAbs_right t hb
inductive pC (ds:List D) (R:D→Prop):Prop
 | mk (t b:_) (hh:ds=[.int t,.int b]∧b≠0∧Builtin.Int.intBits b≤8000∧R (.tup [.int (mkT t b),.int (mkB t b)]))
theorem ku:∀ ds R,pC ds R→ds.length=2:=fun _ _ ⟨_,_,e,_⟩=>by rw [e];rfl
theorem iJ:au ["top","bottom","divisor"] ["top","bottom"] (ah s_made):=by walk_at "sc"
theorem oq (Z:Zz):Z.C 2 "made" ["top","bottom"] (yQ Z.K pC):=by
 refine iI Z.d_made iJ ku fun fa cdv A outer s H E ds R hr h=>?_
 have hU:=hr.units
 refine⟨_,(af (bH (aK (iE hU) (am 1) ag (aH _)) my aF) (af (aw 2 iJ.nd (aG (cQ Z) (rm hr) rfl (ae (am 0) (ae (am 1) ak)))) (af (bH (aK o_lt (am 1) ag (aH _)) (aj (aw 2 iJ.nd (fu fH (am 2)))) aF) (aj (ay (cG (ae (av bY (am 0) (am 2)) (ae (av bY (am 1) (am 2)) ak)))))))),?_⟩
 obtain ⟨x,y,rfl,hy,hb,q⟩:=h
 walk_at "rd"
 rw [if_neg hy]
 refine⟨x,y,rfl,?_⟩
 walk_at "rd"
 have hd:=vV x hy
 have hl:=ny (tM (t:=x) hy hb) (Nat.le_refl _)
 unfold mkT mkB at q
 unfold dv at hd hl q
 refine ij (fun c=>?_) (fun c=>?_)
 ·simp only [if_pos c] at hd hl q
  exact⟨⟨hd,hl⟩,⟨hd,hl⟩,q⟩
 ·simp only [if_neg c] at hd hl q
  exact⟨⟨hd,hl⟩,⟨hd,hl⟩,q⟩
inductive yG where
 | row (k:Kd) (ts:List (Str×Int)) (b:Int)
 | nt (s:yG)
 | bo (s t:yG)
 | ei (s t:yG)
def yG.D:yG→D
 | .row k ts b=>oP k ts b
 | .nt s=>.tup [.str "not",s.D]
 | .bo s t=>.tup [.str "both",s.D,t.D]
 | .ei s t=>.tup [.str "either",s.D,t.D]
def yG.dep:yG→Nat
 | .row _ _ _=>1
 | .nt s=>s.dep + 1
 | .bo s t=>max s.dep t.dep + 1
 | .ei s t=>max s.dep t.dep + 1
def yG.nms:yG→List Str
 | .row _ ts _=>ts.map (·.1)
 | .nt s=>s.nms
 | .bo s t=>s.nms++t.nms
 | .ei s t=>s.nms++t.nms
def yG.ok (names:List Str):yG→Prop
 | .row _ ts b=>nV names ts∧Builtin.Int.intBits b≤10000
 | .nt s=>s.ok names
 | .bo s t=>s.ok names∧t.ok names
 | .ei s t=>s.ok names∧t.ok names
theorem yG.dep_pos:∀ s:yG,0 < s.dep
 | .row _ _ _=>Nat.one_pos
 | .nt s=>Nat.succ_pos _
 | .bo s t=>Nat.succ_pos _
 | .ei s t=>Nat.succ_pos _
theorem yG.nms_sub {names:List Str}:∀ {s:yG},s.ok names→∀ n∈s.nms,n∈names
 | .row _ ts _,h,n,hn=>h.1.sub.subset hn
 | .nt s,h,n,hn=>yG.nms_sub (s:=s) h n hn
 | .bo s t,h,n,hn=>(List.mem_append.mp hn).elim (yG.nms_sub h.1 n) (yG.nms_sub h.2 n)
 | .ei s t,h,n,hn=>(List.mem_append.mp hn).elim (yG.nms_sub h.1 n) (yG.nms_sub h.2 n)
def yG.isRow:yG→Bool
 | .row _ _ _=>true
 | _=>false
inductive jC (ds:List D) (R:D→Prop):Prop
 | mk (s:yG) (hh:ds=[s.D]∧R (.bl s.isRow))
theorem ip:∀ ds R,jC ds R→ds.length=1:=fun _ _ ⟨_,e,_⟩=>by rw [e];rfl
theorem lD:au ["saying"] ["saying"] (ah s_is_row):=by walk_at "sc"
theorem fW (Z:Zz):Z.C 1 "is_row" ["saying"] (yQ Z.K jC):=by
 refine iI Z.d_is_row lD ip fun fa cdv A outer s H E ds R hr h=>?_
 have hU:=hr.units
 refine⟨_,(aj (ay (vq (fe (iE hU) (dxi 0) bB (aH _)) (jz (fe (iE hU) (dxi 0) bB (aH _)))))),?_⟩
 obtain ⟨s,rfl,q⟩:=h
 walk_at "rd"
 cases s with
 | row k ts b =>
  cases k
  ·unfold yG.D oP kdS;walk_at "rd";exact q
  ·unfold yG.D oP kdS;walk_at "rd";exact ifn (by decide) q
 | nt s=>unfold yG.D;walk_at "rd";exact ifn (by decide) q
 | bo s t=>unfold yG.D;walk_at "rd";exact ifn (by decide) q
 | ei s t=>unfold yG.D;walk_at "rd";exact ifn (by decide) q
def bx (ks:List Str) (l:List Str):List Str:=l.foldl gH ks
def fF (n:Nat):List D:=List.replicate n (.bl true)
theorem nW {ks:List Str} {x y:Str}:y∈gH ks x↔y∈ks∨y=x:=by
 unfold gH
 by_cases e:x∈ks
 ·rw [if_pos e]
  exact⟨.inl,fun h=>h.elim id fun z=>z ▸ e⟩
 ·rw [if_neg e,List.mem_append,List.mem_singleton]
theorem cX:∀ {l ks:List Str},ks.Nodup→(bx ks l).Nodup
 | [],_,h=>h
 | _ :: l,_,h=>cX (l:=l) (sX h)
theorem bO:∀ {l ks:List Str} {y:Str},y∈bx ks l↔y∈ks∨y∈l
 | [],ks,y=>by show y∈ks↔_;simp
 | x :: l,ks,y=>by
  show y∈bx (gH ks x) l↔_
  rw [bO,nW,List.mem_cons,or_assoc]
theorem cH {ks l r:List Str}:bx ks (l++r)=bx (bx ks l) r:=List.foldl_append ..
theorem gS:∀ (ks:List Str) (n:Nat) (x:Str),jE ks (fF n) x (D.bl true)=fF n
 | [],n,x=>by cases n<;>rfl
 | k :: ks,0,x=>rfl
 | k :: ks,n + 1,x=>by
  show (if k=x then D.bl true else D.bl true) :: jE ks (fF n) x (D.bl true)=D.bl true :: fF n
  rw [gS ks n x];split<;>rfl
theorem kK {ks:List Str} {x:Str}:iA ks (fF ks.length) x (D.bl true)=fF (gH ks x).length:=by
 unfold iA gH
 by_cases e:x∈ks
 ·rw [if_pos e,if_pos e,gS]
 ·rw [if_neg e,if_neg e,List.length_append]
  show List.replicate _ _++List.replicate 1 _=List.replicate _ _
  rw [List.replicate_append_replicate];rfl
def yG.subs:yG→List yG
 | .row _ _ _=>[]
 | .nt s=>[s]
 | .bo s t=>[s,t]
 | .ei s t=>[s,t]
theorem yG.subs_dep {s u:yG} (h:u∈s.subs):u.dep < s.dep:=by
 cases s with
 | row k ts b=>cases h
 | nt s=>rw [List.mem_singleton.mp h];exact Nat.lt_succ_self _
 | bo s t =>
  have h:u∈[s,t]:=h
  simp only [List.mem_cons,List.not_mem_nil,or_false] at h
  show u.dep < max s.dep t.dep + 1
  rcases h with rfl | rfl<;>omega
 | ei s t =>
  have h:u∈[s,t]:=h
  simp only [List.mem_cons,List.not_mem_nil,or_false] at h
  show u.dep < max s.dep t.dep + 1
  rcases h with rfl | rfl<;>omega
theorem yG.subs_ok {names:List Str} {s u:yG} (h:u∈s.subs) (o:s.ok names):u.ok names:=by
 cases s with
 | row k ts b=>cases h
 | nt s=>rw [List.mem_singleton.mp h];exact o
 | bo s t =>
  have h:u∈[s,t]:=h
  simp only [List.mem_cons,List.not_mem_nil,or_false] at h
  rcases h with rfl | rfl
  ·exact o.1
  ·exact o.2
 | ei s t =>
  have h:u∈[s,t]:=h
  simp only [List.mem_cons,List.not_mem_nil,or_false] at h
  rcases h with rfl | rfl
  ·exact o.1
  ·exact o.2
def yG.word:yG→Str
 | .row k _ _=>kdS k
 | .nt _=>"not"
 | .bo _ _=>"both"
 | .ei _ _=>"either"
theorem yG.D_subs {s:yG} (h:s.isRow=false):s.D=.tup (.str s.word :: s.subs.map yG.D):=by
 cases s with
 | row=>cases h
 | nt=>rfl
 | bo=>rfl
 | ei=>rfl
theorem yG.nms_subs {s:yG} (h:s.isRow=false):s.nms=s.subs.flatMap yG.nms:=by
 cases s with
 | row=>cases h
 | nt s=>show s.nms=s.nms++[];rw [List.append_nil]
 | bo s t=>show s.nms++t.nms=s.nms++(t.nms++[]);rw [List.append_nil]
 | ei s t=>show s.nms++t.nms=s.nms++(t.nms++[]);rw [List.append_nil]
theorem jJ {α:Type} {x:α} {xs:List α}:cut (x :: xs) (some 1) none=xs:=by
 unfold cut
 have e1:HT.sIx (x :: xs).length 0 (some 1)=1:=by
  have:=HT.sIx_nat (x :: xs).length 0 1
  rw [List.length_cons] at this ⊢
  rw [show (some (1:Int))=some ((1:Nat):Int) from rfl,this]
  omega
 rw [e1,HT.sIx_none,List.length_cons,List.drop_one,List.tail_cons,Nat.add_sub_cancel,List.take_length]
inductive aX (n:Nat) (d:D) (ds:List D) (R:D→D→Prop):Prop
 | mk (names s ks:_) (hh:ds=[yG.D s]∧s.dep≤n∧s.ok names∧names.length≤100∧ks.Nodup∧(∀ k∈ks,k∈names)∧d=.dct ks (fF ks.length)∧R .non (.dct (bx ks s.nms) (fF (bx ks s.nms).length)))
theorem dU (n:Nat):∀ d ds R,aX n d ds R→ds.length=1:=fun _ _ _ ⟨_,_,_,e,_⟩=>by rw [e];rfl
theorem de:∀ d ds R,¬ aX 0 d ds R:=fun _ _ _ ⟨_,s,_,_,h,_⟩=>by have:=s.dep_pos;omega
theorem bD:au ["saying","found","name","weight","part"] ["saying","found"] (ah s_mark_names):=by walk_at "sc"
theorem eV (Z:Zz) {n:Nat} (gK:Z.C (2 + n) "mark_names" ["saying","found"] (n5 Z.K (aX n))):Z.C (2 + n + 1) "mark_names" ["saying","found"] (n5 Z.K (aX (n + 1))):=by
 refine yd (k:=2 + n) Z.d_mark_names bD rfl (dU (n + 1)) fun fa cdv A outer s H E oa d0 d R hr h=>?_
 have hU:=hr.units
 refine⟨_,(af (bH (fP (aG (fW Z) (hr.mono (by omega)) rfl (ae (am 0) ak))) (af (iL PassesOwn.never rfl (dxi 0) (mv (n:=2) rfl (cp (aE 2 bD.nd) (cp (aE 3 bD.nd) jf))) (aj (gm 1 hU n8 (am 2)))) (aj rB)) aF) (aj (iL PassesOwn.never rfl (jF (am 0) (df ag) mi) (aE 4 bD.nd) (aj (mS (hZ 1 gK (hr.mono (by omega)) rfl (am 4))))))),?_⟩
 obtain ⟨names,s,ks,e,hd,ok,hl,nd,sub,rfl,q⟩:=h
 cases e
 walk_at "rd"
 refine⟨s,rfl,?_⟩
 walk_at "rd"
 cases hrow:s.isRow with
 | true =>
  cases s with
  | row k ts b =>
   refine ifp rfl ?_
   walk_at "rd"
   simp only [nM]
   unfold yG.D oP
   walk_at "rd"
   have tsub:∀ t∈ts,t.1∈names:=fun t h=>ok.1.sub.subset (List.mem_map.mpr ⟨t,h,rfl⟩)
   have sub2:∀ i,∀ x∈bx ks ((ts.take i).map (·.1)),x∈names:=fun i x hx=>(bO.mp hx).elim (sub x) fun h=>by
    obtain ⟨t,h1,rfl⟩:=List.mem_map.mp h
    exact tsub t (List.mem_of_mem_take h1)
   refine⟨fun i δ=>∃ x y z,δ=[.dat (.tup [.str (kdS k),.tup (ts.map tmD),.int b]),.own oa (.dct (bx ks ((ts.take i).map (·.1))) (fF (bx ks ((ts.take i).map (·.1))).length)),x,y,z],⟨_,_,_,rfl⟩,?_,?_⟩
   ·rintro i d δ hd ⟨x,y,z,rfl⟩
    obtain ⟨t,hn,rfl⟩:=ik hd
    walk_at "rd"
    have l1:=mj (cX (l:=(ts.take i).map (·.1)) nd) (sub2 i)
    refine⟨by omega,?_⟩
    rw [kK,aP hn,List.map_append,cH]
    exact⟨rfl,rfl⟩
   ·rintro δ ⟨x,y,z,rfl⟩
    rw [List.length_map,List.take_length]
    exact⟨_,rfl,q⟩
  | nt s=>cases hrow
  | bo s t=>cases hrow
  | ei s t=>cases hrow
 | false =>
  refine ifn Bool.false_ne_true ?_
  walk_at "rd"
  simp only [nM]
  rw [yG.D_subs hrow]
  walk_at "rd"
  refine⟨fun ⟨h,_⟩=>?_,?_⟩
  ·rw [show (some (1:Int))=some ((1:Nat):Int) from rfl,HT.sIx_nat] at h
   omega
  rw [jJ]
  have sub2:∀ i,∀ x∈bx ks ((s.subs.take i).flatMap yG.nms),x∈names:=fun i x hx=>(bO.mp hx).elim (sub x) fun h=>by
   obtain ⟨u,h1,h2⟩:=List.mem_flatMap.mp h
   exact yG.nms_sub (yG.subs_ok (List.mem_of_mem_take h1) ok) x h2
  refine⟨fun i δ=>∃ x y z,δ=[.dat (.tup (.str s.word :: s.subs.map yG.D)),.own oa (.dct (bx ks ((s.subs.take i).flatMap yG.nms)) (fF (bx ks ((s.subs.take i).flatMap yG.nms)).length)),x,y,z],⟨_,_,_,rfl⟩,?_,?_⟩
  ·rintro i d δ hd2 ⟨x,y,z,rfl⟩
   rw [List.getElem?_map] at hd2
   cases hu:s.subs[i]? with
   | none=>rw [hu] at hd2;cases hd2
   | some u =>
    rw [hu] at hd2
    cases hd2
    have hm:=List.mem_of_getElem? hu
    have dp:=yG.subs_dep hm
    walk_at "rd"
    refine⟨names,u,_,rfl,by omega,yG.subs_ok hm ok,hl,cX nd,sub2 i,rfl,?_⟩
    walk_at "rd"
    rw [aP hu,List.flatMap_append,List.flatMap_singleton,cH]
    exact⟨rfl,rfl⟩
  ·rintro δ ⟨x,y,z,rfl⟩
   rw [List.length_map,List.take_length,← yG.nms_subs hrow]
   exact⟨_,rfl,q⟩
theorem fC (Z:Zz):Z.C 62 "mark_names" ["saying","found"] (n5 Z.K (aX 60)):=Nat.rec (motive:=fun n=>Z.C (2 + n) "mark_names" ["saying","found"] (n5 Z.K (aX n))) (mK Z.d_mark_names _ de) (fun _=>eV Z) 60
inductive fS (ds:List D) (R:D→Prop):Prop
 | mk (names s:_) (hh:ds=[yG.D s]∧s.dep≤60∧s.ok names∧names.length≤60∧∀ ss:List Str,ss.Nodup→(∀ x,x∈ss↔x∈s.nms)→Srt ss→R (.lst (ss.map D.str)))
theorem ft:∀ ds R,fS ds R→ds.length=1:=fun _ _ ⟨_,_,e,_⟩=>by rw [e];rfl
theorem eM:au ["saying","found"] ["saying"] (ah s_names_of):=by walk_at "sc"
theorem ir (Z:Zz):Z.C 63 "names_of" ["saying"] (yQ Z.K fS):=by
 refine iI Z.d_names_of eM ft fun fa cdv A outer s H E ds R hr h=>?_
 have hU:=hr.units
 refine⟨_,(af (iG 1 eM.nd) (af (mS (hZ 1 (fC Z) (rm hr) rfl (am 0))) (cY 1 (aj (ay (bC (f6 rfl) rfl Z.z_sorted gn (ae (am 1) ak))))))),?_⟩
 obtain ⟨names,s,rfl,hd,ok,hl,q⟩:=h
 walk_at "rd"
 intro a
 refine⟨names,s,[],rfl,hd,ok,by omega,List.nodup_nil,fun k h=>(nomatch h),rfl,?_⟩
 walk_at "rd"
 have nd:(bx [] s.nms).Nodup:=cX List.nodup_nil
 have sub:∀ x∈bx [] s.nms,x∈names:=fun x hx=>(bO.mp hx).elim (fun h=>(nomatch h)) (yG.nms_sub ok x)
 refine⟨by have:=mj nd sub;omega,fun ss hp hs=>q ss (hp.nodup_iff.mpr nd) (fun x=>?_) hs⟩
 rw [hp.mem_iff,bO]
 simp
def gU:FE:=fun ds R RE=>∃ names ks ps T κ,ds=[.lst (names.map D.str),.dct ks (ps.map frD)]∧names.Nodup∧names.length≤60∧(∀ n∈names,n.length≤100)∧Pt ks ps T∧T≤1000000∧ib (yH (pB ks ps) ks)≤κ∧κ≤7990 ∧
 ((∀ n∈names,n∈ks)→R (.tup [.dct names (names.map fun n=>.int (ov (pT ks ps) (pB ks ps) (yH (pB ks ps) names) n)),.int (yH (pB ks ps) names)])) ∧
 ∀ i n,names[i]?=some n→(∀ m∈names.take i,m∈ks)→n∉ks→RE "NoName" "name" (.str n)
theorem gb:∀ ds R RE,gU ds R RE→ds.length=2:=fun _ _ _ ⟨_,_,_,_,_,e,_⟩=>by rw [e];rfl
theorem ng {q:Str→Int} {l ks:List Str} {κ:Nat} (nd:l.Nodup) (h:∀ n∈l,n∈ks) (hp:∀ n∈ks,0 < q n) (hb:ib (yH q ks)≤κ):ib (yH q l)≤κ:=jM (lc nd h) (by have:=gi hp;omega) hb
theorem a9:au ["names","point","bottom","name","tops","value"] ["names","point"] (ah s_tops_of):=by walk_at "sc"
theorem eW (Z:Zz):Z.E 3 "tops_of" ["names","point"] gU:=by
 refine fn_E Z.d_tops_of a9 gb fun fa cdv A outer s H E ds R RE hr h=>?_
 have hU:=hr.units
 refine⟨_,(af (aw 2 a9.nd ag) (af (dl (g9 ⟨rfl,rfl⟩) rfl (am 0) (aE 3 a9.nd) (af (bH (aK (i7 hU) (am 3) (am 1) rfl) (aj (ds_x Z.er.n (rm hr) rfl (am 3))) aF) (aj (aw 2 a9.nd (av dP (am 2) (dw cZ (fZ hU (am 1) (am 3) (fun _ _=>rfl)) ag (fun _ _=>rfl))))))) (af (iG 4 a9.nd) (af (dl (g9 ⟨rfl,rfl⟩) rfl (am 0) (aE 3 a9.nd) (af (aw 5 a9.nd (fZ hU (am 1) (am 3) (fun _ _=>rfl))) (aj (gm 4 hU (av dP (dxi 5) (av bY (am 2) (dxi 5))) (am 3))))) (cY 4 (aj (ay (cG (ae (am 4) (ae (am 2) ak)))))))))),?_⟩
 obtain ⟨names,ks,ps,T,κ,rfl,nd,hl,h100,hp,hT,hb,hκ,q,q0⟩:=h
 have pos:∀ n∈ks,0 < pB ks ps n:=fun n hn=>hp.pos hn
 have bt:∀ l:List Str,l.Nodup→(∀ n∈l,n∈ks)→ib (yH (pB ks ps) l)≤κ:=fun l nl hi=>ng nl hi pos hb
 have b1:∀ n∈ks,ib (pB ks ps n)≤κ:=fun n hn=>jM (lH hn) (by have:=gi pos;omega) hb
 refine ao fun K1 hK1=>?_
 walk_at "rd"
 rw [hK1]
 refine ao fun K2 hK2=>?_
 refine cN fun F N hF hN=>?_
 walk_at "rd"
 refine⟨fun i δ=>∃ x y z,δ=[.dat (.lst (names.map D.str)),.dat (.dct ks (ps.map frD)),.dat (.int (yH (pB ks ps) (names.take i))),x,y,z]∧∀ m∈names.take i,m∈ks,⟨_,_,_,rfl,fun m hm=>by simp at hm⟩,?_,?_⟩
 ·rintro i d δ hd ⟨x,y,z,rfl,hin⟩
  obtain ⟨n,hn,rfl⟩:=eT hd
  rw [hF]
  show cC _ _ _ _
  walk_at "rd"
  refine ij (fun c=>⟨h100 n (iO hn),q0 i n hn hin c⟩) fun c=>?_
  have hk:n∈ks:=Classical.byContradiction c
  refine⟨_,hp.D hk,?_⟩
  walk_at "rd"
  refine⟨mo2 (bt _ (nd.sublist (List.take_sublist ..)) hin) (b1 n hk) (by omega),?_⟩
  rw [aP hn,km,rA]
  exact⟨rfl,fun m hm=>(List.mem_append.mp hm).elim (hin m) fun z=>by rw [List.mem_singleton.mp z];exact hk⟩
 ·rintro δ ⟨x,y,z,rfl,hin⟩
  rw [List.length_map,List.take_length] at hin ⊢
  have bb:=bt names nd hin
  rw [hN,hK2]
  dsimp only
  refine ao fun K3 hK3=>?_
  walk_at "rd"
  intro a
  rw [hK3]
  refine ao fun K4 hK4=>?_
  refine cN fun F2 N2 hF2 hN2=>?_
  walk_at "rd"
  refine⟨fun i δ=>∃ x z,δ=[.dat (.lst (names.map D.str)),.dat (.dct ks (ps.map frD)),.dat (.int (yH (pB ks ps) names)),x,.own a (.dct (names.take i) ((names.take i).map fun n=>.int (ov (pT ks ps) (pB ks ps) (yH (pB ks ps) names) n))),z],⟨_,_,rfl⟩,?_,?_⟩
  ·rintro i d δ hd ⟨x,z,rfl⟩
   obtain ⟨n,hn,rfl⟩:=eT hd
   have hk:=hin n (iO hn)
   have hnt:=gr nd hn
   rw [hF2]
   show cC _ _ _ _
   walk_at "rd"
   refine⟨_,hp.D hk,?_⟩
   walk_at "rd"
   have qn:pB ks ps n≠0:=by have:=hp.pos hk;omega
   refine⟨⟨qn,ny (b1 n hk) (by omega)⟩,mo2 (hp.Tb hk) (intBits_fdiv_le bb) (by omega),?_⟩
   refine⟨by rw [List.length_take];omega,?_⟩
   rw [dZ hnt,f9 hnt,aP hn,List.map_append]
   exact⟨rfl,rfl⟩
  ·rintro δ ⟨x,z,rfl⟩
   rw [List.length_map,List.take_length,hN2,hK4]
   walk_at "rd"
   exact q hin
inductive dE (ds:List D) (R:D→Prop):Prop
 | mk (k:Bool) (ts:List (Str×Int)) (ks:List Str) (vs:List D) (f:Str→Int) (hh:ds=[sq k (ts.map tmD),.dct ks vs]∧(∀ t∈ts,dAt ks vs t.1=some (.int (f t.1))∧ib t.2≤60000∧ib (f t.1)≤2000000)∧R (.int (jL f ts)))
theorem dS:∀ ds R,dE ds R→ds.length=2:=fun _ _ ⟨_,_,_,_,_,e,_⟩=>by rw [e];rfl
theorem a6:au ["terms","tops","top","name","weight"] ["terms","tops"] (ah s_top_of_sum):=by walk_at "sc"
theorem cx (Z:Zz):Z.C 1 "top_of_sum" ["terms","tops"] (yQ Z.K dE):=by
 refine iI Z.d_top_of_sum a6 dS fun fa cdv A outer s H E ds R hr h=>?_
 have hU:=hr.units
 refine⟨_,(af (aw 2 a6.nd ag) (af (vG PassesOwn.never rfl (yb (am 0)) (mv (n:=2) rfl (cp (aE 3 a6.nd) (cp (aE 4 a6.nd) jf))) (aj (aw 2 a6.nd (av bQ (am 2) (av dP (am 4) (fZ hU (am 1) (am 3) (fun _ _=>rfl))))))) (aj (ay (am 2))))),?_⟩
 obtain ⟨k,ts,ks,vs,f,rfl,ht,q⟩:=h
 walk_at "rd"
 refine tI fun F N hF hN=>?_
 walk_at "rd"
 simp only [wc]
 walk_at "rd"
 refine⟨fun i δ=>∃ x y,δ=[.dat (sq k (ts.map tmD)),.dat (.dct ks vs),.dat (.int (jL f (ts.take i))),x,y],⟨_,_,rfl⟩,?_,?_⟩
 ·rintro i d δ hd ⟨x,y,rfl⟩
  obtain ⟨t,hn,rfl⟩:=ik hd
  obtain ⟨h1,h2,h3⟩:=ht t (List.mem_of_getElem? hn)
  rw [hF]
  walk_at "rd"
  refine⟨_,h1,?_⟩
  walk_at "rd"
  refine⟨mo2 h2 h3,?_⟩
  rw [aP hn,jh,oK]
 ·rintro δ ⟨x,y,rfl⟩
  rw [List.length_map,List.take_length,hN]
  walk_at "rd"
  exact q
def vU (k:Kd) (s b:Int):Bool:=match k with
 | .least=>decide (b≤s)
 | .more=>decide (b < s)
def yG.so (f:Str→Int) (B:Int):yG→Bool
 | .row k ts b=>vU k (jL f ts) (b * B)
 | .nt s=>!s.so f B
 | .bo s t=>s.so f B && t.so f B
 | .ei s t=>s.so f B || t.so f B
inductive eE (ds:List D) (R:D→Prop):Prop
 | mk (k:Kd) (ts:List (Str×Int)) (b:Int) (ks:List Str) (vs:List D) (f:Str→Int) (B:Int) (hh:ds=[oP k ts b,.dct ks vs,.int B]∧(∀ t∈ts,dAt ks vs t.1=some (.int (f t.1))∧ib t.2≤60000∧ib (f t.1)≤2000000)∧ib b≤60000∧ib B≤8000∧R (.bl (vU k (jL f ts) (b * B))))
theorem eK:∀ ds R,eE ds R→ds.length=3:=fun _ _ ⟨_,_,_,_,_,_,_,e,_⟩=>by rw [e];rfl
theorem cm:au ["row","tops","bottom","top","bound"] ["row","tops","bottom"] (ah s_row_is_so):=by walk_at "sc"
theorem gy (Z:Zz):Z.C 2 "row_is_so" ["row","tops","bottom"] (yQ Z.K eE):=by
 refine iI Z.d_row_is_so cm eK fun fa cdv A outer s H E ds R hr h=>?_
 have hU:=hr.units
 refine⟨_,(af (aw 3 cm.nd (aG (cx Z) (rm hr) rfl (ae (dxi 0) (ae (am 1) ak)))) (af (aw 4 cm.nd (av dP (dxi 0) (am 2))) (af (bH (aK (iE hU) (dxi 0) bB (aH _)) (aj (ay (fe o_ge (am 3) (am 4) (aH _)))) aF) (aj (ay (fe o_gt (am 3) (am 4) (aH _))))))),?_⟩
 obtain ⟨k,ts,b,ks,vs,f,B,rfl,ht,hb,hB,q⟩:=h
 unfold oP
 walk_at "rd"
 refine⟨false,ts,ks,vs,f,rfl,ht,?_⟩
 walk_at "rd"
 refine⟨mo2 hb hB,?_⟩
 cases k with
 | least=>exact ifp rfl q
 | more=>exact ifn (by decide) q
inductive a4 (n:Nat) (ds:List D) (R:D→Prop):Prop
 | mk (s:yG) (ks:List Str) (vs:List D) (f:Str→Int) (B:Int) (names:List Str) (hh:ds=[s.D,.dct ks vs,.int B]∧s.dep≤n∧s.ok names∧(∀ x∈s.nms,dAt ks vs x=some (.int (f x))∧Builtin.Int.intBits (f x)≤2000000)∧Builtin.Int.intBits B≤8000∧R (.bl (s.so f B)))
theorem dY (n:Nat):∀ ds R,a4 n ds R→ds.length=3:=fun _ _ ⟨_,_,_,_,_,_,e,_⟩=>by rw [e];rfl
theorem dy:∀ ds R,¬ a4 0 ds R:=fun _ _ ⟨s,_,_,_,_,_,_,h,_⟩=>by have:=s.dep_pos;omega
theorem cU:au ["saying","tops","bottom","first"] ["saying","tops","bottom"] (ah s_part_is_so):=by walk_at "sc"
theorem eI (Z:Zz) {n:Nat} (b6:Z.C (3 + n) "part_is_so" ["saying","tops","bottom"] (yQ Z.K (a4 n))):Z.C (3 + n + 1) "part_is_so" ["saying","tops","bottom"] (yQ Z.K (a4 (n + 1))):=by
 refine iI (k:=3 + n) Z.d_part_is_so cU (dY (n + 1)) fun fa cdv A outer s H E ds R hr h=>?_
 have hU:=hr.units
 refine⟨_,(af (bH (fP (aG (fW Z) (hr.mono (by omega)) rfl (ae (am 0) ak))) (aj (ay (aG (gy Z) (hr.mono (by omega)) rfl (ae (am 0) (ae (am 1) (ae (am 2) ak)))))) aF) (af (aw 3 cU.nd (aG b6 (hr.mono (by omega)) rfl (ae (dxi 0) (ae (am 1) (ae (am 2) ak))))) (af (bH (aK (iE hU) (dxi 0) bB (aH _)) (aj (ay (vW (am 3)))) aF) (af (bH (aK (iE hU) (dxi 0) bB (aH _)) (aj (ay (qm (am 3) (jz (aG b6 (hr.mono (by omega)) rfl (ae (dxi 0) (ae (am 1) (ae (am 2) ak)))))))) aF) (aj (ay (vq (am 3) (jz (aG b6 (hr.mono (by omega)) rfl (ae (dxi 0) (ae (am 1) (ae (am 2) ak)))))))))))),?_⟩
 obtain ⟨s,ks,vs,f,B,names,rfl,hd,ok,hf,hB,q⟩:=h
 refine ao fun K1 h1=>?_
 walk_at "rd"
 refine⟨s,rfl,?_⟩
 walk_at "rd"
 cases s with
 | row k ts b =>
  refine ifp rfl ⟨k,ts,b,ks,vs,f,B,rfl,fun t h1=>?_,Nat.le_trans ok.2 (by decide),hB,q⟩
  obtain ⟨h2,h3⟩:=hf t.1 (List.mem_map.mpr ⟨t,h1,rfl⟩)
  exact⟨h2,Nat.le_trans (ok.1.bits t h1) (by decide),h3⟩
 | nt s =>
  refine ifn Bool.false_ne_true ?_
  unfold yG.D
  rw [h1]
  refine ao fun K2 h2=>?_
  walk_at "rd"
  have hd:s.dep + 1≤n + 1:=hd
  refine⟨s,ks,vs,f,B,names,rfl,by omega,ok,hf,hB,?_⟩
  walk_at "rd"
  rw [h2]
  refine ao fun K3 h3=>?_
  walk_at "rd"
  exact q
 | bo s t =>
  refine ifn Bool.false_ne_true ?_
  unfold yG.D
  rw [h1]
  refine ao fun K2 h2=>?_
  walk_at "rd"
  have hd:max s.dep t.dep + 1≤n + 1:=hd
  refine⟨s,ks,vs,f,B,names,rfl,by omega,ok.1,fun x h=>hf x (List.mem_append_left _ h),hB,?_⟩
  walk_at "rd"
  rw [h2]
  refine ao fun K3 h3=>?_
  walk_at "rd"
  refine ifn (by decide) ?_
  rw [h3]
  refine ao fun K4 h4=>?_
  walk_at "rd"
  have q:R (.bl (s.so f B && t.so f B)):=q
  cases e:s.so f B with
  | true =>
   rw [e,Bool.true_and] at q
   exact ifp rfl ⟨t,ks,vs,f,B,names,rfl,by omega,ok.2,fun x h=>hf x (List.mem_append_right _ h),hB,q⟩
  | false =>
   rw [e,Bool.false_and] at q
   exact ifn Bool.false_ne_true q
 | ei s t =>
  refine ifn Bool.false_ne_true ?_
  unfold yG.D
  rw [h1]
  refine ao fun K2 h2=>?_
  walk_at "rd"
  have hd:max s.dep t.dep + 1≤n + 1:=hd
  refine⟨s,ks,vs,f,B,names,rfl,by omega,ok.1,fun x h=>hf x (List.mem_append_left _ h),hB,?_⟩
  walk_at "rd"
  rw [h2]
  refine ao fun K3 h3=>?_
  walk_at "rd"
  refine ifn (by decide) ?_
  rw [h3]
  refine ao fun K4 h4=>?_
  walk_at "rd"
  refine ifn (by decide) ?_
  rw [h4]
  walk_at "rd"
  have q:R (.bl (s.so f B || t.so f B)):=q
  cases e:s.so f B with
  | true =>
   rw [e,Bool.true_or] at q
   exact ifp rfl q
  | false =>
   rw [e,Bool.false_or] at q
   exact ifn Bool.false_ne_true ⟨t,ks,vs,f,B,names,rfl,by omega,ok.2,fun x h=>hf x (List.mem_append_right _ h),hB,q⟩
theorem fw (Z:Zz):Z.C 63 "part_is_so" ["saying","tops","bottom"] (yQ Z.K (a4 60)):=Nat.rec (motive:=fun n=>Z.C (3 + n) "part_is_so" ["saying","tops","bottom"] (yQ Z.K (a4 n))) (jq Z.d_part_is_so _ dy) (fun _=>eI Z) 60
theorem gY {l ks:List Str} {i:Nat} {n m:Str} (pw:l.Pairwise leS) (hn:l[i]?=some n) (hin:∀ m∈l.take i,m∈ks) (h1:m∈l) (h2:m∉ks):leS n m:=by
 obtain ⟨j,hj⟩:=List.getElem?_of_mem h1
 by_cases c:j < i
 ·refine absurd (hin m ?_) h2
  exact List.mem_of_getElem? (i:=j) (by rw [List.getElem?_take_of_lt c];exact hj)
 ·by_cases e:i=j
  ·subst e
   rw [hn] at hj
   cases hj
   exact jH _
  ·obtain ⟨h3,e3⟩:=List.getElem?_eq_some_iff.mp hn
   obtain ⟨h4,e4⟩:=List.getElem?_eq_some_iff.mp hj
   have:=List.pairwise_iff_getElem.mp pw i j h3 h4 (by omega)
   rwa [e3,e4] at this
def lI:FE:=fun ds R RE=>∃ (ts:List (Str×Int)) (ks:List Str) (ps:List (Int×Int)) (T κ:Nat),ds=[.tup (ts.map tmD),.dct ks (ps.map frD)]∧(ts.map (·.1)).Nodup∧ts.length≤60∧(∀ t∈ts,t.1.length≤100∧ib t.2≤10000)∧Pt ks ps T∧T≤1000000∧ib (yH (pB ks ps) ks)≤κ∧κ≤7990 ∧
 ((∀ t∈ts,t.1∈ks)→∀ d,R d)∧∀ i n,(ts.map (·.1))[i]?=some n→(∀ m∈(ts.map (·.1)).take i,m∈ks)→n∉ks→RE "NoName" "name" (.str n)
theorem i6:∀ ds R RE,lI ds R RE→ds.length=2:=fun _ _ _ ⟨_,_,_,_,_,e,_⟩=>by rw [e];rfl
theorem jS:au ["terms","point","known"] ["terms","point"] (ah s_total):=by walk_at "sc"
theorem lJ (Z:Zz):Z.E 4 "total" ["terms","point"] lI:=by
 refine fn_E Z.d_total jS i6 fun fa cdv A outer s H E ds R RE hr h=>?_
 have hU:=hr.units
 refine⟨_,(af (mf 2 jS.nd (eW Z) (rm hr) rfl (ae (DE.nox (eG ["term"] [] rfl rfl (by decide +kernel) rfl (by decide +kernel) (fO trivial) (fun _=>g4 rfl) (dr trivial) (pz (am 0)) fun _ _ _ _ _=>⟨(aE 0 (show List.Nodup (["term"]:List Str) by decide +kernel)),k7,(dxi 0)⟩)) (ae (am 1) ak))) (aj (ay (aG (oq Z) (rm hr) rfl (ae (aG (cx Z) (rm hr) rfl (ae (am 0) (ae (dxi 2) ak))) (ae (dxi 2) ak)))))),?_⟩
 obtain ⟨ts,ks,ps,T,κ,rfl,nd,hl,ht,hp,hT,hb,hκ,q,q0⟩:=h
 refine ao fun K1 hK1=>?_
 walk_at "rd"
 refine⟨by rw [List.length_map];omega,fun d=>match d with | .tup [.str n,_]=>some (.str n) | _=>none,fun x hx=>?_,?_⟩
 ·obtain ⟨t,_,rfl⟩:=List.mem_map.mp hx
  unfold tmD
  walk_at "rd"
 rw [bL _ tmD (fun t=>D.str t.1) _ (by intro t _;rfl)]
 have en:ts.map (fun t=>D.str t.1)=(ts.map (·.1)).map D.str:=by rw [List.map_map];rfl
 rw [en]
 refine⟨ts.map (·.1),ks,ps,T,κ,rfl,nd,by rw [List.length_map];omega,fun n hn=>?_,hp,hT,hb,hκ,fun hin=>?_,q0⟩
 ·obtain ⟨t,h1,rfl⟩:=List.mem_map.mp hn
  exact (ht t h1).1
 have hin':∀ t∈ts,t.1∈ks:=fun t h1=>hin t.1 (List.mem_map.mpr ⟨t,h1,rfl⟩)
 have bp:=gi (q:=pB ks ps) (l:=ts.map (·.1)) fun n hn=>hp.pos (hin n hn)
 have bb:=ng (q:=pB ks ps) nd hin (fun n hn=>hp.pos hn) hb
 show K1 _
 rw [hK1]
 walk_at "rd"
 refine⟨false,ts,_,_,ov (pT ks ps) (pB ks ps) (yH (pB ks ps) (ts.map (·.1))),rfl,fun t h1=>⟨gl (fun n=>D.int (ov (pT ks ps) (pB ks ps) (yH (pB ks ps) (ts.map (·.1))) n)) (List.mem_map.mpr ⟨t,h1,rfl⟩),Nat.le_trans (ht t h1).2 (by decide),Nat.le_trans (intBits_mul_le (hp.Tb (hin' t h1)) (intBits_fdiv_le bb)) (by omega)⟩,?_⟩
 walk_at "rd"
 refine⟨_,_,rfl,by omega,Nat.le_trans bb (by omega),?_⟩
 exact q hin' _
def mx:FE:=fun ds R RE=>∃ (s:yG) (ks:List Str) (ps:List (Int×Int)) (names:List Str) (T κ:Nat),ds=[s.D,.dct ks (ps.map frD)]∧s.dep≤60∧s.ok names∧names.length≤60∧(∀ n∈names,n.length≤100)∧Pt ks ps T∧T≤1000000∧ib (yH (pB ks ps) ks)≤κ∧κ≤7990 ∧
 ((∀ x∈s.nms,x∈ks)→∀ d,R d)∧∀ n,n∈s.nms→n∉ks→(∀ m∈s.nms,m∉ks→leS n m)→RE "NoName" "name" (.str n)
theorem iM:∀ ds R RE,mx ds R RE→ds.length=2:=fun _ _ _ ⟨_,_,_,_,_,_,e,_⟩=>by rw [e];rfl
theorem jU:au ["saying","point","known"] ["saying","point"] (ah s_is_so):=by walk_at "sc"
theorem ll (Z:Zz):Z.E 64 "is_so" ["saying","point"] mx:=by
 refine fn_E Z.d_is_so jU iM fun fa cdv A outer s H E ds R RE hr h=>?_
 have hU:=hr.units
 refine⟨_,(af (mf 2 jU.nd (eW Z) (rm hr) rfl (ae (aG (ir Z) (rm hr) rfl (ae (am 0) ak)) (ae (am 1) ak))) (aj (ay (aG (fw Z) (rm hr) rfl (ae (am 0) (ae (dxi 2) (ae (dxi 2) ak))))))),?_⟩
 obtain ⟨s,ks,ps,names,T,κ,rfl,hd,ok,hl,h100,hp,hT,hb,hκ,q,q0⟩:=h
 refine ao fun K1 hK1=>?_
 walk_at "rd"
 refine⟨names,s,rfl,hd,ok,hl,fun ss nd hm hs=>?_⟩
 walk_at "rd"
 have l60:ss.length≤60:=Nat.le_trans (mj nd fun k hk=>yG.nms_sub ok k ((hm k).mp hk)) hl
 refine⟨ss,ks,ps,T,κ,rfl,nd,by omega,fun n hn=>h100 n (yG.nms_sub ok n ((hm n).mp hn)),hp,hT,hb,hκ,fun hs2=>?_,fun i n hn hin hk=>?_⟩
 ·have hin:∀ x∈s.nms,x∈ks:=fun x hx=>hs2 x ((hm x).mpr hx)
  show K1 _
  rw [hK1]
  walk_at "rd"
  have bb:=ng (q:=pB ks ps) nd hs2 (fun n hn=>hp.pos hn) hb
  exact⟨s,ss,_,_,_,names,rfl,hd,ok,fun x hx=>⟨gl (fun n=>D.int (ov (pT ks ps) (pB ks ps) (yH (pB ks ps) ss) n)) ((hm x).mpr hx),Nat.le_trans (intBits_mul_le (hp.Tb (hin x hx)) (intBits_fdiv_le bb)) (by omega)⟩,Nat.le_trans bb (by omega),q hin _⟩
 ·exact q0 n ((hm n).mp (iO hn)) hk fun m h1 h2=>gY (lY hs) hn hin ((hm m).mpr h1) h2
def yG.bt (B:Nat):yG→Prop
 | .row _ ts b=>(∀ t∈ts,ib t.2≤B)∧ib b≤B
 | .nt s=>s.bt B
 | .bo s t=>s.bt B∧t.bt B
 | .ei s t=>s.bt B∧t.bt B
def bX (ns:List Int) (k:Int):Int:=ns.getD k.toNat 0
inductive eZ (ds:List D) (R:D→Prop):Prop
 | mk (ns:List Int) (k:Int) (hh:ds=[.fz (ns.map D.int),.int k]∧0≤k∧R (.int (bX ns k)))
theorem eg:∀ ds R,eZ ds R→ds.length=2:=fun _ _ ⟨_,_,e,_⟩=>by rw [e];rfl
theorem pO {α:Type} {xs:List α} {k:Int} (h0:0≤k) (h:k < xs.length):yN xs k=xs[k.toNat]?:=by
 unfold yN ixN
 rw [if_pos h0,if_pos h]
 rfl
theorem iu:au ["_law_script","_law_k"] ["_law_script","_law_k"] (ah s__law_cell):=by walk_at "sc"
theorem bT (Z:Zz):Z.C 1 "_law_cell" ["_law_script","_law_k"] (yQ Z.K eZ):=by
 refine iI Z.d__law_cell iu eg fun fa cdv A outer s H E ds R hr h=>?_
 have hU:=hr.units
 refine⟨_,(af (bH (aK o_lt (am 1) (bC sO rfl Z.z_len ko (ae (am 0) ak)) (aH _)) (aj (ay (dw cZ (am 0) (am 1) (fun _ _=>rfl)))) aF) (aj (ay ag))),?_⟩
 obtain ⟨ns,k,rfl,h0,q⟩:=h
 walk_at "rd"
 refine ij (fun c=>?_) (fun c=>?_)
 ·rw [List.length_map] at c
  refine yJ.of (v:=.int (bX ns k)) ?_ q
  rw [pO h0 (by rw [List.length_map];exact c),List.getElem?_map]
  have:k.toNat < ns.length:=by omega
  unfold bX
  rw [List.getD_eq_getElem?_getD,List.getElem?_eq_getElem this]
  rfl
 ·rw [List.length_map] at c
  have:ns.length≤k.toNat:=by omega
  unfold bX at q
  rw [List.getD_eq_getElem?_getD,List.getElem?_eq_none this] at q
  exact q
theorem kW {ns:List Int} {n:Nat} (hb:∀ c∈ns,Builtin.Int.intBits c≤n) (k:Int):Builtin.Int.intBits (bX ns k)≤n:=by
 unfold bX
 rw [List.getD_eq_getElem?_getD]
 cases e:ns[k.toNat]? with
 | none=>exact Nat.le_trans (by decide:Builtin.Int.intBits 0≤0) (Nat.zero_le _)
 | some c=>exact hb c (List.mem_of_getElem? e)
theorem ml {α β:Type} (f:α→β) (l:List α) (lo hi:Option Int):cut (l.map f) lo hi=(cut l lo hi).map f:=by
 unfold cut
 rw [List.length_map,List.map_take,List.map_drop]
theorem mM {α:Type} {l:List α} {lo hi:Option Int} {x:α} (h:x∈cut l lo hi):x∈l:=List.mem_of_mem_drop (List.mem_of_mem_take h)
theorem mF {α:Type} {l:List α} (a b:Nat):(cut l (some (a:Int)) (some (b:Int))).length≤b - a:=by
 unfold cut
 rw [List.length_take,List.length_drop,HT.sIx_nat,HT.sIx_nat];omega
theorem tS {α β:Type} {f:α→β} {xs:List α} {k:Nat} (h:k < xs.length):yN (xs.map f) (k:Int)=some (f xs[k]):=by
 rw [pO (by omega) (by rw [List.length_map];omega),List.getElem?_map,Int.toNat_natCast,List.getElem?_eq_getElem h]
 rfl
theorem cnz {i j:Int} (h:j≠0):CNz i j:=h
theorem nF {i j:Int} (h0:j≠0) (h:j.natAbs.log2 < 9000):CFd i j:=⟨h0,h⟩
theorem nv {t b:Int} {n:Nat} (h:Builtin.Int.intBits t≤n):Builtin.Int.intBits (mkT t b)≤n:=intBits_fdiv_le h
theorem o8 {t b:Int} {n:Nat} (h:Builtin.Int.intBits b≤n):Builtin.Int.intBits (mkB t b)≤n:=intBits_fdiv_le h
theorem lE {t b:Int} (hb:0 < b):t.fdiv (gc t b)=mkT t b∧b.fdiv (gc t b)=mkB t b:=by
 unfold mkT mkB dv
 rw [if_neg (by omega)]
 exact⟨rfl,rfl⟩
theorem rQ {t b:Int} {n:Nat} (hb:b≠0) (h:Builtin.Int.intBits b≤n):Builtin.Int.intBits (gc t b)≤n:=intBits_le_of_natAbs (jd t hb) h
abbrev cS:=bw
theorem dk:∀ ds R,cS ds R→ds.length=2:=bA
theorem cB:au ["_law_one","_law_other"] ["_law_one","_law_other"] (ah s__law_common):=by walk_at "sc"
theorem eJ (Z:Zz):Z.C 1 "_law_common" ["_law_one","_law_other"] (yQ Z.K cS):=by
 refine iI Z.d__law_common cB dk fun fa cdv A outer s H E ds R hr h=>?_
 have hU:=hr.units
 refine⟨_,(af (f8 PassesOwn.never (aK (ud hU) (am 1) ag (aH _)) (aj (u6 0 1 rfl cB.nd (by decide) (ae (am 1) (ae (av b5 (am 0) (am 1)) ak))))) (aj (ay (bC rG rfl Z.z_abs qE (ae (am 0) ak))))),?_⟩
 obtain ⟨x,y,rfl,q⟩:=h
 refine⟨fun δ=>∃ a b,δ=[.dat (.int a),.dat (.int b)]∧gc a b=gc x y,fun δ=>match δ with | [_,.dat (.int b)]=>b.natAbs | _=>0,⟨x,y,rfl,rfl⟩,?_⟩
 rintro δ ⟨a,b,rfl,e⟩
 walk_at "rd"
 refine ij (fun c=>?_) (fun c=>?_)
 ·exact⟨c,(lq a b).trans e,cz a b c⟩
 ·have c:=Decidable.not_not.mp c
  subst c
  rw [← nq,e]
  exact q
structure iw (a b:Int):Prop where
 a0:0≤a
 b0:0≤b
 ab:Builtin.Int.intBits a≤1048576
 bb:Builtin.Int.intBits b≤1048576
inductive dM (ds:List D) (R:D→Prop):Prop
 | mk (c:_) (hh:ds=[.int c]∧Builtin.Int.intBits c≤1048576∧∀ a b,iw a b→R (.lst [.int a,.int b]))
theorem dW:∀ ds R,dM ds R→ds.length=1:=fun _ _ ⟨_,e,_⟩=>by rw [e];rfl
theorem aS:au ["_law_cell_here","_law_number","_law_found","_law_k"] ["_law_cell_here"] (ah s__law_purse):=by walk_at "sc"
theorem cA (Z:Zz):Z.C 1 "_law_purse" ["_law_cell_here"] (spN Z.K dM):=by
 refine fn_N Z.d__law_purse aS dW fun fa cdv A outer s H E ds R hr h=>?_
 have hU:=hr.units
 refine⟨_,(af (aw 1 aS.nd (av b5 (am 0) ag)) (af (aw 2 aS.nd ag) (af (i4 PassesOwn.never rfl rfl Z.z_range (ae ag ak) (aE 3 aS.nd) (af (aw 1 aS.nd (av b5 (av bQ (av bQ (av bQ (av dP (am 1) (am 1)) (av dP (av dP ag (am 3)) (am 3))) (am 3)) ag) ag)) (aj (aw 2 aS.nd (av bQ (av dP (am 2) ag) (av b5 (av dP (am 1) (am 1)) ag)))))) (af (bH (aK (iE hU) (av b5 (am 0) ag) ag (aH _)) (aj (k9 (ae (av bY (bC rG rfl Z.z_abs qE (ae (am 0) ak)) ag) (ae (am 2) ak)))) aF) (aj (k9 (ae ag (ae (am 2) ak)))))))),?_⟩
 obtain ⟨c,rfl,hc,q⟩:=h
 walk_at "rd"
 refine⟨cnz (by decide),?_⟩
 walk_at "rd"
 simp only [sT]
 walk_at "rd"
 have n0:=Int.fmod_nonneg_of_pos c (b:=2147483647) (by decide)
 have n1:=Int.fmod_lt_of_pos c (b:=2147483647) (by decide)
 refine⟨by decide,by decide,fun i δ=>∃ n f k,δ=[.dat (.int c),.dat (.int n),.dat (.int f),k]∧i≤16∧0≤n∧n < 2147483648∧0≤f∧Builtin.Int.intBits f≤40 * (i + 1),⟨_,_,_,rfl,by decide,n0,by omega,by decide,by decide⟩,?_,?_⟩
 ·rintro i δ hi ⟨n,f,k,rfl,_,hn0,hn1,hf0,hf1⟩
  have hi':i < 16:=hi
  walk_at "rd"
  have bi:Builtin.Int.intBits (i:Int)≤64:=ug (by omega) (by omega)
  have bn:Builtin.Int.intBits n≤64:=ug hn0 (by omega)
  have z0:=Int.fmod_nonneg_of_pos (n * n + 48271 * (i:Int) * i + i + 3) (b:=2147483629) (by decide)
  have z1:=Int.fmod_lt_of_pos (n * n + 48271 * (i:Int) * i + i + 3) (b:=2147483629) (by decide)
  generalize (n * n + 48271 * (i:Int) * i + i + 3).fmod 2147483629=z at z0 z1 ⊢
  have bz:Builtin.Int.intBits z≤64:=ug z0 (by omega)
  have y0:=Int.fmod_nonneg_of_pos (z * z) (b:=2147483587) (by decide)
  have y1:=Int.fmod_lt_of_pos (z * z) (b:=2147483587) (by decide)
  have by31:Builtin.Int.intBits ((z * z).fmod 2147483587)≤31:=intBits_le_iff.mpr (by rw [show (2:Nat) ^ 31=2147483648 from rfl];omega)
  have fm:=Int.mul_nonneg hf0 (show (0:Int)≤2147483587 by decide)
  refine⟨mo2 bn bn,IntMulOk.of_left (by decide),IntMulOk.of_right bi,cnz (by decide),IntMulOk.of_right (by decide),mo2 bz bz,cnz (by decide),by omega,z0,by omega,by omega,?_⟩
  have h1:=intBits_add_le (intBits_mul_le hf1 (show Builtin.Int.intBits 2147483587≤31 by decide)) by31
  omega
 ·rintro δ ⟨n,f,k,rfl,_,hn0,hn1,hf0,hf1⟩
  walk_at "rd"
  have hf1:Builtin.Int.intBits f≤1048576:=Nat.le_trans hf1 (by decide)
  refine⟨cnz (by decide),ij (fun _=>⟨⟨by decide,by decide +kernel⟩,?_⟩) (fun _=>?_)⟩
  ·have ha:0≤(if c < 0 then -c else c):=by split<;>omega
   have hb:Builtin.Int.intBits (if c < 0 then -c else c)≤1048576:=by
    split
    ·exact intBits_neg_le hc
    ·exact hc
   exact q _ _ ⟨by rw [Int.fdiv_eq_ediv_of_nonneg _ (by decide)];exact Int.ediv_nonneg ha (by decide),hf0,intBits_fdiv_le hb,hf1⟩
  ·exact q _ _ ⟨Int.le_refl 0,hf0,by decide,hf1⟩
inductive d7 (d:D) (ds:List D) (R:D→D→Prop):Prop
 | mk (a b m:_) (hh:d=.lst [.int a,.int b]∧ds=[.int m]∧iw a b∧0 < m∧Builtin.Int.intBits m≤8000∧∀ a' b' r,iw a' b'→0≤r→r < m→R (.int r) (.lst [.int a',.int b']))
theorem eL:∀ d ds R,d7 d ds R→ds.length + 1=2:=fun _ _ _ ⟨_,_,_,_,e,_⟩=>by rw [e];rfl
theorem mV {a m:Int} (ha:0≤a) (hm:0 < m):0≤a.fdiv m:=by rw [Int.fdiv_eq_ediv_of_nonneg _ (by omega)];exact Int.ediv_nonneg ha (by omega)
theorem ck:au ["_law_purse_here","_law_many","_law_at","_law_found"] ["_law_purse_here","_law_many"] (ah s__law_take):=by walk_at "sc"
theorem aT (Z:Zz):Z.C 1 "_law_take" ["_law_purse_here","_law_many"] (spO Z.K d7):=by
 refine fn_O Z.d__law_take ck eL fun fa cdv A outer s H E oa d0 ds R hr h=>?_
 have hU:=hr.units
 refine⟨_,(af (aw 2 ck.nd (iy yf rfl Z.z_int yk (ae (fe (iE hU) (eF 0 ag (fun _ _=>rfl)) ag (aH _)) ak))) (af (aw 3 ck.nd (av b5 (eF 0 (am 2) (fun _ _=>rfl)) (am 1))) (af (gB 0 (av bY (eF 0 (am 2) (fun _ _=>rfl)) (am 1)) (am 2)) (aj (ay (am 3)))))),?_⟩
 obtain ⟨a,b,m,rfl,rfl,pu,hm,bm,q⟩:=h
 walk_at "rd"
 have cf:∀ x:Int,CFd x m:=fun x=>⟨by omega,ny bm (Nat.le_refl _)⟩
 have m0:∀ x:Int,CNz x m:=fun x=>cnz (by omega)
 by_cases ha:a=0
 ·simp only [if_pos ha]
  walk_at "rd"
  refine⟨m0 b,cf b,1,rfl,?_⟩
  exact q _ _ _ ⟨pu.a0,mV pu.b0 hm,pu.ab,intBits_fdiv_le pu.bb⟩ (Int.fmod_nonneg_of_pos _ hm) (Int.fmod_lt_of_pos _ hm)
 ·simp only [if_neg ha]
  walk_at "rd"
  refine⟨m0 a,cf a,0,rfl,?_⟩
  exact q _ _ _ ⟨mV pu.a0 hm,pu.b0,intBits_fdiv_le pu.ab,pu.bb⟩ (Int.fmod_nonneg_of_pos _ hm) (Int.fmod_lt_of_pos _ hm)
inductive cP (d:D) (ds:List D) (R:D→D→Prop):Prop
 | mk (a b:_) (hh:d=.lst [.int a,.int b]∧ds=[]∧iw a b∧∀ a' b' r,iw a' b'→Builtin.Int.intBits r≤200→R (.int r) (.lst [.int a',.int b']))
theorem dm:∀ d ds R,cP d ds R→ds.length + 1=1:=fun _ _ _ ⟨_,_,_,e,_⟩=>by rw [e];rfl
theorem gF {α:Type} {xs:List α} {k:Int} (h0:0≤k) (h:k < xs.length):∃ x∈xs,yN xs k=some x:=by
 unfold yN ixN
 rw [if_pos h0,if_pos h]
 have:k.toNat < xs.length:=by omega
 exact⟨xs[k.toNat],List.getElem_mem _,by show xs[k.toNat]?=_;rw [List.getElem?_eq_getElem this]⟩
theorem pP:CPow 10 59:=⟨by decide,by decide,by decide⟩
theorem fB:au ["_law_purse_here"] ["_law_purse_here"] (ah s__law_weight):=by walk_at "sc"
theorem bJ (Z:Zz):Z.C 2 "_law_weight" ["_law_purse_here"] (spO Z.K cP):=by
 refine fn_O Z.d__law_weight fB dm fun fa cdv A outer s H E oa d0 ds R hr h=>?_
 have hU:=hr.units
 refine⟨_,(af (bH (aK o_lt (bE 0 (aT Z) (rm hr) rfl (ae ag ak)) ag (aH _)) (aj (ay (dw cZ (cy (ae ag (ae ag (ae (fu fH ag) (ae ag (ae (fu fH ag) (ae ag (ae (fu fH ag) (ae ag (ae ag (ae ag ak))))))))))) (bE 0 (aT Z) (rm hr) rfl (ae ag ak)) (fun _ _=>rfl)))) aF) (aj (ay (av w4 (bE 0 (aT Z) (rm hr) rfl (ae (av bQ (av dP ag (av sY ag ag)) ag) ak)) (av sY ag ag))))),?_⟩
 obtain ⟨a,b,rfl,rfl,pu,q⟩:=h
 walk_at "rd"
 refine⟨a,b,6,rfl,rfl,pu,by decide,by decide,fun a1 b1 r pu1 r0 r1=>?_⟩
 walk_at "rd"
 refine ij (fun c=>?_) (fun c=>?_)
 ·refine⟨by decide,a1,b1,10,rfl,rfl,pu1,by decide,by decide,fun a2 b2 r2 pu2 s0 s1=>?_⟩
  walk_at "rd"
  obtain ⟨x,hx,e⟩:=gF (xs:=[D.int 0,D.int 1,D.int (-1),D.int 2,D.int (-2),D.int 3,D.int (-3),D.int 0,D.int 5,D.int 0]) s0 (by show r2 < 10;exact s1)
  have hr:∃ r:Int,x=.int r∧ib r≤200:=by
   simp only [List.mem_cons,List.not_mem_nil,or_false] at hx
   rcases hx with rfl | rfl | rfl | rfl | rfl | rfl | rfl | rfl | rfl | rfl<;>exact⟨_,rfl,by decide⟩
  obtain ⟨r,rfl,br⟩:=hr
  refine yJ.of e ?_
  walk_at "rd"
  exact q _ _ _ pu2 br
 ·have e59:(10:Int) ^ Int.toNat 59=100000000000000000000000000000000000000000000000000000000000:=by decide +kernel
  rw [e59]
  refine⟨pP,IntMulOk.of_left (by decide),a1,b1,_,rfl,rfl,pu1,by decide,intBits_le_iff.mpr (Nat.lt_of_lt_of_le (by decide +kernel:(2 * 100000000000000000000000000000000000000000000000000000000000 + 1:Int).natAbs < 2 ^ 200) (Nat.pow_le_pow_right (by decide) (by decide))),fun a2 b2 r2 pu2 s0 s1=>?_⟩
  walk_at "rd"
  refine⟨pP,q _ _ _ pu2 (intBits_le_iff.mpr ?_)⟩
  rw [show (2:Nat) ^ 200=1606938044258990275541962092341162602522202993782792835301376 by decide +kernel]
  omega
structure yl (names:List Str):Prop where
 nd:names.Nodup
 len:names.length≤4
 pos:0 < names.length
 srt:Srt names
 one:∀ n∈names,n.length≤100
def ltr (i:Int):Str:=⟨#[97 + i.toNat]⟩
theorem vZ:∀ i:Fin 26,yN (PySem.Str.cps "abcdefghijklmnopqrstuvwxyz").toList (i.val:Int)=some (97 + i.val):=by decide +kernel
theorem uw {i:Int} (h0:0≤i) (h1:i < 26):yN (PySem.Str.cps "abcdefghijklmnopqrstuvwxyz").toList i=some (97 + i.toNat):=by
 have:=vZ ⟨i.toNat,by omega⟩
 simp only at this
 rw [show ((i.toNat:Nat):Int)=i by omega] at this
 exact this
inductive dD (ds:List D) (R:D→Prop):Prop
 | mk (c:_) (hh:ds=[.int c]∧Builtin.Int.intBits c≤1048576∧∀ names,yl names→R (.lst (names.map D.str)))
theorem dR:∀ ds R,dD ds R→ds.length=1:=fun _ _ ⟨_,e,_⟩=>by rw [e];rfl
theorem sV {i j:Int} (h0:0≤i) (h1:0≤j) (e:ltr i=ltr j):i=j:=by
 unfold ltr at e
 simp only [Str.mk.injEq,Array.mk.injEq,List.cons.injEq,and_true] at e
 omega
theorem eU {α:Type} {n:Nat} {h:Nat→α} (inj:∀ i j,i < j→j < n→h i≠h j):((List.range n).map h).Nodup:=by
 refine List.pairwise_map.mpr ?_
 have:=List.pairwise_lt_range (n:=n)
 refine List.Pairwise.imp_of_mem ?_ this
 intro a b ha hb hab
 exact inj a b hab (List.mem_range.mp hb)
theorem bU:au ["_law_cell_here","_law_letters","_law_many"] ["_law_cell_here"] (ah s__law_names):=by walk_at "sc"
theorem fD (Z:Zz):Z.C 1 "_law_names" ["_law_cell_here"] (yQ Z.K dD):=by
 refine iI Z.d__law_names bU dR fun fa cdv A outer s H E ds R hr h=>?_
 have hU:=hr.units
 refine⟨_,(af (aw 1 bU.nd bB) (af (aw 2 bU.nd (av bQ ag (av b5 (av bY (am 0) ag) ag))) (aj (ay (bC (f6 rfl) rfl Z.z_sorted gn (ae (eG ["_law_k"] [(1,"_law_letters"),(0,"_law_cell_here")] rfl rfl (by decide +kernel) rfl (by decide +kernel) (fO ⟨rfl,rfl,trivial⟩) (fun _=>g4 rfl) (dr ⟨⟨rfl,rfl,.inl rfl⟩,⟨rfl,rfl,.inl rfl⟩,trivial⟩) (pe rfl Z.z_range (ae (am 2) ak)) fun _ _ _ _ _=>⟨(aE 0 (show List.Nodup (["_law_k","_law_letters","_law_cell_here"]:List Str) by decide +kernel)),k7,(dw cZ (am 1) (av b5 (av bQ (av b5 (am 2) ag) (av dP (av bQ ag (av dP (av b5 (av bY (am 2) ag) ag) ag)) (am 0))) ag) (fun _ _=>rfl))⟩) ak)))))),?_⟩
 obtain ⟨c,rfl,hc,q⟩:=h
 walk_at "rd"
 have a0:=Int.fmod_nonneg_of_pos c (b:=26) (by decide)
 have a1:=Int.fmod_lt_of_pos c (b:=26) (by decide)
 have m0:=Int.fmod_nonneg_of_pos (c.fdiv 26) (b:=4) (by decide)
 have m1:=Int.fmod_lt_of_pos (c.fdiv 26) (b:=4) (by decide)
 have t0:=Int.fmod_nonneg_of_pos (c.fdiv 104) (b:=3) (by decide)
 have t1:=Int.fmod_lt_of_pos (c.fdiv 104) (b:=3) (by decide)
 refine⟨nF (by decide) (by decide +kernel),cnz (by decide),by omega,by omega,by rw [List.length_map,List.length_range];omega,?_⟩
 generalize c.fmod 26=a at a0 a1 ⊢
 generalize (c.fdiv 26).fmod 4=m at m0 m1 ⊢
 generalize (c.fdiv 104).fmod 3=t at t0 t1 ⊢
 let g:Int→Int:=fun k=>(a + (5 + t * 2) * k).fmod 26
 have g0:∀ k,0≤g k:=fun k=>Int.fmod_nonneg_of_pos _ (by decide)
 have g1:∀ k,g k < 26:=fun k=>Int.fmod_lt_of_pos _ (by decide)
 have ht:t=0∨t=1∨t=2:=by omega
 refine⟨fun d=>match d with | .int k=>some (.str (ltr (g k))) | _=>none,fun x hx=>?_,(List.range (1 + m).toNat).map fun k:Nat=>ltr (g k),?_,?_,fun ss' hp hs=>q ss' ⟨?_,?_,?_,hs,fun n hn=>?_⟩⟩
 ·obtain ⟨k,hk,rfl⟩:=List.mem_map.mp hx
  refine⟨cnz (by decide),nF (by decide) (by decide +kernel),cnz (by decide),IntMulOk.of_right (by decide),?_⟩
  walk_at "rd"
  have hk:=List.mem_range.mp hk
  refine⟨mo2 (ug (by omega) (by omega)) (ug (by omega) (by omega)),cnz (by decide),by decide,97 + (g k).toNat,uw (g0 k) (g1 k),rfl⟩
 ·exact (bL _ (fun i:Nat=>D.int i) (fun k:Nat=>D.str (ltr (g k))) _ (by intro _ _;rfl)).trans (by rw [List.map_map];rfl)
 ·simp only [List.length_map,List.length_range];omega
 ·refine hp.nodup_iff.mpr (eU fun i j hij hj e=>?_)
  have e:=sV (g0 i) (g0 j) e
  have d1:=Int.fmod_def (a + (5 + t * 2) * (i:Int)) 26
  have d2:=Int.fmod_def (a + (5 + t * 2) * (j:Int)) 26
  have e:(a + (5 + t * 2) * (i:Int)).fmod 26=(a + (5 + t * 2) * (j:Int)).fmod 26:=e
  rw [d1,d2] at e
  have hj4:j < 4:=by omega
  have hi4:i < 4:=by omega
  rcases ht with rfl | rfl | rfl<;>omega
 ·rw [hp.length_eq,List.length_map,List.length_range];omega
 ·rw [hp.length_eq,List.length_map,List.length_range];omega
 ·obtain ⟨k,_,rfl⟩:=List.mem_map.mp (hp.mem_iff.mp hn)
  show 1≤100
  decide
inductive du (ds:List D) (R:D→Prop):Prop
 | mk (c names:_) (hh:ds=[.int c,.lst (names.map D.str)]∧Builtin.Int.intBits c≤1048576∧names.length≤100∧∀ k ts b,nV names ts→(∀ t∈ts,ib t.2≤200)→Builtin.Int.intBits b≤200→R (oP k ts b))
theorem fi:∀ ds R,du ds R→ds.length=2:=fun _ _ ⟨_,_,e,_⟩=>by rw [e];rfl
theorem ba:au ["_law_cell_here","_law_names_here","_law_purse_here","_law_terms","_law_name","_law_weight_here","_law_bound"] ["_law_cell_here","_law_names_here"] (ah s__law_row):=by walk_at "sc"
theorem cc (Z:Zz):Z.C 3 "_law_row" ["_law_cell_here","_law_names_here"] (yQ Z.K du):=by
 refine iI Z.d__law_row ba fi fun fa cdv A outer s H E ds R hr h=>?_
 have hU:=hr.units
 refine⟨_,(af (kJ 2 ba.nd (cA Z) (rm hr) rfl (ae (am 0) ak)) (af (mT 3 ba.nd ak) (af (dl PassesOwn.never rfl (am 1) (aE 4 ba.nd) (af (aw 5 ba.nd (bE 2 (bJ Z) (rm hr) rfl ak)) (aj (bH (aK (ud hU) (am 5) ag (aH _)) (aj (fX 3 (cG (ae (am 4) (ae (am 5) ak))))) aF)))) (af (aw 6 ba.nd (bE 2 (bJ Z) (rm hr) rfl ak)) (aj (ay (cG (ae (dw cZ (cy (ae bB (ae bB ak))) (bE 2 (aT Z) (rm hr) rfl (ae ag ak)) (fun _ _=>rfl)) (ae (m9 3 rfl Z.z_tuple sB) (ae (am 6) ak)))))))))),?_⟩
 obtain ⟨c,names,rfl,hc,hl,q⟩:=h
 walk_at "rd"
 refine⟨c,rfl,hc,fun a b pu=>?_⟩
 walk_at "rd"
 intro pa ta
 walk_at "rd"
 simp only [tL]
 walk_at "rd"
 refine⟨fun i δ=>∃ a b ts x y z,δ=[.dat (.int c),.dat (.lst (names.map D.str)),.own pa (.lst [.int a,.int b]),.own ta (.lst (ts.map tmD)),x,y,z]∧iw a b∧ts.length≤i∧nV (names.take i) ts∧∀ t∈ts,ib t.2≤200,⟨a,b,[],_,_,_,rfl,pu,Nat.le_refl _,⟨by simp,fun _ h=>(nomatch h),fun _ h=>(nomatch h)⟩,fun _ h=>(nomatch h)⟩,?_,?_⟩
 ·rintro i d δ hd ⟨a,b,ts,x,y,z,rfl,pu,hl2,tm,tb⟩
  rw [List.getElem?_map] at hd
  cases hn:names[i]? with
  | none=>rw [hn] at hd;cases hd
  | some n =>
   rw [hn] at hd
   cases hd
   have hil:i < names.length:=(List.getElem?_eq_some_iff.mp hn).1
   walk_at "rd"
   refine⟨a,b,rfl,rfl,pu,fun a1 b1 r pu1 br=>?_⟩
   walk_at "rd"
   have htk:names.take (i + 1)=names.take i++[n]:=by rw [List.take_add_one,hn];rfl
   refine ij (fun c0=>⟨by rw [List.length_map];omega,ts++[(n,r)],by rw [List.map_append];rfl,pu1,by rw [List.length_append,List.length_singleton];omega,?_,fun t ht=>(List.mem_append.mp ht).elim (tb t) fun z=>by rw [List.mem_singleton.mp z];exact br⟩) (fun c0=>⟨ts,rfl,pu1,by omega,?_,tb⟩)
   ·rw [htk]
    refine⟨by rw [List.map_append];exact tm.sub.append (List.Sublist.refl _),fun t ht=>?_,fun t ht=>?_⟩
    ·rcases List.mem_append.mp ht with ht | ht
     ·exact tm.nz t ht
     ·rw [List.mem_singleton.mp ht];exact c0
    ·rcases List.mem_append.mp ht with ht | ht
     ·exact tm.bits t ht
     ·rw [List.mem_singleton.mp ht];exact Nat.le_trans br (by decide)
   ·rw [htk]
    exact⟨tm.sub.trans (List.sublist_append_left _ _),tm.nz,tm.bits⟩
 ·rintro δ ⟨a,b,ts,x,y,z,rfl,pu,hl2,tm,tb⟩
  walk_at "rd"
  rw [List.length_map,List.take_length] at tm
  refine⟨a,b,rfl,rfl,pu,fun a1 b1 r pu1 br=>?_⟩
  refine⟨a1,b1,2,rfl,rfl,pu1,by decide,by decide,fun a2 b2 r2 pu2 s0 s1=>?_⟩
  have hr2:r2=0∨r2=1:=by omega
  rcases hr2 with rfl | rfl
  ·walk_at "rd"
   exact q .least ts r tm tb br
  ·walk_at "rd"
   exact q .more ts r tm tb br
def yG.rows:yG→Nat
 | .row _ _ _=>1
 | .nt s=>s.rows
 | .bo s t=>s.rows + t.rows
 | .ei s t=>s.rows + t.rows
structure cW (names:List Str) (ss:List yG) (n:Nat):Prop where
 ok:∀ s∈ss,s.ok names
 dep:(ss.map yG.dep).sum≤n
 rws:(ss.map yG.rows).sum≤n
 pos:0 < ss.length
theorem iZ {names:List Str} {k:Kd} {ts:List (Str×Int)} {b:Int} (tm:nV names ts) (hb:Builtin.Int.intBits b≤200):yG.ok names (.row k ts b):=⟨tm,Nat.le_trans hb (by decide)⟩
theorem gu {α:Type} {l:List α} (h:0 < l.length):∃ i x,l=i++[x]:=by
 have:l≠[]:=by intro e;rw [e] at h;cases h
 exact⟨l.dropLast,l.getLast this,(List.dropLast_concat_getLast this).symm⟩
theorem gv (n:Nat):ixN (n + 1) (-1)=some n:=by
 unfold ixN
 rw [if_neg (by omega),if_pos (by omega)]
 congr 1
 omega
theorem gz {α:Type} (l:List α) (x y:α):(l++[x]).set l.length y=l++[y]:=by
 rw [List.set_append_right _ _ (Nat.le_refl _),Nat.sub_self];rfl
theorem mz {x y:D} {c:Int}:∃ v,yN [x,y] (c.fmod 2)=some v∧(v=x∨v=y):=by
 have h0:=Int.fmod_nonneg_of_pos c (b:=2) (by decide)
 have h1:=Int.fmod_lt_of_pos c (b:=2) (by decide)
 have h:c.fmod 2=0∨c.fmod 2=1:=by omega
 rcases h with h | h
 ·rw [h];exact⟨x,at0,.inl rfl⟩
 ·rw [h];exact⟨y,at1,.inr rfl⟩
theorem cV (l:List yG) (x:yG):((l++[x]).map yG.dep).sum=(l.map yG.dep).sum + x.dep:=by
 rw [List.map_append,List.sum_append];show _ + (x.dep + 0)=_;rfl
theorem cJ (l:List yG) (x:yG):((l++[x]).map yG.rows).sum=(l.map yG.rows).sum + x.rows:=by
 rw [List.map_append,List.sum_append];show _ + (x.rows + 0)=_;rfl
theorem m8:∀ l:List yG,l.length≤(l.map yG.dep).sum
 | []=>Nat.le_refl _
 | x :: l=>by
  have:=m8 l
  have:=x.dep_pos
  show l.length + 1≤x.dep + (l.map yG.dep).sum
  omega
theorem cW.len {names:List Str} {ss:List yG} {n:Nat} (h:cW names ss n):ss.length≤n:=Nat.le_trans (m8 ss) h.dep
theorem cW.not {names:List Str} {l:List yG} {x:yG} {n:Nat} (h:cW names (l++[x]) n):cW names (l++[.nt x]) (n + 1):=by
 refine⟨fun s hs=>?_,?_,?_,by simp⟩
 ·rcases List.mem_append.mp hs with hs | hs
  ·exact h.ok s (List.mem_append_left _ hs)
  ·rw [List.mem_singleton.mp hs]
   exact h.ok x (by simp)
 ·have:=h.dep
  rw [cV] at this ⊢
  show _ + (x.dep + 1)≤_
  omega
 ·have:=h.rws
  rw [cJ] at this ⊢
  show _ + x.rows≤_
  omega
theorem cW.row {names:List Str} {l:List yG} {x:yG} {n:Nat} (h:cW names l n) (o:x.ok names) (d:x.dep=1) (r:x.rows=1):cW names (l++[x]) (n + 1):=by
 refine⟨fun s hs=>?_,?_,?_,by simp⟩
 ·rcases List.mem_append.mp hs with hs | hs
  ·exact h.ok s hs
  ·rw [List.mem_singleton.mp hs];exact o
 ·have:=h.dep
  rw [cV]
  omega
 ·have:=h.rws
  rw [cJ]
  omega
theorem cW.join {names:List Str} {l:List yG} {x y z:yG} {n:Nat} (h:cW names (l++[x]++[y]) n) (hz:z=.bo x y∨z=.ei x y):cW names (l++[z]) n:=by
 have ox:=h.ok x (by simp)
 have oy:=h.ok y (by simp)
 have px:=x.dep_pos
 have py:=y.dep_pos
 have dz:z.dep≤x.dep + y.dep:=by
  rcases hz with rfl | rfl
  ·show max x.dep y.dep + 1≤_;omega
  ·show max x.dep y.dep + 1≤_;omega
 have rz:z.rows=x.rows + y.rows:=by
  rcases hz with rfl | rfl
  ·rfl
  ·rfl
 have oz:z.ok names:=by
  rcases hz with rfl | rfl
  ·exact⟨ox,oy⟩
  ·exact⟨ox,oy⟩
 refine⟨fun s hs=>?_,?_,?_,by simp⟩
 ·rcases List.mem_append.mp hs with hs | hs
  ·exact h.ok s (by simp [hs])
  ·rw [List.mem_singleton.mp hs];exact oz
 ·have:=h.dep
  rw [cV,cV] at this
  rw [cV]
  omega
 ·have:=h.rws
  rw [cJ,cJ] at this
  rw [cJ]
  omega
theorem pE {v:D} {x y:yG} (h:v=.str "both"∨v=.str "either"):∃ z:yG,(z=.bo x y∨z=.ei x y)∧D.tup [v,x.D,y.D]=z.D:=by
 rcases h with rfl | rfl
 ·exact⟨.bo x y,.inl rfl,rfl⟩
 ·exact⟨.ei x y,.inr rfl,rfl⟩
inductive ee (ds:List D) (R:D→Prop):Prop
 | mk (cs:List Int) (names:List Str) (hh:ds=[.lst (cs.map D.int),.lst (names.map D.str)]∧cs.length≤58∧(∀ c∈cs,Builtin.Int.intBits c≤1048576)∧names.length≤60∧∀ s:yG,s.ok names→s.dep≤cs.length + 1→s.rows≤cs.length + 1→R s.D)
theorem e8:∀ ds R,ee ds R→ds.length=2:=fun _ _ ⟨_,_,e,_⟩=>by rw [e];rfl
theorem bu:au ["_law_cells","_law_names_here","_law_row_here","_law_cell_here","_law_last"] ["_law_cells","_law_names_here"] (ah s__law_wild):=by walk_at "sc"
theorem gC (Z:Zz):Z.C 4 "_law_wild" ["_law_cells","_law_names_here"] (yQ Z.K ee):=by
 refine iI Z.d__law_wild bu e8 fun fa cdv A outer s H E ds R hr h=>?_
 have hU:=hr.units
 refine⟨_,(af (mT 2 bu.nd (ae (aG (cc Z) (rm hr) rfl (ae (bC sO rfl Z.z_len ko (ae (am 0) ak)) (ae (am 1) ak))) ak)) (af (dl PassesOwn.never rfl (am 0) (aE 3 bu.nd) (aj (bH (aK (iE hU) (av b5 (am 3) ag) ag (aH _)) (aj (gB 2 (cG (ae bB (ae (eF 2 (fu fH ag) (fun _ _=>rfl)) ak))) (fu fH ag))) (aj (bH (DW.dt (vB (aK (iE hU) (av b5 (am 3) ag) ag (aH _)) (rP (aK o_gt (iH 2 rfl Z.z_len ko) ag (aH _))))) (af (kU 2 4 bu.nd) (aj (gB 2 (cG (ae (dw cZ (cy (ae bB (ae bB ak))) (av b5 (av bY (am 3) ag) ag) (fun _ _=>rfl)) (ae (eF 2 (fu fH ag) (fun _ _=>rfl)) (ae (am 4) ak)))) (fu fH ag)))) (aj (fX 2 (aG (cc Z) (rm hr) rfl (ae (av bY (am 3) ag) (ae (am 1) ak)))))))))) (af (f8 PassesOwn.never (aK o_gt (iH 2 rfl Z.z_len ko) ag (aH _)) (af (kU 2 4 bu.nd) (aj (gB 2 (cG (ae (dw cZ (cy (ae bB (ae bB ak))) (av b5 (iH 2 rfl Z.z_len ko) ag) (fun _ _=>rfl)) (ae (eF 2 (fu fH ag) (fun _ _=>rfl)) (ae (am 4) ak)))) (fu fH ag))))) (aj (ay (eF 2 ag (fun _ _=>rfl))))))),?_⟩
 obtain ⟨cs,names,rfl,hl,hb,hn,q⟩:=h
 refine ao fun K1 hK1=>?_
 walk_at "rd"
 rw [List.length_map]
 refine⟨_,names,rfl,Nat.le_trans (ug (by omega) (by omega)) (by decide),by omega,fun k ts b tm _ bb=>?_⟩
 walk_at "rd"
 intro a
 walk_at "rd"
 rw [hK1]
 refine ao fun K2 hK2=>?_
 refine cN fun F N hF hN=>?_
 walk_at "rd"
 refine⟨fun i δ=>∃ ss x y,δ=[.dat (.lst (cs.map D.int)),.dat (.lst (names.map D.str)),.own a (.lst (ss.map yG.D)),x,y]∧cW names ss (i + 1),⟨[.row k ts b],_,_,rfl,⟨fun s hs=>by rw [List.mem_singleton.mp hs];exact iZ tm bb,by show 1 + 0≤0 + 1;decide,by show 1 + 0≤0 + 1;decide,Nat.one_pos⟩⟩,?_,?_⟩
 ·rintro i d δ hd ⟨ss,x,y,rfl,hs⟩
  rw [List.getElem?_map] at hd
  cases hc:cs[i]? with
  | none=>rw [hc] at hd;cases hd
  | some c =>
   rw [hc] at hd
   cases hd
   have hcm:=hb c (List.mem_of_getElem? hc)
   have hil:=vk hc
   obtain ⟨ini,lst,rfl⟩:=gu hs.pos
   rw [List.map_append,List.map_singleton]
   rw [hF]
   show cC _ _ _ _
   walk_at "rd"
   have ln:=hs.len
   rw [List.length_append,List.length_singleton] at ln
   have app:∀ {Q:D→Prop},(∀ s:yG,(ini.map yG.D++[lst.D]).length < 9000∧cW names (ini++[lst]++[s]) (i + 1 + 1)→Q s.D)→CFd c 4∧du [D.int (c.fdiv 4),D.lst (names.map D.str)] Q:=fun {Q} h=>⟨nF (by decide) (by decide +kernel),_,names,rfl,intBits_fdiv_le hcm,by omega,fun k ts b tm _ bb=>h (.row k ts b) ⟨by rw [List.length_append,List.length_map,List.length_singleton];omega,hs.row (iZ tm bb) rfl rfl⟩⟩
   refine⟨cnz (by decide),ij (fun _=>?_) (fun _=>⟨cnz (by decide),ij (fun _=>ij (fun h1=>?_) (fun _=>?_)) (fun _=>?_)⟩)⟩
   ·refine yJ.of atm1 ?_
    refine⟨ini.length,by rw [List.length_append,List.length_map,List.length_singleton];exact gv _,ini++[.nt lst],?_,hs.not⟩
    rw [show ini.length=(ini.map yG.D).length by rw [List.length_map],gz,List.map_append];rfl
   ·rw [List.length_append,List.length_map,List.length_singleton] at h1
    obtain ⟨in2,x2,rfl⟩:=gu (l:=ini) (by omega)
    obtain ⟨v,hv,hvv⟩:=mz (x:=D.str (Str.ofString "both")) (y:=D.str (Str.ofString "either")) (c:=c.fdiv 4)
    obtain ⟨z,hz,ez⟩:=pE (x:=x2) (y:=lst) hvv
    refine⟨(in2++[x2]).map yG.D,lst.D,rfl,nF (by decide) (by decide +kernel),cnz (by decide),yJ.of hv ?_⟩
    rw [List.map_append,List.map_singleton]
    walk_at "rd"
    refine yJ.of atm1 ?_
    walk_at "rd"
    refine⟨in2.length,by rw [List.length_append,List.length_map,List.length_singleton];exact gv _,in2++[z],?_,?_⟩
    ·rw [ez,List.map_append,show in2.length=(in2.map yG.D).length by rw [List.length_map]]
     exact gz _ _ _
    ·have:=hs.join hz
     exact⟨this.ok,Nat.le_succ_of_le this.dep,Nat.le_succ_of_le this.rws,this.pos⟩
   ·refine app fun s hs'=>?_
    walk_at "rd"
    exact⟨hs'.1,_,by rw [List.map_append,List.map_append];rfl,hs'.2⟩
   ·refine app fun s hs'=>?_
    walk_at "rd"
    exact⟨hs'.1,_,by rw [List.map_append,List.map_append];rfl,hs'.2⟩
 ·rintro δ ⟨ss,x,y,rfl,hs⟩
  rw [List.length_map] at hs
  rw [hN,hK2]
  dsimp only
  refine ao fun K3 hK3=>?_
  simp only [pq]
  refine⟨fun δ=>∃ ss x y,δ=[.dat (.lst (cs.map D.int)),.dat (.lst (names.map D.str)),.own a (.lst (ss.map yG.D)),x,y]∧cW names ss (cs.length + 1),fun δ=>match δ with | [_,_,.own _ (.lst l),_,_]=>l.length | _=>0,⟨ss,x,y,rfl,hs⟩,?_⟩
  rintro δ ⟨ss,x,y,rfl,hs⟩
  obtain ⟨ini,lst,rfl⟩:=gu hs.pos
  rw [List.map_append,List.map_singleton]
  walk_at "rd"
  refine ij (fun h1=>?_) (fun h1=>?_)
  ·rw [List.length_append,List.length_map,List.length_singleton] at h1
   obtain ⟨in2,x2,rfl⟩:=gu (l:=ini) (by omega)
   obtain ⟨v,hv,hvv⟩:=mz (x:=D.str (Str.ofString "either")) (y:=D.str (Str.ofString "both")) (c:=(((in2++[x2]).map yG.D).length:Int))
   obtain ⟨z,hz,ez⟩:=pE (x:=x2) (y:=lst) hvv.symm
   refine⟨(in2++[x2]).map yG.D,lst.D,rfl,cnz (by decide),yJ.of hv ?_⟩
   rw [List.map_append,List.map_singleton]
   walk_at "rd"
   refine yJ.of atm1 ?_
   walk_at "rd"
   refine⟨in2.length,by rw [List.length_append,List.length_map,List.length_singleton];exact gv _,⟨in2++[z],?_,hs.join hz⟩,?_⟩
   ·rw [ez,List.map_append,show in2.length=(in2.map yG.D).length by rw [List.length_map]]
    exact gz _ _ _
   ·simp only [List.length_set,List.length_append,List.length_singleton];omega
  ·rw [List.length_append,List.length_map,List.length_singleton] at h1
   have e:ini=[]:=List.length_eq_zero_iff.mp (by omega)
   subst e
   rw [hK3]
   walk_at "rd"
   have h2:=hs.dep
   have h3:=hs.rws
   have e2:(([]++[lst]:List yG).map yG.dep).sum=lst.dep + 0:=rfl
   have e3:(([]++[lst]:List yG).map yG.rows).sum=lst.rows + 0:=rfl
   exact q lst (hs.ok lst (by simp)) (by omega) (by omega)
structure Pd (names:List Str) (ps:List (Int×Int)):Prop where
 len:ps.length=names.length
 ok:∀ p∈ps,Low p.1 p.2∧ib p.1≤200∧ib p.2≤30
inductive dG (ds:List D) (R:D→Prop):Prop
 | mk (c:Int) (names:List Str) (hh:ds=[.int c,.lst (names.map D.str)]∧ib c≤1048576∧names.length≤100∧names.Nodup∧∀ ps,Pd names ps→R (.dct names (ps.map frD)))
theorem dQ:∀ ds R,dG ds R→ds.length=2:=fun _ _ ⟨_,_,e,_⟩=>by rw [e];rfl
theorem aC:au ["_law_cell_here","_law_names_here","_law_purse_here","_law_point_here","_law_name","_law_top","_law_bottom","_law_share"] ["_law_cell_here","_law_names_here"] (ah s__law_point):=by walk_at "sc"
theorem fj (Z:Zz):Z.C 3 "_law_point" ["_law_cell_here","_law_names_here"] (spN Z.K dG):=by
 refine fn_N Z.d__law_point aC dQ fun fa cdv A outer s H E ds R hr h=>?_
 have hU:=hr.units
 refine⟨_,(af (kJ 2 aC.nd (cA Z) (rm hr) rfl (ae (am 0) ak)) (af (iG 3 aC.nd) (af (dl PassesOwn.never rfl (am 1) (aE 4 aC.nd) (af (aw 5 aC.nd (bE 2 (bJ Z) (rm hr) rfl ak)) (af (aw 6 aC.nd (dw cZ (cy (ae ag (ae ag (ae ag (ae ag (ae ag ak)))))) (bE 2 (aT Z) (rm hr) rfl (ae ag ak)) (fun _ _=>rfl))) (af (bH (aK (iE hU) (am 6) ag (aH _)) (aj (aw 6 aC.nd (av bQ ag (bE 2 (aT Z) (rm hr) rfl (ae (av sY ag ag) ak))))) aF) (af (aw 7 aC.nd (aG (eJ Z) (rm hr) rfl (ae (am 5) (ae (am 6) ak)))) (aj (gm 3 hU (cG (ae (av bY (am 5) (am 7)) (ae (av bY (am 6) (am 7)) ak))) (am 4)))))))) (aj (tw 3))))),?_⟩
 obtain ⟨c,names,rfl,hc,hl,nd,q⟩:=h
 refine ao fun K1 hK1=>?_
 walk_at "rd"
 refine⟨c,rfl,hc,fun a b pu=>?_⟩
 walk_at "rd"
 intro pa
 walk_at "rd"
 rw [hK1]
 refine ao fun K2 hK2=>?_
 walk_at "rd"
 intro ta
 walk_at "rd"
 rw [hK2]
 refine ao fun K3 hK3=>?_
 refine cN fun F N hF hN=>?_
 walk_at "rd"
 refine⟨fun i δ=>∃ a b ps x y z u,δ=[.dat (.int c),.dat (.lst (names.map D.str)),.own pa (.lst [.int a,.int b]),.own ta (.dct (names.take i) (ps.map frD)),x,y,z,u]∧iw a b∧Pd (names.take i) ps,⟨a,b,[],_,_,_,_,rfl,pu,⟨rfl,fun _ h=>nomatch h⟩⟩,?_,?_⟩
 ·rintro i d δ hd ⟨a,b,ps,x,y,z,u,rfl,pu,hp⟩
  obtain ⟨n,hn,rfl⟩:=eT hd
  have hnt:=gr nd hn
  rw [hF]
  show cC _ _ _ _
  refine jw fun K4 hK4=>?_
  walk_at "rd"
  refine⟨a,b,rfl,rfl,pu,fun a1 b1 r pu1 br=>?_⟩
  walk_at "rd"
  rw [hK4]
  refine ao fun K5 hK5=>?_
  walk_at "rd"
  refine⟨by decide,a1,b1,5,rfl,rfl,pu1,by decide,by decide,fun a2 b2 r2 pu2 s0 s1=>?_⟩
  walk_at "rd"
  obtain ⟨x,hx,e⟩:=gF (xs:=[D.int 1,D.int 1,D.int 2,D.int 3,D.int 0]) s0 (by show r2 < 5;exact s1)
  have hr:∃ v:Int,x=.int v∧(v=0∨(0 < v∧ib v≤30)):=by
   simp only [List.mem_cons,List.not_mem_nil,or_false] at hx
   rcases hx with rfl | rfl | rfl | rfl | rfl
   ·exact⟨_,rfl,.inr ⟨by decide,by decide⟩⟩
   ·exact⟨_,rfl,.inr ⟨by decide,by decide⟩⟩
   ·exact⟨_,rfl,.inr ⟨by decide,by decide⟩⟩
   ·exact⟨_,rfl,.inr ⟨by decide,by decide⟩⟩
   ·exact⟨_,rfl,.inl rfl⟩
  obtain ⟨v,rfl,hv⟩:=hr
  refine yJ.of e ?_
  walk_at "rd"
  rw [hK5]
  refine ao fun K6 hK6=>?_
  have go:∀ (bt a3 b3:Int),0 < bt→ib bt≤30→iw a3 b3→K6 [.dat (.int c),.dat (.lst (names.map D.str)),.own pa (.lst [.int a3,.int b3]),.own ta (.dct (names.take i) (ps.map frD)),.dat (.str n),.dat (.int r),.dat (.int bt),u]:=fun bt a3 b3 h0 hb p3=>by
   rw [hK6]
   refine ao fun K7 hK7=>?_
   walk_at "rd"
   refine⟨r,bt,rfl,?_⟩
   walk_at "rd"
   rw [hK7]
   walk_at "rd"
   have hb0:bt≠0:=by omega
   obtain ⟨e1,e2⟩:=lE (t:=r) h0
   have cf:gc r bt≠0∧(gc r bt).natAbs.log2 < 9000:=⟨by have:=ls r hb0;omega,ny (rQ hb0 hb) (by decide)⟩
   refine⟨cf,cf,by rw [List.length_take];omega,by rw [dZ hnt,aP hn],ps++[(mkT r bt,mkB r bt)],?_,p3,?_,fun p hp'=>?_⟩
   ·rw [f9 hnt,e1,e2,List.map_append];rfl
   ·rw [aP hn,List.length_append,List.length_append,hp.len];rfl
   ·rcases List.mem_append.mp hp' with h | h
    ·exact hp.ok p h
    ·rw [List.mem_singleton.mp h]
     exact⟨wt r hb0,nv br,o8 hb⟩
  walk_at "rd"
  refine ij (fun h0=>?_) fun h0=>?_
  ·have e6:(10:Int) ^ Int.toNat 6=1000000:=by decide
   rw [e6]
   refine⟨⟨by decide,by decide,by decide⟩,a2,b2,_,rfl,rfl,pu2,by decide,by decide,fun a3 b3 r3 pu3 u0 u1=>?_⟩
   walk_at "rd"
   exact go _ a3 b3 (by omega) (intBits_le_iff.mpr (by rw [show (2:Nat) ^ 30=1073741824 by decide];omega)) pu3
  ·exact go v a2 b2 (by omega) ((hv.resolve_left h0).2) pu2
 ·rintro δ ⟨a,b,ps,x,y,z,u,rfl,pu,hp⟩
  rw [List.length_map,List.take_length] at hp ⊢
  rw [hN,hK3]
  walk_at "rd"
  exact q ps hp
theorem pv {s:yG} (h:s.isRow=true):∃ k ts b,s=.row k ts b:=by
 cases s with
 | row k ts b=>exact⟨k,ts,b,rfl⟩
 | nt s=>cases h
 | bo s t=>cases h
 | ei s t=>cases h
theorem xx (k:Kd):decide (kdS k∈([Str.ofString "least",Str.ofString "more"]:List Str))=true:=by cases k<;>decide
theorem tT {s:yG} (h:s.isRow=false):decide (s.word∈([Str.ofString "least",Str.ofString "more"]:List Str))=false:=by
 have key:∀ w:Str,(w=Str.ofString "not"∨w=Str.ofString "both"∨w=Str.ofString "either")→decide (w∈([Str.ofString "least",Str.ofString "more"]:List Str))=false:=by
  rintro w (rfl | rfl | rfl)<;>decide
 cases s with
 | row k ts b=>cases h
 | nt s=>exact key _ (.inl rfl)
 | bo s t=>exact key _ (.inr (.inl rfl))
 | ei s t=>exact key _ (.inr (.inr rfl))
theorem nms_subs {s:yG} (h:s.isRow=false):s.nms=s.subs.flatMap yG.nms:=by
 cases s with
 | row k ts b=>cases h
 | nt s=>simp [yG.nms,yG.subs]
 | bo s t=>simp [yG.nms,yG.subs]
 | ei s t=>simp [yG.nms,yG.subs]
inductive aY (n:Nat) (ds:List D) (R:D→Prop):Prop
 | mk (s:yG) (hh:ds=[s.D]∧s.dep≤n∧s.nms.length≤9000∧R (.lst (s.nms.map D.str)))
theorem dX (n:Nat):∀ ds R,aY n ds R→ds.length=1:=fun _ _ ⟨_,e,_⟩=>by rw [e];rfl
theorem dg:∀ ds R,¬ aY 0 ds R:=fun _ _ ⟨s,_,h,_⟩=>by have:=s.dep_pos;omega
theorem bF:au ["_law_saying","_law_found","_law_inner"] ["_law_saying"] (ah s__law_stand):=by walk_at "sc"
theorem eP (Z:Zz) {n:Nat} (gP:Z.C (1 + n) "_law_stand" ["_law_saying"] (yQ Z.K (aY n))):Z.C (1 + n + 1) "_law_stand" ["_law_saying"] (yQ Z.K (aY (n + 1))):=by
 refine iI (k:=1 + n) Z.d__law_stand bF (dX (n + 1)) fun fa cdv A outer s H E ds R hr h=>?_
 have hU:=hr.units
 refine⟨_,(af (bH (aK (o_in hU) (dxi 0) (cy (ae bB (ae bB ak))) rfl) (aj (ay (eG ["_law_name","_law_weight_here"] [] rfl rfl (by decide +kernel) rfl (by decide +kernel) (fO trivial) (fun _=>g4 rfl) (dr trivial) (pz (dxi 0)) fun _ _ _ _ _=>⟨(mv (n:=2) rfl (cp (aE 0 (show List.Nodup (["_law_name","_law_weight_here"]:List Str) by decide +kernel)) (cp (aE 1 (show List.Nodup (["_law_name","_law_weight_here"]:List Str) by decide +kernel)) jf))),k7,(am 0)⟩))) aF) (af (aw 1 bF.nd (cy ak)) (af (iL PassesOwn.never rfl (jF (am 0) (df ag) mi) (aE 2 bF.nd) (aj (aw 1 bF.nd (av bQ (am 1) (aG gP (hr.mono (by omega)) rfl (ae (am 2) ak)))))) (aj (ay (am 1)))))),?_⟩
 obtain ⟨s,rfl,hd,len,q⟩:=h
 refine ao fun K1 hK1=>?_
 cases hr:s.isRow with
 | true =>
  obtain ⟨k,ts,b,rfl⟩:=pv hr
  unfold yG.D oP
  walk_at "rd"
  refine⟨[Str.ofString "least",Str.ofString "more"],rfl,ifp (xx k) ?_⟩
  have tl:ts.length≤9000:=by
   have:((ts.map (·.1)).length)≤9000:=len
   rwa [List.length_map] at this
  refine⟨by rw [List.length_map];exact tl,fun d=>match d with | .tup [.str w,_]=>some (.str w) | _=>none,fun x hx=>?_,?_⟩
  ·obtain ⟨t,ht,rfl⟩:=List.mem_map.mp hx
   exact rfl
  ·rw [bL _ tmD (fun t=>D.str t.1) _ (by intro t _;rfl)]
   have q:R (.lst ((ts.map (·.1)).map D.str)):=q
   rw [List.map_map] at q
   exact q
 | false =>
  rw [yG.D_subs hr]
  walk_at "rd"
  refine⟨[Str.ofString "least",Str.ofString "more"],rfl,ifn (by rw [show id (decide (s.word∈([Str.ofString "least",Str.ofString "more"]:List Str)))=false from tT hr];decide) ?_⟩
  rw [hK1]
  refine ao fun K2 hK2=>?_
  walk_at "rd"
  rw [hK2]
  refine ao fun K3 hK3=>?_
  walk_at "rd"
  simp only [nM]
  walk_at "rd"
  rw [jJ]
  rw [nms_subs hr] at len q
  refine⟨fun z=>by
   have:=z.1
   rw [show (1:Int)=((1:Nat):Int) from rfl,HT.sIx_nat] at this
   omega,fun i δ=>∃ x,δ=[.dat (.tup (.str s.word :: s.subs.map yG.D)),.dat (.lst (((s.subs.take i).flatMap yG.nms).map D.str)),x],⟨_,rfl⟩,?_,?_⟩
  ·rintro i d δ hd' ⟨x,rfl⟩
   rw [List.getElem?_map] at hd'
   cases hu:s.subs[i]? with
   | none=>rw [hu] at hd';cases hd'
   | some u =>
    rw [hu] at hd'
    cases hd'
    have hm:=List.mem_of_getElem? hu
    have dp:=yG.subs_dep hm
    have l1:((s.subs.take i).flatMap yG.nms).length + u.nms.length≤9000:=by
     refine Nat.le_trans ?_ len
     have e:s.subs.flatMap yG.nms=(s.subs.take i).flatMap yG.nms++(u.nms++(s.subs.drop (i + 1)).flatMap yG.nms):=by
      conv=>lhs;rw [← List.take_append_drop (i + 1) s.subs,aP hu]
      rw [List.flatMap_append,List.flatMap_append,List.append_assoc]
      simp
     rw [e,List.length_append,List.length_append]
     omega
    walk_at "rd"
    refine⟨u,rfl,by omega,by omega,?_⟩
    walk_at "rd"
    rw [List.length_map,List.length_map,aP hu,List.flatMap_append,List.map_append]
    refine⟨l1,?_⟩
    simp
  ·rintro δ ⟨x,rfl⟩
   rw [List.length_map,List.take_length,hK3]
   walk_at "rd"
   exact q
theorem fh (Z:Zz):Z.C 61 "_law_stand" ["_law_saying"] (yQ Z.K (aY 60)):=Nat.rec (motive:=fun n=>Z.C (1 + n) "_law_stand" ["_law_saying"] (yQ Z.K (aY n))) (jq Z.d__law_stand _ dg) (fun _=>eP Z) 60
inductive cK (ds:List D) (R:D→Prop):Prop
 | mk (w:Int) (s:yG) (ks:List Str) (ps:List (Int×Int)) (names:List Str) (T κ:Nat) (hh:ds=[.int w,s.D,.dct ks (ps.map frD)]∧(w=0∨w=1∧s.isRow=true)∧s.dep≤60∧s.ok names∧names.length≤60∧names.Nodup∧names.Pairwise leS∧(∀ n∈names,n.length≤100)∧Pt ks ps T∧T≤1000000∧ib (yH (pB ks ps) ks)≤κ∧κ≤7990 ∧
 ((∀ x∈s.nms,x∈ks)→R .non)∧∀ n,n∈s.nms→n∉ks→(∀ m∈s.nms,m∉ks→leS n m)→R (.exn "NoName" "name" (.str n)))
theorem c7:∀ ds R,cK ds R→ds.length=3:=fun _ _ ⟨_,_,_,_,_,_,_,e,_⟩=>by rw [e];rfl
theorem bM:au ["_law_way","_law_saying","_law_point_here","_law_caught_here","_law_e"] ["_law_way","_law_saying","_law_point_here"] (ah s__law_caught):=by walk_at "sc"
theorem eS (Z:Zz):Z.C 65 "_law_caught" ["_law_way","_law_saying","_law_point_here"] (yQ Z.K cK):=by
 refine iI Z.d__law_caught bM c7 fun fa cdv A outer s H E ds R hr h=>?_
 have hU:=hr.units
 refine⟨_,(af (aw 3 bM.nd qk) (af (vY (cs:=bK) 3 4 ⟨rfl,rfl⟩ bM.nd (by decide) rfl Z.er.mR Z.er.un fun pins E=>(af (bH (aK (iE hU) (am 0) ag (aH _)) (aj (jr (ll Z) (rm hr) rfl (ae (am 1) (ae (am 2) ak)))) aF) (aj (bH (aK (iE hU) (am 0) ag (aH _)) (aj (jr (lJ Z) (rm hr) rfl (ae (dxi 1) (ae (am 2) ak)))) aF)))) (aj (ay (am 3))))),?_⟩
 obtain ⟨w,s,ks,ps,names,T,κ,rfl,hw,hd,ok,hl,nnd,npw,h100,hp,hT,hb,hκ,q,q0⟩:=h
 walk_at "rd"
 refine ij (fun h0=>?_) fun h0=>?_
 ·refine⟨s,ks,ps,names,T,κ,rfl,hd,ok,hl,h100,hp,hT,hb,hκ,fun hin d=>?_,fun n h1 h2 h3=>⟨by decide,q0 n h1 h2 h3⟩⟩
  subst h0
  walk_at "rd"
  exact q hin
 ·have h1:w=1∧s.isRow=true:=hw.resolve_left h0
  refine ifp h1.1 ?_
  obtain ⟨k,ts,b,rfl⟩:=pv h1.2
  unfold yG.D oP
  walk_at "rd"
  have tl:=ok.1.sub.length_le
  rw [List.length_map] at tl
  refine⟨ts,ks,ps,T,κ,rfl,nnd.sublist ok.1.sub,by omega,fun t ht=>⟨h100 _ (ok.1.sub.subset (List.mem_map.mpr ⟨t,ht,rfl⟩)),ok.1.bits t ht⟩,hp,hT,hb,hκ,fun hin d=>?_,fun i n hn hin hk=>⟨by decide,q0 n (List.mem_of_getElem? hn) hk fun m h1 h2=>gY (npw.sublist ok.1.sub) hn hin h1 h2⟩⟩
  walk_at "rd"
  refine q fun x hx=>?_
  obtain ⟨t,ht,rfl⟩:=List.mem_map.mp hx
  exact hin t ht
theorem iS (q:Str→Prop) [DecidablePred q]:∀ l:List Str,(l.map D.str).filterMap (fun d=>match d with | .str n=>if q n then some (.str n) else none | _=>none)=(l.filter fun n=>decide (q n)).map D.str
 | []=>rfl
 | n :: l=>by simp only [List.map_cons,List.filterMap_cons,List.filter_cons,iS q l];by_cases h:q n<;>simp [h]
inductive cE (ds:List D) (R:D→Prop):Prop
 | mk (w:Int) (s:yG) (ks:List Str) (ps:List (Int×Int)) (names:List Str) (T κ:Nat) (hh:ds=[.int w,s.D,.dct ks (ps.map frD)]∧(w=0∨w=1∧s.isRow=true)∧s.dep≤60∧s.ok names∧names.length≤60∧names.Nodup∧names.Pairwise leS∧(∀ n∈names,n.length≤100)∧s.nms.length≤9000∧Pt ks ps T∧T≤1000000∧ib (yH (pB ks ps) ks)≤κ∧κ≤7990∧R (.bl true))
theorem e7:∀ ds R,cE ds R→ds.length=3:=fun _ _ ⟨_,_,_,_,_,_,_,e,_⟩=>by rw [e];rfl
theorem b4:au ["_law_way","_law_saying","_law_point_here","_law_lacks","_law_e"] ["_law_way","_law_saying","_law_point_here"] (ah s__law_good):=by walk_at "sc"
theorem bS (Z:Zz):Z.C 66 "_law_good" ["_law_way","_law_saying","_law_point_here"] (yQ Z.K cE):=by
 refine iI Z.d__law_good b4 e7 fun fa cdv A outer s H E ds R hr h=>?_
 have hU:=hr.units
 refine⟨_,(af (aw 3 b4.nd (bC (sJ rfl) rfl Z.z_sorted gn (ae (eG ["_law_name"] [(2,"_law_point_here")] rfl rfl (by decide +kernel) rfl (by decide +kernel) (fO ⟨rfl,trivial⟩) (fun _=>g4 rfl) (dr ⟨⟨rfl,rfl,.inl rfl⟩,trivial⟩) (vc (aG (fh Z) (rm hr) rfl (ae (am 1) ak))) fun _ _ _ _ _=>⟨(aE 0 (show List.Nodup (["_law_name","_law_point_here"]:List Str) by decide +kernel)),(qe (aK (i7 hU) (am 0) (am 1) rfl)),(am 0)⟩) ak))) (af (aw 4 b4.nd (aG (eS Z) (rm hr) rfl (ae (am 0) (ae (am 1) (ae (am 2) ak))))) (af (bH (aK (ye hU) (am 3) (cy ak) (aH _)) (aj (ay (fe o_is (am 4) qk (aH _)))) aF) (af (bH (DW.dt (wo (mD (fP (rW Z.er.tab rfl Z.z_isinstance rfl Z.er.an (am 4)))) (pY (fP (qJ Z.er.tab rfl Z.z_isinstance rfl rfl Z.er.aq Z.er.a_t (am 4)))))) (aj (ay n8)) aF) (aj (ay (qm (rl Z.er.tab rfl Z.z_isinstance rfl Z.z_ValueError (am 4)) (jz (fe (iE hU) (yw Z.er.tab (am 4)) (dxi 3) (aH _)))))))))),?_⟩
 obtain ⟨w,s,ks,ps,names,T,κ,rfl,hw,hd,ok,hl,nnd,npw,h100,n9,hp,hT,hb,hκ,q⟩:=h
 refine ao fun K1 hK1=>?_
 walk_at "rd"
 refine⟨s,rfl,hd,n9,?_⟩
 walk_at "rd"
 refine⟨by rw [List.length_map];exact n9,fun d=>match d with | .str n=>if n∉ks then some (.str n) else none | _=>none,fun x hx=>?_,s.nms.filter (fun n=>decide (n∉ks)),iS _ _,Nat.le_trans (List.length_filter_le ..) n9,fun ss pm hs=>?_⟩
 ·obtain ⟨n,hn,rfl⟩:=List.mem_map.mp hx
  walk_at "rd"
  exact ij (fun z=>if_pos z) fun z=>if_neg z
 have mem:∀ n,n∈ss↔n∈s.nms∧n∉ks:=fun n=>by rw [pm.mem_iff,List.mem_filter,decide_eq_true_iff]
 rw [hK1]
 refine ao fun K2 hK2=>?_
 walk_at "rd"
 refine⟨w,s,ks,ps,names,T,κ,rfl,hw,hd,ok,hl,nnd,npw,h100,hp,hT,hb,hκ,fun hin=>?_,fun n h1 h2 h3=>?_⟩
 ·have e:ss=[]:=List.eq_nil_iff_forall_not_mem.mpr fun n hn=>((mem n).mp hn).2 (hin n ((mem n).mp hn).1)
  subst e
  walk_at "rd"
  rw [hK2]
  refine ao fun K3 hK3=>?_
  walk_at "rd"
  exact q
 ·have hn:=(mem n).mpr ⟨h1,h2⟩
  walk_at "rd"
  rw [hK2]
  refine ao fun K3 hK3=>?_
  cases ss with
  | nil=>cases hn
  | cons m r =>
  have em:m=n:=vo (((List.pairwise_cons.mp (lY hs)).1 n) |> fun f=>(List.mem_cons.mp hn).elim (fun z=>z ▸ jH _) f) (h3 m ((mem m).mp (List.mem_cons_self ..)).1 ((mem m).mp (List.mem_cons_self ..)).2)
  subst em
  walk_at "rd"
  rw [hK3]
  refine ao fun K4 hK4=>?_
  walk_at "rd"
  refine⟨true,rfl,ifn (by decide) ⟨false,rfl,ifn (by decide) ?_⟩⟩
  rw [hK4]
  walk_at "rd"
  refine⟨true,rfl,ifp rfl ⟨by decide,?_⟩⟩
  rw [decide_eq_true trivial]
  exact q
theorem jx {q:Str→Int} {g:Nat}:∀ {l:List Str},(∀ n∈l,ib (q n)≤g)→ib (yH q l)≤g * l.length + 1
 | [],_=>by show ib 1≤1;decide
 | n :: l,h=>by
  have:=intBits_mul_le (h n (List.mem_cons_self ..)) (jx (q:=q) (l:=l) fun k hk=>h k (List.mem_cons_of_mem _ hk))
  show ib (q n * yH q l)≤g * (l.length + 1) + 1
  rw [Nat.mul_succ]
  unfold ib
  omega
def L5:List Str:=["a","b","c","d","e"]
theorem vE:lV (Str.ofString "abcde")=L5.map D.str:=by rfl
theorem pU:∀ ps:List (Int×Int),D.nds (ps.map frD)=true
 | []=>rfl
 | p :: r=>by rw [List.map_cons];unfold D.nds;rw [pU r];rfl
theorem qd:∀ ps:List (Int×Int),D.dps (ps.map frD)≤1
 | []=>Nat.zero_le _
 | p :: r=>by
  rw [List.map_cons];unfold D.dps
  exact Nat.max_le.mpr ⟨by show 1≤1;decide,qd r⟩
theorem cn {names:List Str} (h4:names.length≤4):∀ {s:yG},s.ok names→s.nms.length≤4 * s.rows
 | .row k ts b,o=>by have:=o.1.sub.length_le;show (ts.map (·.1)).length≤4 * 1;omega
 | .nt s,o=>cn h4 (s:=s) o
 | .bo s t,o=>by
  have:=cn h4 o.1
  have:=cn h4 o.2
  show (s.nms++t.nms).length≤4 * (s.rows + t.rows)
  rw [List.length_append];omega
 | .ei s t,o=>by
  have:=cn h4 o.1
  have:=cn h4 o.2
  show (s.nms++t.nms).length≤4 * (s.rows + t.rows)
  rw [List.length_append];omega
structure Ps (ks:List Str) (qs:List (Int×Int)) (n:Nat):Prop where
 len:qs.length=ks.length
 nd:ks.Nodup
 le:ks.length≤n
 ok:∀ p∈qs,Low p.1 p.2∧ib p.1≤200∧ib p.2≤30
theorem Ps.pt {ks:List Str} {qs:List (Int×Int)} {n:Nat} (h:Ps ks qs n):Pt ks qs 200:=⟨h.len,fun p hp=>(h.ok p hp).1,fun p hp=>(h.ok p hp).2.1,fun p hp=>Nat.le_trans (h.ok p hp).2.2 (by decide)⟩
theorem Ps.bt {ks:List Str} {qs:List (Int×Int)} {n:Nat} (h:Ps ks qs n) (h5:n≤5):ib (yH (pB ks qs) ks)≤151:=by
 have:=jx (q:=pB ks qs) (g:=30) (l:=ks) fun k hk=>(h.ok _ (h.pt.at hk).2).2.2
 have:=h.le
 omega
theorem tO {i:Nat} {t:TDS} {R:ax} {δ:En} {a:Addr} {d:D} (e:δ[i]?=some (.own a d)) (h:t R (δ.set i (.dat d))):eX i t R δ:=by unfold eX;rw [e];exact h
theorem ce:au ["_law_script","_law_names_here","_law_full","_law_saying","_law_bits","_law_more","_law_turn","_law_point_here","_law_k","_law_kept","_law_cell_here"] ["_law_script"] (ah s_law):=by walk_at "sc"
theorem rF (Z:Zz) {fa:Addr} {fd:FuncData} (F:Fun Z.K "law" "law" s_law fa fd):c8 Z.P Z.w Z.K Z.mg Z.base CX0 67 fa fd ["_law_script"] (yQ Z.K fLaw):=by
 refine vK F ce (fun ds R ⟨ns,e,_⟩=>by rw [e];rfl) fun cdv A outer s H E ds R hr h=>?_
 have hU:=hr.units
 refine⟨_,(af (aw 1 ce.nd (aG (fD Z) (rm hr) rfl (ae (aG (bT Z) (rm hr) rfl (ae (am 0) (ae ag ak))) ak))) (af (aw 2 ce.nd (aG (fj Z).pure (rm hr) rfl (ae (aG (bT Z) (rm hr) rfl (ae (am 0) (ae ag ak))) (ae (am 1) ak)))) (af (aw 3 ce.nd (aG (gC Z) (rm hr) rfl (ae (jF (am 0) (df ag) (df ag)) (ae (am 1) ak)))) (af (aw 4 ce.nd (aG (bT Z) (rm hr) rfl (ae (am 0) (ae ag ak)))) (af (aw 5 ce.nd (dw cZ (eG ["_law_letter"] [(1,"_law_names_here")] rfl rfl (by decide +kernel) rfl (by decide +kernel) (fO ⟨rfl,trivial⟩) (fun _=>g4 rfl) (dr ⟨⟨rfl,rfl,.inl rfl⟩,trivial⟩) (uS bB) fun _ _ _ _ _=>⟨(aE 0 (show List.Nodup (["_law_letter","_law_names_here"]:List Str) by decide +kernel)),(qe (aK (i7 hU) (am 0) (am 1) rfl)),(am 0)⟩) ag (fun _ _=>rfl))) (af (i4 PassesOwn.never rfl rfl Z.z_range (ae ag ak) (aE 6 ce.nd) (af (oj 7 5 ce.nd (cG (ae ag (ae ag ak)))) (af (i4 PassesOwn.never rfl rfl Z.z_range (ae (bC sO rfl Z.z_len ko (ae (am 1) ak)) ak) (aE 8 ce.nd) (aj (bH (aK (iE hU) (av b5 (av bY (am 4) (dw cZ (cy (ae ag (ae ag (ae ag (ae ag ak))))) (av b5 (av bQ (am 8) (am 6)) ag) (fun _ _=>rfl))) ag) ag (aH _)) (aj (gm 7 hU (fZ hU (am 2) (dw cZ (am 1) (am 8) (fun _ _=>rfl)) (fun _ _=>rfl)) (dw cZ (am 1) (am 8) (fun _ _=>rfl)))) aF))) (cY 7 (af (aw 9 ce.nd (iy wR rfl Z.z_dict vQ (ae (am 7) ak))) (af (bH (DW.dt (wo (mD (fP (aG (bS Z) (rm hr) rfl (ae ag (ae (am 3) (ae (am 7) ak)))))) (pY (aK (v5 hU) (am 7) (am 9) (aH _))))) (aj (ay n8)) aF) (aj (dl PassesOwn.never rfl (av bQ (cy (ae ag ak)) (jF (am 0) (df ag) (df ag))) (aE 10 ce.nd) (aj (bH (mD (fP (aG (bS Z) (rm hr) rfl (ae ag (ae (aG (cc Z) (rm hr) rfl (ae (am 10) (ae (am 1) ak))) (ae (am 7) ak)))))) (aj (ay n8)) aF)))))))))) (aj (ay (aG (bS Z) (rm hr) rfl (ae ag (ae (am 3) (ae (am 2) ak)))))))))))),?_⟩
 obtain ⟨ns,rfl,h63,hb,q⟩:=h
 have cb:=kW hb
 refine ao fun K1 hK1=>?_
 walk_at "rd"
 refine⟨ns,0,rfl,by decide,?_⟩
 walk_at "rd"
 refine⟨bX ns 0,rfl,cb _,fun names nms=>?_⟩
 walk_at "rd"
 rw [hK1]
 refine ao fun K2 hK2=>?_
 walk_at "rd"
 refine⟨ns,1,rfl,by decide,?_⟩
 walk_at "rd"
 refine⟨bX ns 1,names,rfl,cb _,by have:=nms.len;omega,nms.nd,fun ps pd=>?_⟩
 walk_at "rd"
 rw [hK2]
 refine ao fun K3 hK3=>?_
 walk_at "rd"
 rw [ml]
 have l45:(cut ns (some 3) (some 48)).length≤45:=mF 3 48
 refine⟨_,names,rfl,by omega,fun c h=>hb c (mM h),by have:=nms.len;omega,fun s ok ds rs=>?_⟩
 walk_at "rd"
 rw [hK3]
 refine ao fun K4 hK4=>?_
 walk_at "rd"
 refine⟨ns,2,rfl,by decide,?_⟩
 walk_at "rd"
 rw [hK4]
 refine ao fun K5 hK5=>?_
 walk_at "rd"
 rw [vE]
 have l4:=nms.len
 have len5:L5.length=5:=rfl
 refine⟨by rw [List.length_map];decide,fun d=>match d with | .str n=>if n∉names then some (.str n) else none | _=>none,fun x hx=>?_,?_⟩
 ·obtain ⟨n,hn,rfl⟩:=List.mem_map.mp hx
  walk_at "rd"
  exact⟨names,rfl,ij (fun z=>if_pos z) fun z=>if_neg z⟩
 rw [iS]
 obtain ⟨m,r5,e5⟩:∃ m r,L5.filter (fun n=>decide (n∉names))=m :: r:=by
  cases e:L5.filter (fun n=>decide (n∉names)) with
  | cons m r=>exact⟨m,r,rfl⟩
  | nil =>
   have:L5.length≤names.length:=mj (by decide) fun n hn=>Classical.byContradiction fun z=>by
    have:=List.filter_eq_nil_iff.mp e n hn
    exact this (decide_eq_true z)
   omega
 have hm:m∉names:=by
  have:m∈L5.filter (fun n=>decide (n∉names)):=by rw [e5];exact List.mem_cons_self ..
  exact of_decide_eq_true (List.mem_filter.mp this).2
 rw [e5]
 refine yJ.of at0 ?_
 walk_at "rd"
 rw [hK5]
 have pw:=lY nms.srt
 have n9:s.nms.length≤9000:=by have:=cn l4 ok;omega
 have good:∀ {ks:List Str} {qs:List (Int×Int)} {Q:D→Prop},Ps ks qs 5→Q (.bl true)→cE [.int 0,s.D,.dct ks (qs.map frD)] Q:=fun {ks qs Q} h k=>⟨0,s,ks,qs,names,200,151,rfl,.inl rfl,by omega,ok,by omega,nms.nd,pw,nms.one,n9,h.pt,by decide,h.bt (Nat.le_refl _),by decide,k⟩
 have full:Ps names ps 5:=⟨pd.len,nms.nd,by omega,pd.ok⟩
 refine ao fun K6 hK6=>?_
 refine jI fun F N hF hN=>?_
 walk_at "rd"
 refine⟨by decide,by decide,fun i δ=>∃ x6 x7 x8 x9 x10,δ=[.dat (.fz (ns.map D.int)),.dat (.lst (names.map D.str)),.dat (.dct names (ps.map frD)),.dat s.D,.dat (.int (bX ns 2)),.dat (.str m),x6,x7,x8,x9,x10],⟨_,_,_,_,_,rfl⟩,?_,?_⟩
 ·rintro t δ ht ⟨x6,x7,x8,x9,x10,rfl⟩
  rw [hF]
  show cC _ _ _ _
  refine jw fun K7 hK7=>?_
  walk_at "rd"
  intro pa
  rw [hK7]
  refine ao fun K8 hK8=>?_
  refine jI fun F2 N2 hF2 hN2=>?_
  simp only [pW]
  walk_at "rd"
  rw [List.length_map]
  refine⟨by omega,by omega,fun i δ=>∃ ks qs x8,δ=[.dat (.fz (ns.map D.int)),.dat (.lst (names.map D.str)),.dat (.dct names (ps.map frD)),.dat s.D,.dat (.int (bX ns 2)),.dat (.str m),.dat (.int t),.own pa (.dct ks (qs.map frD)),x8,x9,x10]∧Ps ks qs (i + 1)∧∀ k∈ks,k=m∨k∈names.take i,⟨[m],[(1,1)],_,rfl,⟨rfl,by simp,Nat.le_refl 1,fun p hp=>by rw [List.mem_singleton.mp hp];exact⟨⟨by decide,by decide⟩,by decide,by decide⟩⟩,fun k hk=>.inl (List.mem_singleton.mp hk)⟩,?_,?_⟩
  ·rintro i δ hi ⟨ks,qs,x8,rfl,hp,hk⟩
   rw [hF2]
   show cC _ _ _ _
   walk_at "rd"
   have hi':i < names.length:=hi
   have j0:=Int.fmod_nonneg_of_pos ((i:Int) + t) (b:=4) (by decide)
   have j1:=Int.fmod_lt_of_pos ((i:Int) + t) (b:=4) (by decide)
   obtain ⟨v,hv,e⟩:=gF (xs:=[D.int 1,D.int 2,D.int 4,D.int 8]) j0 (by show _ < 4;exact j1)
   have hr:∃ z:Int,v=.int z∧z≠0∧z.natAbs.log2 < 9000:=by
    simp only [List.mem_cons,List.not_mem_nil,or_false] at hv
    rcases hv with rfl | rfl | rfl | rfl<;>exact⟨_,rfl,by decide,by decide +kernel⟩
   obtain ⟨z,rfl,z0,z1⟩:=hr
   refine⟨cnz (by decide),yJ.of e ?_⟩
   walk_at "rd"
   have hn:names[i]?=some names[i]:=List.getElem?_eq_getElem hi'
   have hnm:names[i]∈names:=List.getElem_mem hi'
   have sub:∀ k∈ks,k=m∨k∈names.take (i + 1):=fun k h=>(hk k h).imp id fun z=>by rw [aP hn];exact List.mem_append_left _ z
   refine⟨⟨z0,z1⟩,cnz (by decide),ij (fun _=>?_) fun _=>?_⟩
   ·have nk:names[i]∉ks:=fun z=>(hk _ z).elim (fun y=>hm (y ▸ hnm)) fun y=>gr nms.nd hn y
    have at1':yN (names.map D.str) (i:Int)=some (.str names[i]):=tS hi'
    refine yJ.of at1' ?_
    walk_at "rd"
    refine⟨_,full.pt.D hnm,?_⟩
    walk_at "rd"
    refine yJ.of at1' ?_
    walk_at "rd"
    have mp:=full.ok _ (full.pt.at hnm).2
    refine⟨by have:=hp.le;omega,qs++[(pT names ps names[i],pB names ps names[i])],by rw [f9 nk,List.map_append];rfl,?_,?_⟩
    ·rw [dZ nk]
     refine⟨by rw [List.length_append,List.length_append,hp.len];rfl,List.nodup_append.mpr ⟨hp.nd,by simp,fun a ha b hb' z=>nk (by rw [← List.mem_singleton.mp hb',← z];exact ha)⟩,by rw [List.length_append,List.length_singleton];have:=hp.le;omega,fun p hp'=>?_⟩
     rcases List.mem_append.mp hp' with h | h
     ·exact hp.ok p h
     ·rw [List.mem_singleton.mp h];exact mp
    ·rw [dZ nk]
     intro k h
     rcases List.mem_append.mp h with h | h
     ·exact sub k h
     ·rw [List.mem_singleton.mp h]
      exact .inr (by rw [aP hn];exact List.mem_append_right _ (List.mem_singleton.mpr rfl))
   ·exact⟨qs,rfl,⟨hp.len,hp.nd,by have:=hp.le;omega,hp.ok⟩,sub⟩
  ·rintro δ ⟨ks,qs,x8,rfl,hp,hk⟩
   rw [Int.toNat_natCast] at hp
   have hp5:Ps ks qs 5:=⟨hp.len,hp.nd,by have:=hp.le;omega,hp.ok⟩
   rw [hN2,hK8]
   dsimp only
   refine tO (a:=pa) (d:=.dct ks (qs.map frD)) (by rfl) ?_
   refine ao fun K9 hK9=>?_
   show dSet _ _ _ [.dat (.fz (ns.map D.int)),.dat (.lst (names.map D.str)),.dat (.dct names (ps.map frD)),.dat s.D,.dat (.int (bX ns 2)),.dat (.str m),.dat (.int t),.dat (.dct ks (qs.map frD)),x8,x9,x10]
   walk_at "rd"
   rw [hK9]
   refine ao fun K10 hK10=>?_
   walk_at "rd"
   refine good hp5 ?_
   walk_at "rd"
   refine⟨hp.nd,pU _,Nat.le_trans (qd _) (by decide),?_⟩
   rw [hK10]
   refine cN fun F3 N3 hF3 hN3=>?_
   simp only [ql]
   walk_at "rd"
   rw [ml]
   have l6:(cut ns (some 3) (some 9)).length≤6:=mF 3 9
   rw [List.length_map]
   refine⟨by omega,fun i δ=>∃ x8 x10,δ=[.dat (.fz (ns.map D.int)),.dat (.lst (names.map D.str)),.dat (.dct names (ps.map frD)),.dat s.D,.dat (.int (bX ns 2)),.dat (.str m),.dat (.int t),.dat (.dct ks (qs.map frD)),x8,.dat (.dct ks (qs.map frD)),x10],⟨_,_,rfl⟩,?_,?_⟩
   ·rintro i d δ hd ⟨x8,x10,rfl⟩
    have hc:∃ c,d=.int c∧ib c≤1048576:=by
     rcases List.mem_cons.mp (List.mem_of_getElem? hd) with rfl | h
     ·exact⟨1,rfl,by decide⟩
     ·obtain ⟨c,h1,rfl⟩:=List.mem_map.mp h
      exact⟨c,rfl,hb c (mM h1)⟩
    obtain ⟨c,rfl,bc⟩:=hc
    rw [hF3]
    show cC _ _ _ _
    walk_at "rd"
    refine⟨c,names,rfl,bc,by omega,fun k ts b tm tb bb=>?_⟩
    have okr:(yG.row k ts b).ok names:=iZ tm bb
    have tl:=tm.sub.length_le
    walk_at "rd"
    refine⟨1,.row k ts b,ks,qs,names,200,151,rfl,.inr ⟨rfl,rfl⟩,by show 1≤60;decide,okr,by omega,nms.nd,pw,nms.one,by show (ts.map (·.1)).length≤9000;omega,hp.pt,by decide,hp5.bt (Nat.le_refl _),by decide,?_⟩
    walk_at "rd"
    exact⟨_,rfl⟩
   ·rintro δ ⟨x8,x10,rfl⟩
    rw [hN3]
    exact⟨_,_,_,_,_,rfl⟩
 ·rintro δ ⟨x6,x7,x8,x9,x10,rfl⟩
  rw [hN,hK6]
  walk_at "rd"
  exact good full q
theorem fq:ke P w K mg base "NoQuotient.__init__" "top" "top" false i_NoQuotient:=fun R C fI fd F ek rk m=>F.ok (N:=["self","top"]) ⟨rfl,rfl,rfl,by decide +kernel,rfl,by decide +kernel,by decide +kernel⟩ jc fun cdv A outer s H vs Q E hr h=>⟨_,d4 (dh (i9 rk ek rfl m (aA (aQ (i:=0) rfl (.inl rfl)) (aA jD bN)))) (eN (ja ek (aQ (i:=0) rfl (.inl rfl)) (aQ (i:=1) rfl (.inl rfl)))),mq h⟩
theorem fE:ue "NoQuotient.__init__" "top" i_NoQuotient:=fun _ _ _ _ _ _ us hl=>match us,hl with | [_,_],_=>rfl
theorem j9:ke P w K mg base "NoName.__init__" "name" "name" true i_NoName:=fun R C fI fd F ek rk m=>F.ok (N:=["self","name"]) ⟨rfl,rfl,rfl,by decide +kernel,rfl,by decide +kernel,by decide +kernel⟩ jc fun cdv A outer s H vs Q E hr h=>⟨_,d4 (dh (i9 rk ek rfl m (aA (aQ (i:=0) rfl (.inl rfl)) (aA (qO (aQ (i:=1) rfl (.inl rfl))) bN)))) (eN (ja ek (aQ (i:=0) rfl (.inl rfl)) (aQ (i:=1) rfl (.inl rfl)))),oZ h⟩
theorem kE:ue "NoName.__init__" "name" i_NoName:=fun _ _ _ _ _ _ us hl=>match us,hl with | [_,_],_=>rfl
theorem iY:ke P w K mg base "TooMany.__init__" "saying" "saying" false i_TooMany:=fun R C fI fd F ek rk m=>F.ok (N:=["self","saying"]) ⟨rfl,rfl,rfl,by decide +kernel,rfl,by decide +kernel,by decide +kernel⟩ jc fun cdv A outer s H vs Q E hr h=>⟨_,d4 (dh (i9 rk ek rfl m (aA (aQ (i:=0) rfl (.inl rfl)) (aA jD bN)))) (eN (ja ek (aQ (i:=0) rfl (.inl rfl)) (aQ (i:=1) rfl (.inl rfl)))),mq h⟩
theorem iF:ue "TooMany.__init__" "saying" i_TooMany:=fun _ _ _ _ _ _ us hl=>match us,hl with | [_,_],_=>rfl
end Lw
namespace Lw
open PySem L2 DL
theorem all_mk {l:PySem.W.OpenLaw} {w:World} {K:PySem.W.Frag} {h:Heap} {mg:Str→Option Value} {fa:Addr} (X:K.In h) (G:h.Ns mainGlobals mg) (hfa:mg "law"=some (.ref fa)) (f:Hd.Facts K):∃ fd:FuncData,(∀ (s:Shared) (v:Value),BindsTo s fd ⟨[v],[]⟩ [("_law_script",v)])∧∀ base:Heap,K.In base→base.Ns mainGlobals mg→c8 l.prog w K mg base CX0 67 fa fd ["_law_script"] (ua K):=by
 obtain ⟨⟨_,_,_,_,_,_,_,_,_,_,a,l1,c,k⟩⟩:=f.q23
 have e:=hfa.symm.trans (PySem.W.mg_of X G a)
 cases e
 have F:=pV (st:=s_law) l1 c k
 refine⟨_,?_,fun base _ _=>by obtain ⟨R,NR,er⟩:=f.ef.er (P:=l.prog) (w:=w) (base:=base) X G fq fE j9 kE iY iF;exact uB (rF ⟨l.prog,w,K,mg,base,f.q0.fd2 X G fun _ _ _ _ _ _ _ _=>rfl,f.q1.fd2 X G fun _ _ _ _ _ _ _ _=>rfl,f.q2.fd1 X G fun _ _ _ _ _ _ _=>rfl,f.q3.fd2 X G fun _ _ _ _ _ _ _ _=>rfl,f.q4.fd1 X G fun _ _ _ _ _ _ _=>rfl,f.q5.fd2 X G fun _ _ _ _ _ _ _ _=>rfl,f.q6.fd2 X G fun _ _ _ _ _ _ _ _=>rfl,f.q7.fd3 X G fun _ _ _ _ _ _ _ _ _=>rfl,f.q8.fd3 X G fun _ _ _ _ _ _ _ _ _=>rfl,f.q9.fd2 X G fun _ _ _ _ _ _ _ _=>rfl,f.q10.fd2 X G fun _ _ _ _ _ _ _ _=>rfl,f.q11.fd2 X G fun _ _ _ _ _ _ _ _=>rfl,f.q12.fd2 X G fun _ _ _ _ _ _ _ _=>rfl,f.q13.fd1 X G fun _ _ _ _ _ _ _=>rfl,f.q14.fd2 X G fun _ _ _ _ _ _ _ _=>rfl,f.q15.fd1 X G fun _ _ _ _ _ _ _=>rfl,f.q16.fd1 X G fun _ _ _ _ _ _ _=>rfl,f.q17.fd2 X G fun _ _ _ _ _ _ _ _=>rfl,f.q18.fd2 X G fun _ _ _ _ _ _ _ _=>rfl,f.q19.fd2 X G fun _ _ _ _ _ _ _ _=>rfl,f.q20.fd1 X G fun _ _ _ _ _ _ _=>rfl,f.q21.fd3 X G fun _ _ _ _ _ _ _ _ _=>rfl,f.q22.fd3 X G fun _ _ _ _ _ _ _ _ _=>rfl,PySem.W.mg_none_of X G f.z0,PySem.W.mg_none_of X G f.z1,PySem.W.mg_none_of X G f.z2,PySem.W.mg_none_of X G f.z3,PySem.W.mg_none_of X G f.z4,PySem.W.mg_none_of X G f.z5,PySem.W.mg_none_of X G f.z6,PySem.W.mg_none_of X G f.z7,PySem.W.mg_none_of X G f.z8,R,NR,er⟩ F)⟩
 exact fun s v=>.of_eq rfl
end Lw
open PySem PySem.W PyProof.Rows
theorem PySem.Challenge.cw_rowbetween_k17_no_name_holds : PySem.Challenge.rw_rowbetween_k17_no_name.Holds := by
 refine Hd.half fun YP d K hY hdf hdn f=>?_
 refine DL.walkB (l:=PySem.Challenge.rw_rowbetween_k17_no_name) (k:=67) (x:="_law_script") rfl hdf ⟨rfl,by decide,by decide⟩ hY fun w mg fa h KX G hmg=>?_
 rw [hdn] at hmg
 exact Lw.all_mk KX G hmg (f w)
#print axioms PySem.Challenge.cw_rowbetween_k17_no_name_holds
