import PyProof.Rows.All
import Wide.All
import OpenK.AllK
import Wide.FinOn
import PyProof.EqAt
import PyProof.EqKinds
import PyProof.TupleCall
import KE.BitLaws
import PySem.Challenge.RW_contactways_s01_answers
import Open.SpecLaws
import KE.OsHead
import KE.OsGo
import LgWay
import PyProof.SetKind
import PyProof.Rows.SetFrom
import PyProof.Rows.SortShell
import PyProof.CollectWalk
import PyProof.Rows.SortWalk
import PyProof.WalksS
import PyProof.ConsumeS
import PyProof.Rows.CallKwBuiltin
import PyProof.Walks
import KE.KSortTupG
import WqlgsbNeutral
import PyWqlgsb
set_option Elab.async false
set_option linter.all false
set_option maxRecDepth 100000
set_option maxHeartbeats 0
namespace Cw
open PySem PySem.W PyProof.Rows
def treeOf:List Obj->Nat->BT->BT
 | [],_,t=>t
 | o::l,n,t=>treeOf l (n+1) (t.ins n o)
def shT(s:Shared):SharedT:=⟨treeOf s.heap.objs.toList 0 .nil,s.heap.objs.size,s.heap.life,s.gens,s.drawn,s.toks,s.os⟩
def topRunT(tb:String->Option Builtin)(p:Program)(w:World)(m:Nat)(ann:Option Value):Nat->SharedT->Thread->Option SharedT
 | 0,_,_=>none
 | n+1,s,t=>match through t with
  | true=>some s
  | false=>match stepOk m ann t with
   | false=>none
   | true=>match stepT (denote tb) p w s t with
    | some (s',t')=>topRunT tb p w m ann n s' t'
    | none=>none
theorem topRun_of{tb:String->Option Builtin}{p:Program}{w:World}{m:Nat}{ann:Option Value}:∀ {n:Nat} {s s':SharedT} {t:Thread},topRunT tb p w m ann n s t=some s'->topRun tb p w m ann n s.abs t=some s'.abs
 | 0,_,_,_,h=>by cases h
 | n+1,s,s',t,h=>by
  unfold topRunT at h
  unfold topRun
  cases he:through t with
  | true=>rw [he] at h; cases h; rfl
  | false =>
   rw [he] at h
   cases hk:stepOk m ann t with
   | false=>rw [hk] at h; cases h
   | true =>
    rw [hk] at h
    cases hs:stepT (denote tb) p w s t with
    | none=>rw [hs] at h; cases h
    | some r=>obtain ⟨a,b⟩:=r; rw [hs] at h; rw [stepT_spec hs]; exact topRun_of h
def topFromT(tb:String->Option Builtin)(p:Program)(w:World)(N:Nat)(s:Shared):Option SharedT :=
 match s.heap.isNs mainGlobals&&s.gens.size==0 with
 | true=>(topRunT tb p w s.heap.objs.size (s.heap.nsMap mainGlobals "__annotations__") N (shT s) (topStub p)).bind fun r=>match staticsOk (importedModules p.main.body) s.heap r.abs.heap&&namesBound p r.abs.heap&&gensDone r.abs&&laidKept s.heap r.abs.heap with
  | true=>some r
  | false=>none
 | false=>none
theorem topFrom_of{tb:String->Option Builtin}{p:Program}{w:World}{N:Nat}{s:Shared}{r:SharedT}(e:(shT s).abs=s)(h:topFromT tb p w N s=some r):topFrom tb p w N s=some r.abs:=by
 unfold topFromT at h
 unfold topFrom
 cases h1:s.heap.isNs mainGlobals&&s.gens.size==0 with
 | false=>rw [h1] at h; cases h
 | true =>
  rw [h1] at h
  obtain ⟨r',h2,h3⟩:=Option.bind_eq_some_iff.mp h
  have h4:=topRun_of h2
  rw [e] at h4
  show (topRun _ _ _ _ _ _ _ _).bind _=_
  rw [h4]
  show (match staticsOk (importedModules p.main.body) s.heap r'.abs.heap&&namesBound p r'.abs.heap&&gensDone r'.abs&&laidKept s.heap r'.abs.heap with
   | true=>some r'.abs
   | false=>none)=_
  cases h5:staticsOk (importedModules p.main.body) s.heap r'.abs.heap&&namesBound p r'.abs.heap&&gensDone r'.abs&&laidKept s.heap r'.abs.heap with
  | false=>rw [h5] at h3; cases h3
  | true=>rw [h5] at h3; cases h3; rfl
def endsT(tb:String->Option Builtin)(p:Program)(w:World)(N:Nat):Option SharedT:=(fencedOpening tb p w N).bind (topFromT tb p w N)
theorem ends_of{tb:String->Option Builtin}{p:Program}{w:World}{N:Nat}(e:(fencedOpening tb p w N).map (fun s=>(shT s).abs)=fencedOpening tb p w N){α:Type}{β:Type}{F:Shared->α}{G:Shared->β}{a:α}{b:β}
  (h:(endsT tb p w N).map (fun s=>F s.abs)=some a) (k:(endsT tb p w N).map (fun s=>G s.abs)=some b):(openEnds tb p w N).map (fun s=>(F s,G s))=some (a,b):=by
 obtain ⟨r,h1,h2⟩:=Option.map_eq_some_iff.mp h
 obtain ⟨r',k1,k2⟩:=Option.map_eq_some_iff.mp k
 rw [h1] at k1
 cases k1
 obtain ⟨s,h3,h4⟩:=Option.bind_eq_some_iff.mp h1
 rw [h3] at e
 have e2:=Option.some.inj e
 show ((fencedOpening tb p w N).bind (topFrom tb p w N)).map _=_
 rw [h3]
 show (topFrom tb p w N s).map _=_
 rw [topFrom_of e2 h4]
 show some (F r.abs,G r.abs)=_
 rw [h2,k2]
end Cw
namespace Cw
open PySem PySem.W PyProof.Rows
local macro_rules
 | `(tactic| o_headS $H)=>`(tactic| (have q:=$H; exact (by assumption)))
theorem zK(hh:PySem.Challenge.rw_contactways_s01_answers.Holds):PySem.Challenge.rw_contactways_s01_answers.Holds:=by
 k_headS
abbrev zPw:=PySem.Challenge.pw_contactways_s01_answers
noncomputable def zVw:Program:={ zPw with main:={ zPw.main with body:=(((((((zPw.main.body).eraseIdx 67).eraseIdx 51).eraseIdx 32).eraseIdx 26).eraseIdx 19).eraseIdx 9).eraseIdx 0 } }
noncomputable def zAs:List Addr:=[2,3,22,24,25,27,28,29,30,31,32,33,43,46,47,48,49,50,51,52,55,57,58,60,61,62,64,65,67,68,69,71,72,74,75,76,78,79,81,82,83,86,87,88,91,92,93,96,97,98,100,101,103,104,105,107,108,110,111,112,114,115,117,118,119,121,122,124,125,126,128,129,131,132,133,135,136,138,139,140,143,144,145,147,148,150,151,152,154,155,157,158,159,162,163,164,167,168,169,171,172,174,175,176,178,179,181,182,183,185,186,188,189,190,193,194,202,203,205,206,208,209,210,211,212,213,214,217,220,221,222,225,226,227,229,230,232,233,234,236,237,239,240,241,243,244,246,247,248,250,251,253,254,255,257,258,260,261,262,264,265,267,268,269,270,272,273,275,276,277,280,281,282,284,285,287,288,289,291,292,294,295,296,298,299,301,302,303,305,306,308,309,310,313,314,315,318,319,320,323,324,325,333,335,336,338,339,340,342,343,345,346,347,349,350,352,353,354,356,357,359,360,361,363,364,366,367,368,370,371,373,374,375,377,378,380,381,382,384,385,387,388,389,390,391,392,393,396,398,399,401,402,403,405,406,408,409,410,412,413,415,416]
theorem zAsE:∀ P,zAs=(zK.heap_1 P).map (·.1):=fun _=>by kernel_rfl
abbrev zLs:List Str:=[PySem.Str.ofString "ARGUMENTS"]
abbrev zRow:String:="special-get-raises"
theorem zH0(w:World):(fencedOpening treeTable zPw w 5848).map (fun s=>(shT s).abs)=fencedOpening treeTable zPw w 5848:=by kernel_rfl
noncomputable abbrev zXt (s:Shared):Bool:=xlAt zVw [] s&&recOk [] s
noncomputable abbrev zHk:Hook:=kHook zK.heap_1 zAs zAsE
noncomputable def zGoA (b:Bool) (w:World):=(endsT treeTable zPw (w.withFollow zRow b) 5848).map (fun s=>openSeen zVw zLs (importedModules zPw.main.body) zXt true s.abs)
noncomputable def zGdA:=openGood zVw zLs
noncomputable def zGoK (b:Bool) (w:World):=(endsT treeTable zPw (w.withFollow zRow b) 5848).map (fun s=>zAs.map s.abs.heap.get?)
lay_quick Cw.zGoA Cw.zGoK Cw.zGdA
theorem zAF(w:World):zGoA false w=some zGdA:=by
 rw [PySem.W.Fast.te8797312849249018067,PySem.W.Fast.te8953059120759177777]
 kernel_rfl
theorem zAT(w:World):zGoA true w=some zGdA:=by
 rw [PySem.W.Fast.te8797312849249018067,PySem.W.Fast.te8953059120759177777]
 kernel_rfl
theorem zKF(w:World):zGoK false w=some ((zK.heap_1 (w.withFollow zRow false).params).map fun p=>some p.2):=by
 rw [PySem.W.Fast.te6867156254868765809]
 kernel_rfl
theorem zKT(w:World):zGoK true w=some ((zK.heap_1 (w.withFollow zRow true).params).map fun p=>some p.2):=by
 rw [PySem.W.Fast.te6867156254868765809]
 kernel_rfl
theorem zHl:LeftO zPw zVw zLs zXt zHk.obs zHk.val 5848:=fun w=>byRow2 zRow (P:=fun w=>(openEnds treeTable zPw w 5848).map (fun s=>(openSeen zVw zLs (importedModules zPw.main.body) zXt true s,zHk.obs s))=some (openGood zVw zLs,zHk.val w)) (fun w=>ends_of (zH0 _) (zAF w) (zKF w)) (fun w=>ends_of (zH0 _) (zAT w) (zKT w)) w
end Cw
namespace L2
open PySem PySem.Spec PyProof.Rows
abbrev Key:=Sum Int Str
def keyIs:Key->Value->Bool
 | .inl k,v=>Value.isInt k v
 | .inr x,v=>Value.isStrOf x v
def keyH(w:World):Key->Int
 | .inl k=>hashInt k
 | .inr x=>hashStr w x
theorem keyIs_shape:∀ {k:Key} {v:Value},keyIs k v=true->(∃ i t,k=Sum.inl i∧v=Value.int i t)∨(∃ x t,k=Sum.inr x∧v=Value.str x t)
 | .inl i,v,h=>by
  obtain ⟨t,e⟩:=Value.isInt_shape (k:=i) (v:=v) h
  exact .inl ⟨i,t,rfl,e⟩
 | .inr x,v,h=>by
  obtain ⟨t,e⟩:=Value.isStrOf_shape (x:=x) (v:=v) h
  exact .inr ⟨x,t,rfl,e⟩
theorem keyIs_int(i:Int)(t:Tok):keyIs (.inl i) (.int i t)=true:=by simp [keyIs,Value.isInt]
theorem keyIs_str(x:Str)(t:Tok):keyIs (.inr x) (.str x t)=true:=by simp [keyIs,Value.isStrOf]
theorem key_ll(a b:Int):decide ((Sum.inl a:Key)=Sum.inl b)=(a==b):=by
 by_cases e:a=b
 ·subst e; simp
 ·have h:¬ (Sum.inl a:Key)=Sum.inl b:=fun q=>e (Sum.inl.inj q)
  rw [decide_eq_false h]
  exact (beq_eq_false_iff_ne.mpr e).symm
theorem key_rr(a b:Str):decide ((Sum.inr a:Key)=Sum.inr b)=decide (a=b):=by
 by_cases e:a=b
 ·subst e; simp
 ·have h:¬ (Sum.inr a:Key)=Sum.inr b:=fun q=>e (Sum.inr.inj q)
  rw [decide_eq_false h,decide_eq_false e]
theorem key_lr(a:Int)(b:Str):decide ((Sum.inl a:Key)=Sum.inr b)=false:=decide_eq_false (fun q=>nomatch q)
theorem key_rl(a:Str)(b:Int):decide ((Sum.inr a:Key)=Sum.inl b)=false:=decide_eq_false (fun q=>nomatch q)
def mixKind(prog:Program)(w:World):PySem.KeyKind prog w Key where
 is:=keyIs
 hash:=keyH w
 inj:=fun v a b ha hb=>by
  rcases keyIs_shape ha with ⟨i,t,rfl,rfl⟩ | ⟨x,t,rfl,rfl⟩
  ·rcases keyIs_shape hb with ⟨j,u,rfl,e⟩ | ⟨y,u,rfl,e⟩
   ·injection e with e1 _; rw [e1]
   ·exact nomatch e
  ·rcases keyIs_shape hb with ⟨j,u,rfl,e⟩ | ⟨y,u,rfl,e⟩
   ·exact nomatch e
   ·injection e with e1 _; rw [e1]
 byValue:=fun k v h=>by
  rcases keyIs_shape h with ⟨i,t,rfl,rfl⟩ | ⟨x,t,rfl,rfl⟩<;>rfl
 pyHash:=fun hv h=>by
  rcases keyIs_shape hv with ⟨i,t,rfl,rfl⟩ | ⟨x,t,rfl,rfl⟩
  ·exact wpAny_pyHash_int h
  ·exact wpAny_pyHash_str h
 eqBool:=fun hu hv h=>by
  rcases keyIs_shape hu with ⟨i,t,rfl,rfl⟩ | ⟨x,t,rfl,rfl⟩
  ·rcases keyIs_shape hv with ⟨j,u,rfl,rfl⟩ | ⟨y,u,rfl,rfl⟩
   ·rw [key_ll] at h; exact wpAny_eqBool_int h
   ·rw [key_lr] at h; exact SeqAt.EqAt.int_str i t y u _ _ _ _ h
  ·rcases keyIs_shape hv with ⟨j,u,rfl,rfl⟩ | ⟨y,u,rfl,rfl⟩
   ·rw [key_rl] at h; exact SeqAt.EqAt.str_int x t j u _ _ _ _ h
   ·rw [key_rr] at h; exact wpAny_eqBool_str h
 «strs»:=fun k x t v h=>by
  rcases keyIs_shape h with ⟨i,u,rfl,e⟩ | ⟨y,u,rfl,e⟩
  ·exact nomatch e
  ·injection e with e1 _
   subst e1
   cases v<;>rfl
theorem mixKind_int(prog:Program)(w:World)(i:Int)(t:Tok):(mixKind prog w).is (.inl i) (.int i t)=true:=keyIs_int i t
theorem mixKind_str(prog:Program)(w:World)(x:Str)(t:Tok):(mixKind prog w).is (.inr x) (.str x t)=true:=keyIs_str x t
end L2
namespace L2
open PySem PySem.Spec PyProof.Rows
inductive V where
 | non | bl (b:Bool) | int (i:Int) | str (x:Str) | byt (b:Array UInt8) | flt (b:UInt64) | ref (a:Addr) | ty (n:String)
 deriving DecidableEq
def RelV:V->Value->Prop
 | .non,u=>u=Value.none
 | .bl b,u=>u=Value.bool b
 | .int i,u=>∃ t,u=Value.int i t
 | .str x,u=>∃ t,u=Value.str x t
 | .byt b,u=>∃ t,u=Value.bytes b t
 | .flt b,u=>∃ t,u=Value.float b t
 | .ref a,u=>u=Value.ref a
 | .ty n,u=>u=Value.type n
abbrev Vals:List V->List Value->Prop:=Paired RelV
theorem Vals.length{xs:List V}{us:List Value}(r:Vals xs us):xs.length=us.length:=Paired.length r
theorem Vals.get:∀ {xs:List V} {us:List Value} {i:Nat} {x:V},Vals xs us->xs[i]?=some x->∃ u,us[i]?=some u∧RelV x u
 | _,_,_,_,.nil,e=>by simp at e
 | _,_,0,_,.cons r _,e=>by simp at e; subst e; exact ⟨_,rfl,r⟩
 | _,_,i+1,x,.cons _ t,e=>by
  obtain ⟨u,h1,h2⟩:=Vals.get (i:=i) (x:=x) t (by simpa using e)
  exact ⟨u,by simpa using h1,h2⟩
theorem Vals.set{x:V}{u:Value}(r:RelV x u):∀ {xs:List V} {us:List Value} (i:Nat),Vals xs us->Vals (xs.set i x) (us.set i u)
 | _,_,_,.nil=>.nil
 | _,_,0,.cons _ t=>.cons r t
 | _,_,i+1,.cons q t=>.cons q (Vals.set r i t)
theorem Vals.append:∀ {xs ys:List V} {us ws:List Value},Vals xs us->Vals ys ws->Vals (xs++ys) (us++ws)
 | _,_,_,_,.nil,s=>s
 | _,_,_,_,.cons r t,s=>.cons r (Vals.append t s)
theorem Vals.take:∀ {xs:List V} {us:List Value} (n:Nat),Vals xs us->Vals (xs.take n) (us.take n)
 | _,_,0,_=>.nil
 | _,_,_+1,.nil=>.nil
 | _,_,n+1,.cons r t=>.cons r (Vals.take n t)
theorem Vals.drop:∀ {xs:List V} {us:List Value} (n:Nat),Vals xs us->Vals (xs.drop n) (us.drop n)
 | _,_,0,r=>r
 | _,_,_+1,.nil=>.nil
 | _,_,n+1,.cons _ t=>Vals.drop n t
def RelO:Option V->Option Value->Prop
 | some v,some u=>RelV v u
 | none,none=>True
 | _,_=>False
def KV{κ:Type}:List (κ×V)->List (κ×Value)->Prop:=Paired fun (p:κ×V) (q:κ×Value)=>p.1=q.1∧RelV p.2 q.2
def kV:Key->V
 | .inl i=>.int i
 | .inr x=>.str x
inductive HO where
 | lst (xs:List V)
 | tup (xs:List V)
 | dK (kvs:List (Key×V)) | dT (kvs:List (List Key×V))
 | set (S:Int->Bool) (n:Nat)
 | ins (C dx:Addr) (fs:List (Str×V))
 | own (x:Addr)
 | xd (fs:List (Str×V))
 | met (f x:Addr)
 | rng (lo hi:Int)
 | frz (o:Obj) (u:HO)
 | tbl (ps:Array Value)
 | ext (φ:Heap->Prop)
abbrev Hp:=Addr->Option HO
def upd(H:Hp)(a:Addr)(o:HO):Hp:=fun b=>if b=a then some o else H b
theorem upd_same{H:Hp}{a:Addr}{o:HO}:upd H a o a=some o:=by unfold upd; rw [if_pos rfl]
theorem upd_ne{H:Hp}{a b:Addr}{o:HO}(h:b≠a):upd H a o b=H b:=by unfold upd; rw [if_neg h]
theorem ne_of{H:Hp}{a b:Addr}{o u:HO}(h:H a=some o)(h':H b=some u)(d:o≠u):a≠b:=by
 intro e; subst e; rw [h] at h'; exact d (Option.some.inj h')
theorem ne_of_none{H:Hp}{a b:Addr}{o:HO}(h:H a=some o)(h':H b=none):a≠b:=by
 intro e; subst e; rw [h] at h'; cases h'
section
variable (P:Program) (w:World)
def ObjOk(H:Hp)(h:Heap)(a:Addr):HO->Prop
 | .lst xs=>xs.length≤sizeLine∧∃ (its:List Value) (n:Nat),Vals xs its∧h.get? a=some { cls:=.type "list",data:=.seq its.toArray n }
 | .tup xs=>xs.length≤sizeLine∧∃ its:List Value,Vals xs its∧IsTup h a its.toArray
 | .dK kvs=>kvs.length≤sizeLine∧(a==sysModules)=false∧∃ vs,KV kvs vs∧h.DictOf (mixKind P w) a vs
 | .dT kvs=>kvs.length≤sizeLine∧(a==sysModules)=false∧∃ xs:List (List Key×Addr×Value),
   Paired (fun (p:List Key×V) (q:List Key×Addr×Value)=>p.1=q.1∧H q.2.1=some (.tup (p.1.map kV))∧RelV p.2 q.2.2) kvs xs ∧
   ∃ o es ep,h.get? a=some o∧o.ExactDict∧o.data=.dict es ep∧es.toList=xs.map (entryOfKey (tupleKind (mixKind P w)))∧(xs.map (·.1)).Nodup
 | .set S n=>h.SetOf (intKind P w) a S n
 | .ins C dx fs=>H dx=some (.own a)∧fs.length≤1000∧dx≠a∧h.get? a=some (PySem.W.instObj C dx) ∧
   ∃ mA,h.Ns1 dx mA∧(∀ f,RelO (fs.lookup f) (mA f))∧PySem.Within mA (fs.map (·.1))
 | .own _=>∃ o,h.get? a=some o
 | .xd fs=>∃ mA,h.Ns1 a mA∧∀ f,RelO (fs.lookup f) (mA f)
 | .rng lo hi=>∃ t u v,h.get? a=some { cls:=.type "range",data:=.fields #[.int lo t,.int hi u,.int 1 v] }
 | .frz o u=>h.get? a=some o∧ObjOk H h a u
 | .tbl ps=>h.get? a=some { cls:=.none,data:=.fields ps }
 | .met f x=>h.get? a=some (PySem.W.methodObj (.ref f) (.ref x))
 | .ext φ=>φ h∧(∃ o,h.get? a=some o)∧∀ h1 h2:Heap,φ h1->(∀ o,h1.get? a=some o->h2.get? a=some o)->φ h2
def HOk(H:Hp)(h:Heap):Prop:=∀ a o,H a=some o->ObjOk P w H h a o
end
section
variable {P:Program} {w:World} {H H':Hp} {h h':Heap} {a:Addr} {o:HO}
theorem ObjOk.lt(x:ObjOk P w H h a o):a < h.objs.size:=by
 cases o with
 | lst xs=>obtain ⟨_,_,_,_,e⟩:=x; exact Heap.lt_size e
 | tup xs=>obtain ⟨_,_,_,p⟩:=x; exact p.lt
 | dK kvs=>obtain ⟨_,_,_,_,o,_,_,e,_⟩:=x; exact Heap.lt_size e
 | dT kvs=>obtain ⟨_,_,_,_,o,_,_,e,_⟩:=x; exact Heap.lt_size e
 | set S n=>obtain ⟨o,_,_,_,e,_⟩:=x; exact Heap.lt_size e
 | ins C dx fs=>obtain ⟨_,_,_,e,_⟩:=x; exact Heap.lt_size e
 | own y=>obtain ⟨_,e⟩:=x; exact Heap.lt_size e
 | xd fs=>obtain ⟨_,⟨_,_,_,e,_⟩,_⟩:=x; exact Heap.lt_size e
 | rng lo hi=>obtain ⟨_,_,_,e⟩:=x; exact Heap.lt_size e
 | frz ob u=>obtain ⟨e,_⟩:=x; exact Heap.lt_size e
 | tbl ps=>exact Heap.lt_size (show h.get? a=some _ from x)
 | met f y=>exact Heap.lt_size (show h.get? a=some _ from x)
 | ext φ=>obtain ⟨_,⟨_,e⟩,_⟩:=x; exact Heap.lt_size e
theorem Paired.mapP{α β:Type}{F G:α->β->Prop}:∀ {l₁:List α} {l₂:List β},Paired F l₁ l₂->(∀ a b,F a b->G a b)->Paired G l₁ l₂
 | _,_,.nil,_=>.nil
 | _,_,.cons r t,f=>.cons (f _ _ r) (Paired.mapP t f)
theorem ObjOk.stay(x:ObjOk P w H h a o)(k:∀ b u,(b=a∨H b=some (.own a))->h.get? b=some u->h'.get? b=some u)
  (ho:∀ b,H b=some (.own a)->H' b=some (.own a)) (ht:∀ b xs,H b=some (.tup xs)->H' b=some (.tup xs)):ObjOk P w H' h' a o:=by
 induction o with
 | lst xs=>obtain ⟨z,its,n,r,e⟩:=x; exact ⟨z,its,n,r,k _ _ (.inl rfl) e⟩
 | tup xs=>obtain ⟨z,its,r,ob,e,c⟩:=x; exact ⟨z,its,r,ob,k _ _ (.inl rfl) e,c⟩
 | dK kvs=>obtain ⟨z,y,vs,r,ob,es,ep,e,c⟩:=x; exact ⟨z,y,vs,r,ob,es,ep,k _ _ (.inl rfl) e,c⟩
 | dT kvs =>
  obtain ⟨z,y,xs,r,ob,es,ep,e,c⟩:=x
  exact ⟨z,y,xs,Paired.mapP r fun p q z=>⟨z.1,ht _ _ z.2.1,z.2.2⟩,ob,es,ep,k _ _ (.inl rfl) e,c⟩
 | set S n=>obtain ⟨ob,es,ep,t,e,c⟩:=x; exact ⟨ob,es,ep,t,k _ _ (.inl rfl) e,c⟩
 | ins C dx fs =>
  obtain ⟨d,z,ne,e,mA,⟨od,es,ep,e2,c⟩,r⟩:=x
  exact ⟨ho _ d,z,ne,k _ _ (.inl rfl) e,mA,⟨od,es,ep,k _ _ (.inr d) e2,c⟩,r⟩
 | own y=>obtain ⟨ob,e⟩:=x; exact ⟨ob,k _ _ (.inl rfl) e⟩
 | xd fs=>obtain ⟨mA,⟨od,es,ep,e,c⟩,r⟩:=x; exact ⟨mA,⟨od,es,ep,k _ _ (.inl rfl) e,c⟩,r⟩
 | rng lo hi=>obtain ⟨t,u,v,e⟩:=x; exact ⟨t,u,v,k _ _ (.inl rfl) e⟩
 | frz ob u ih=>obtain ⟨e,q⟩:=x; exact ⟨k _ _ (.inl rfl) e,ih q⟩
 | tbl ps =>
  have e:h.get? a=some { cls:=.none,data:=.fields ps }:=x
  show h'.get? a=some { cls:=.none,data:=.fields ps }
  exact k a _ (.inl rfl) e
 | met f y =>
  have e:h.get? a=some (PySem.W.methodObj (.ref f) (.ref y)):=x
  show h'.get? a=some (PySem.W.methodObj (.ref f) (.ref y))
  exact k a _ (.inl rfl) e
 | ext φ=>obtain ⟨p,⟨o,e⟩,st⟩:=x; exact ⟨st _ _ p fun o q=>k _ _ (.inl rfl) q,⟨o,k _ _ (.inl rfl) e⟩,st⟩
theorem HOk.lt(x:HOk P w H h)(e:H a=some o):a < h.objs.size:=(x a o e).lt
theorem HOk.fresh(x:HOk P w H h)(e:h.objs.size≤a):H a=none:=by
 cases q:H a with
 | none=>rfl
 | some u=>exact absurd (Nat.lt_of_lt_of_le (x.lt q) e) (Nat.lt_irrefl _)
theorem HOk.kept(x:HOk P w H h)(k:∀ b u,h.get? b=some u->h'.get? b=some u):HOk P w H h':=fun a o e =>
 (x a o e).stay (fun b u _ q=>k b u q) (fun _ q=>q) fun _ _ q=>q
theorem HOk.laid(x:HOk P w H h)(k:∀ b u,h.get? b=some u->h'.get? b=some u)(hp:h.objs.size≤a)(new:ObjOk P w (upd H a o) h' a o):HOk P w (upd H a o) h':=fun b u e=>by
 have hn:=x.fresh hp
 by_cases hb:b=a
 ·subst hb; rw [upd_same] at e; cases e; exact new
 ·rw [upd_ne hb] at e
  exact (x b u e).stay (fun c v _ q=>k c v q) (fun c q=>by rw [upd_ne (ne_of_none q hn)]; exact q) fun c xs q=>by rw [upd_ne (ne_of_none q hn)]; exact q
end
def Rd(H:Hp)(a:Addr)(u:HO):Prop:=H a=some u∨∃ o,H a=some (.frz o u)
theorem Rd.ok{P:Program}{w:World}{H:Hp}{h:Heap}{a:Addr}{u:HO}(r:Rd H a u)(x:HOk P w H h):ObjOk P w H h a u:=by
 rcases r with r | ⟨o,r⟩
 ·exact x a u r
 ·obtain ⟨_,q⟩:=x a _ r
  exact q
def Mut:Option HO->Prop
 | some (.lst _)=>True
 | some (.dK _)=>True
 | some (.dT _)=>True
 | some (.set _ _)=>True
 | some (.ins _ _ _)=>True
 | some (.ext _)=>True
 | _=>False
section
variable {P:Program} {w:World} {H:Hp} {h h':Heap} {x e:Addr} {o':HO}
theorem HOk.write(ok:HOk P w H h)(mu:Mut (H x))(he:e=x∨H e=some (.own x))(k:∀ b u,b≠e->h.get? b=some u->h'.get? b=some u)(heo:∃ u,h'.get? e=some u)
  (new:ObjOk P w (upd H x o') h' x o'):HOk P w (upd H x o') h':=fun b u q=>by
 have nown:∀ c y,H c=some (.own y)->c≠x:=fun c y r z=>by subst z; rw [r] at mu; exact mu
 have ntup:∀ c xs,H c=some (.tup xs)->c≠x:=fun c xs r z=>by subst z; rw [r] at mu; exact mu
 by_cases hb:b=x
 ·subst hb; rw [upd_same] at q; cases q; exact new
 ·rw [upd_ne hb] at q
  by_cases hbe:b=e
  ·have q':H b=some (.own x):=by
    rcases he with z | z
    ·exact absurd (hbe.trans z) hb
    ·rw [hbe]; exact z
   rw [q] at q'; cases q'
   obtain ⟨v,hv⟩:=heo
   exact ⟨v,by rw [hbe]; exact hv⟩
  ·refine (ok b u q).stay (fun c v hc r=>k c v ?_ r) (fun c r=>by rw [upd_ne (nown c b r)]; exact r) fun c xs r=>by rw [upd_ne (ntup c xs r)]; exact r
   rcases hc with rfl | hc
   ·exact hbe
   ·rintro rfl
    rcases he with z | z
    ·exact nown c b hc z
    ·rw [hc] at z; cases z; exact hb rfl
end
structure Un(fs ex:List Addr)(H H':Hp)(h h':Heap):Prop where
 keep:∀ b o,h.get? b=some o->H b=none->b∉fs->b∉ex->h'.get? b=some o
 slot:∀ b o,h.get? b=some o->H b=none->b∈fs->b∉ex->∃ sl,h'.get? b=some { o with slots:=sl }
 free:∀ b o,h.get? b=some o->H b=none->b∉ex->H' b=none
 there:∀ b o,h.get? b=some o->b∉ex->∃ o',h'.get? b=some o'
 tups:∀ b xs,H b=some (.tup xs)->H' b=some (.tup xs)
 frzs:∀ b o u,H b=some (.frz o u)->H' b=some (.frz o u)
 tbls:∀ b ps,H b=some (.tbl ps)->∃ more,H' b=some (.tbl (ps++more))
section
variable {fs fs' ex ex':List Addr} {H H1 H2:Hp} {h h1 h2 h':Heap} {a x e:Addr} {o:HO}
theorem Un.any(u:Un fs ex H H1 h h1){b:Addr}{ob:Obj}(q:h.get? b=some ob)(n:H b=none)(hx:b∉ex):∃ sl,h1.get? b=some { ob with slots:=sl }:=by
 by_cases hb:b∈fs
 ·exact u.slot b ob q n hb hx
 ·exact ⟨ob.slots,u.keep b ob q n hb hx⟩
theorem Un.kept(k:∀ b u,h.get? b=some u->h'.get? b=some u):Un fs ex H H h h' :=
 ⟨fun b ob q _ _ _=>k b ob q,fun b ob q _ _ _=>⟨ob.slots,k b ob q⟩,fun _ _ _ n _=>n,fun b ob q _=>⟨ob,k b ob q⟩,fun _ _ q=>q,fun _ _ _ q=>q,fun _ ps q=>⟨#[],by rw [q]; simp⟩⟩
theorem Un.refl:Un fs ex H H h h:=Un.kept fun _ _ q=>q
theorem Un.laid(k:∀ b u,h.get? b=some u->h'.get? b=some u)(hp:h.objs.size≤a)(hn:H a=none):Un fs ex H (upd H a o) h h' where
 keep:=fun b u q _ _ _=>k b u q
 slot:=fun b u q _ _ _=>⟨u.slots,k b u q⟩
 free:=fun b u q n _=>by rw [upd_ne (Nat.ne_of_lt (Nat.lt_of_lt_of_le (Heap.lt_size q) hp))]; exact n
 there:=fun b u q _=>⟨u,k b u q⟩
 tups:=fun b xs q=>by rw [upd_ne (ne_of_none q hn)]; exact q
 frzs:=fun b u xs q=>by rw [upd_ne (ne_of_none q hn)]; exact q
 tbls:=fun b ps q=>⟨#[],by rw [upd_ne (ne_of_none q hn),q]; simp⟩
theorem Un.write(mu:Mut (H x))(he:e=x∨H e=some (.own x))(k:∀ b u,b≠e->h.get? b=some u->h'.get? b=some u)(heo:∃ u,h'.get? e=some u):Un fs ex H (upd H x o) h h':=by
 have hx:∀ b,H b=none->b≠x:=fun b n z=>by subst z; rw [n] at mu; exact mu
 have hb:∀ b,H b=none->b≠e:=fun b n z=>by
  subst z
  rcases he with r | r
  ·exact hx b n r
  ·rw [n] at r; cases r
 have hm:∀ b u,H b=some u->¬ Mut (some u)->b≠x:=fun b u q nm z=>by subst z; rw [q] at mu; exact nm mu
 refine ⟨fun b u q n _ _=>k b u (hb b n) q,fun b u q n _ _=>⟨u.slots,k b u (hb b n) q⟩,fun b u q n _=>by rw [upd_ne (hx b n)]; exact n,fun b u q _=>?_,
  fun b xs q=>by rw [upd_ne (hm b _ q fun z=>z)]; exact q,fun b u xs q=>by rw [upd_ne (hm b _ q fun z=>z)]; exact q,fun b ps q=>⟨#[],by rw [upd_ne (hm b _ q fun z=>z),q]; simp⟩⟩
 by_cases hbe:b=e
 ·subst hbe; exact heo
 ·exact ⟨u,k b u hbe q⟩
end
def trk(h:Heap)(H:Hp):List Addr:=(List.range h.objs.size).filter fun a=>(H a).isSome
def hidT(h:Heap)(H:Hp):Heap:=PySem.W.hideAll h (trk h H)
theorem hidT_size(h:Heap)(H:Hp):(hidT h H).objs.size=h.objs.size:=PySem.W.hideAll_size _ _
theorem hidT_get{h:Heap}{H:Hp}{b:Addr}{o:Obj}(e:h.get? b=some o)(n:H b=none):(hidT h H).get? b=some o :=
 PySem.W.hideAll_get _ e fun hm=>by
  have q:(H b).isSome=true:=(List.mem_filter.mp hm).2
  rw [n] at q; simp at q
theorem of_hidT{h:Heap}{H:Hp}{b:Addr}{o:Obj}(e:(hidT h H).get? b=some o):h.get? b=some o∧H b=none:=by
 have e':h.get? b=some o:=PySem.W.of_hideAll (trk h H) e
 refine ⟨e',?_⟩
 cases q:H b with
 | none=>rfl
 | some x =>
  have hm:b∈trk h H:=List.mem_filter.mpr ⟨List.mem_range.mpr (Heap.lt_size e'),by simp [q]⟩
  have z:(hidT h H).get? b=none:=PySem.W.hideAll_none (trk h H) hm
  rw [z] at e; cases e
end L2
namespace L2
open PySem PySem.Spec PyProof.Rows
structure Mod(K:PySem.W.Frag)(mg:Str->Option Value)(base:Heap):Prop where
 kin:K.In base
 glob:base.Ns mainGlobals mg
 blt:∃ mb,base.Ns builtinsNs mb∧∀ x:Str,x≠"__name__"->mb x=bootBuiltins x
 nolimit:base.NoLimit
structure Cx where
 prog:Program
 w:World
 K:PySem.W.Frag
 mg:Str->Option Value
 base:Heap
 A:Around
 N:List Str
 s_0:Shared
 H_0:Hp
 env:Env
 outer:List Env
 stack:List Env
 ex:List Addr
 fn:Str->Bool
 calm:Bool
 pn:List (Addr×Obj)
 xe:Value->Shared->Prop
def frs(l:List Env):List Addr:=l.filterMap (·.frame)
abbrev Cx.fs(X:Cx):List Addr:=frs X.outer
def Vis(sc:Scope)(x:Str):Prop:=sc.names.lookup x=some .local∨sc.names.lookup x=some .cell∨sc.names.lookup x=some .free
def Loc(sc:Scope)(x:Str):Prop:=sc.names.lookup x=some .local∨sc.names.lookup x=some .cell
def Look(env:Env)(h:Heap)(m:Str->Option Value)(x:Str)(u:Value):Prop :=
 (env.kindOf x=some .local∧m x=some u)∨((env.kindOf x=some .cell∨env.kindOf x=some .free)∧∃ c,env.cells.lookup x=some c∧h.IsCell c (some u))
structure Cx.Ok(X:Cx):Prop where
 mod:Mod X.K X.mg X.base
 kind:X.env.scope.kind=.function
 glob:X.env.globals=mainGlobals
 blt:X.env.builtins=builtinsNs
 above:X.s_0.heap.objs.size≤X.env.locals
 inj:∀ x y c,X.env.cells.lookup x=some c->X.env.cells.lookup y=some c->x=y
 has:∀ x,(X.env.kindOf x=some .cell∨X.env.kindOf x=some .free)->∃ c,X.env.cells.lookup x=some c
 cab:∀ x c,X.fn x=true->X.env.cells.lookup x=some c->X.s_0.heap.objs.size≤c
 hd:X.calm=true->X.A.handled=none
 frames:X.A.frames=some X.stack
 stk:X.stack=X.outer∨(X.stack=X.env::X.outer∧X.env.frame=some X.env.locals)
 exf:∀ b∈X.ex,b≠X.env.locals∧∀ x c,X.env.cells.lookup x=some c->c≠b
 bs:∀ b o,X.base.get? b=some o->X.s_0.heap.get? b=some o∧X.H_0 b=none
 bsz:X.base.objs.size≤X.s_0.heap.objs.size
 noex:∀ b o,X.base.get? b=some o->b∉X.ex
 exfs:∀ b∈X.ex,b∉X.fs
 funs:X.s_0.heap.FunFrames X.base X.outer
 frf:∀ b∈X.fs,X.H_0 b=none
structure Inv(X:Cx)(pins:List (Addr×Obj))(σ:List (Option V))(H:Hp)(s:Shared):Prop where
 ok:X.Ok
 os:s.os=X.s_0.os
 bare:AllBare s.gens
 base:Un X.fs X.ex X.H_0 H X.s_0.heap s.heap
 loc:∃ m,s.heap.Ns X.env.locals m∧∀ (i:Nat) (x:Str) (v:V),X.N[i]?=some x->σ[i]?=some (some v)->Vis X.env.scope x->∃ u,RelV v u∧Look X.env s.heap m x u
 cell:∀ x c,X.env.cells.lookup x=some c->∃ v,s.heap.IsCell c v
 free:H X.env.locals=none
 freeC:∀ x c,X.env.cells.lookup x=some c->H c=none
 pin:∀ p∈X.pn++pins,s.heap.get? p.1=some p.2∧H p.1=none∧p.1≠X.env.locals∧p.1∉X.fs∧∀ v,p.2.data≠.cell v
 hok:HOk X.prog X.w H s.heap
 len:σ.length=X.N.length
section
variable {X:Cx} {pins:List (Addr×Obj)} {σ:List (Option V)} {H H':Hp} {s:Shared} {h':Heap}
theorem Cx.Ok.nofr(ok:X.Ok){b:Addr}{o:Obj}(e:X.base.get? b=some o):b∉X.fs:=fun hb=>by
 have:=(ok.funs.mem hb).1
 rw [e] at this; cases this
theorem Inv.bs(I:Inv X pins σ H s):∀ b o,X.base.get? b=some o->s.heap.get? b=some o∧H b=none:=fun b o e =>
 ⟨I.base.keep b o (I.ok.bs b o e).1 (I.ok.bs b o e).2 (I.ok.nofr e) (I.ok.noex b o e),I.base.free b o (I.ok.bs b o e).1 (I.ok.bs b o e).2 (I.ok.noex b o e)⟩
theorem Inv.bk(I:Inv X pins σ H s):∀ b o,X.base.get? b=some o->s.heap.get? b=some o:=fun b o e=>(I.bs b o e).1
theorem Inv.mod(I:Inv X pins σ H s):Mod X.K X.mg X.base:=I.ok.mod
theorem Inv.kIn(I:Inv X pins σ H s):X.K.In s.heap:=I.ok.mod.kin.keeps I.bk
theorem Inv.fr(I:Inv X pins σ H s):∃ m,Fr X.base X.env.locals s.heap m :=
 let ⟨m,hn,_⟩:=I.loc
 ⟨m,hn,I.bk,Nat.le_trans I.ok.bsz I.ok.above⟩
theorem Inv.lt(I:Inv X pins σ H s):X.env.locals < s.heap.objs.size:=let ⟨_,hn,_⟩:=I.loc; hn.lt
theorem Inv.sz(I:Inv X pins σ H s):X.s_0.heap.objs.size≤s.heap.objs.size:=Nat.le_trans I.ok.above (Nat.le_of_lt I.lt)
theorem Inv.nofs(I:Inv X pins σ H s){a:Addr}(h:s.heap.objs.size≤a):a∉X.fs:=fun hb=>by
 obtain ⟨_,o,ho,_⟩:=I.ok.funs.mem hb
 exact absurd (Nat.lt_of_lt_of_le (Heap.lt_size ho) (Nat.le_trans I.sz h)) (Nat.lt_irrefl _)
theorem Inv.cne(I:Inv X pins σ H s):∀ x c,X.env.cells.lookup x=some c->c≠X.env.locals:=fun x c e z=>by
 obtain ⟨v,o,ho,hd⟩:=I.cell x c e
 obtain ⟨m,⟨o',es,ep,ho',hd',_⟩,_⟩:=I.loc
 rw [z,ho'] at ho; cases ho; rw [hd'] at hd; cases hd
theorem Inv.funs(I:Inv X pins σ H s):s.heap.FunFrames X.base X.outer:=by
 have all:∀ (l:List Env),(∀ b∈frs l,b∈X.fs)->X.s_0.heap.FunFrames X.base l->s.heap.FunFrames X.base l:=by
  intro l
  induction l with
  | nil=>intro _ _; trivial
  | cons env r ih =>
   intro hs hl
   obtain ⟨hk,⟨L,o,hf,hn,ho,hd⟩,hr⟩:=hl
   have hL:L∈X.fs:=hs L (by unfold frs; rw [List.filterMap_cons,hf]; exact List.mem_cons_self)
   obtain ⟨sl,e⟩:=I.base.slot L o ho (I.ok.frf L hL) hL fun z=>I.ok.exfs L z hL
   exact ⟨hk,⟨L,_,hf,hn,e,hd⟩,ih (fun b hb=>hs b (by unfold frs; rw [List.filterMap_cons,hf]; exact List.mem_cons_of_mem _ hb)) hr⟩
 exact all X.outer (fun _ hb=>hb) I.ok.funs
theorem Inv.stack(I:Inv X pins σ H s):s.heap.FunFrames X.base X.stack:=by
 rcases I.ok.stk with e | ⟨e,hf⟩
 ·rw [e]; exact I.funs
 ·rw [e]
  obtain ⟨m,hn,_⟩:=I.loc
  refine .cons (by rw [I.ok.kind]; decide) hf hn ?_ I.funs
  exact Heap.get?_none_of_le (Nat.le_trans I.ok.bsz I.ok.above)
theorem Inv.stkSub(I:Inv X pins σ H s):∀ b∈frs X.stack,b∈X.env.locals::X.fs:=fun b hb=>by
 rcases I.ok.stk with e | ⟨e,hf⟩
 ·rw [e] at hb; exact List.mem_cons_of_mem _ hb
 ·rw [e] at hb
  unfold frs at hb
  rw [List.filterMap_cons,hf] at hb
  exact hb
theorem Inv.stkFree(I:Inv X pins σ H s):∀ b∈frs X.stack,H b=none:=fun b hb=>by
 rcases List.mem_cons.mp (I.stkSub b hb) with e | hb
 ·rw [e]; exact I.free
 ·obtain ⟨_,o,ho,_⟩:=I.ok.funs.mem hb
  exact I.base.free b o ho (I.ok.frf b hb) fun z=>I.ok.exfs b z hb
theorem Inv.step{g':Array GenState}{t':Nat}{d':Drawn}{ch:List Addr}(I:Inv X pins σ H s)
  (hch:∀ b∈ch,(b∈X.ex∨X.s_0.heap.objs.size≤b)∧b≠X.env.locals∧(∀ x c,X.env.cells.lookup x=some c->c≠b)∧∀ p∈X.pn++pins,p.1≠b)
  (keep:∀ b o,b≠X.env.locals->b∉X.fs->b∉ch->s.heap.get? b=some o->H b=none->h'.get? b=some o)
  (slot:∀ b o,b≠X.env.locals->b∈X.fs->b∉ch->s.heap.get? b=some o->H b=none->∃ sl,h'.get? b=some { o with slots:=sl }) (free:∀ b o,b∉ch->s.heap.get? b=some o->H b=none->H' b=none)
  (there:∀ b o,b∉ch->s.heap.get? b=some o->∃ o',h'.get? b=some o')
  (tups:∀ b xs,H b=some (.tup xs)->H' b=some (.tup xs)) (frzs:∀ b o u,H b=some (.frz o u)->H' b=some (.frz o u)) (tbls:∀ b ps,H b=some (.tbl ps)->∃ more,H' b=some (.tbl (ps++more)))
  (ns:∀ m,s.heap.Ns X.env.locals m->h'.Ns X.env.locals m) (hok:HOk X.prog X.w H' h') (hg:AllBare g') :
  Inv X pins σ H' { s with heap:=h',gens:=g',drawn:=d',toks:=t' }:=by
 have neL:∀ b o,X.s_0.heap.get? b=some o->b≠X.env.locals:=fun b o e=>Nat.ne_of_lt (Nat.lt_of_lt_of_le (Heap.lt_size e) I.ok.above)
 have neC:∀ b o,X.s_0.heap.get? b=some o->b∉X.ex->b∉ch:=fun b o e hx hb=>by
  rcases (hch b hb).1 with z | z
  ·exact hx z
  ·exact absurd (Nat.lt_of_lt_of_le (Heap.lt_size e) z) (Nat.lt_irrefl _)
 have cellK:∀ x c,X.env.cells.lookup x=some c->∀ v,s.heap.IsCell c v->h'.IsCell c v:=fun x c e v ⟨o,ho,hd⟩=>by
  have nch:c∉ch:=fun z=>(hch c z).2.2.1 x c e rfl
  by_cases hc:c∈X.fs
  ·obtain ⟨sl,q⟩:=slot c o (I.cne x c e) hc nch ho (I.freeC x c e)
   exact ⟨_,q,hd⟩
  ·exact ⟨o,keep c o (I.cne x c e) hc nch ho (I.freeC x c e),hd⟩
 refine ⟨I.ok,I.os,hg,⟨fun b o e n hb hx=>?_,fun b o e n hb hx=>?_,fun b o e n hx=>?_,fun b o e hx=>?_,fun b xs e=>tups b xs (I.base.tups b xs e),fun b o xs e=>frzs b o xs (I.base.frzs b o xs e),fun b ps e=>?_⟩,?_,fun x c e=>?_,?_,fun x c e=>?_,fun p hp=>?_,hok,I.len⟩
 ·exact keep b o (neL b o e) hb (neC b o e hx) (I.base.keep b o e n hb hx) (I.base.free b o e n hx)
 ·obtain ⟨sl,e1⟩:=I.base.slot b o e n hb hx
  obtain ⟨sl',e2⟩:=slot b _ (neL b o e) hb (neC b o e hx) e1 (I.base.free b o e n hx)
  exact ⟨sl',e2⟩
 ·obtain ⟨o',e1⟩:=I.base.there b o e hx
  exact free b o' (neC b o e hx) e1 (I.base.free b o e n hx)
 ·obtain ⟨o',e1⟩:=I.base.there b o e hx
  exact there b o' (neC b o e hx) e1
 ·obtain ⟨m1,e1⟩:=I.base.tbls b ps e
  obtain ⟨m2,e2⟩:=tbls b _ e1
  exact ⟨m1++m2,by rw [e2,Array.append_assoc]⟩
 ·obtain ⟨m,hn,hl⟩:=I.loc
  refine ⟨m,ns m hn,fun i x v e1 e2 e3=>?_⟩
  obtain ⟨u,r,l⟩:=hl i x v e1 e2 e3
  refine ⟨u,r,?_⟩
  rcases l with l | ⟨k,c,e,z⟩
  ·exact .inl l
  ·exact .inr ⟨k,c,e,cellK x c e _ z⟩
 ·obtain ⟨v,z⟩:=I.cell x c e
  exact ⟨v,cellK x c e v z⟩
 ·obtain ⟨m,⟨o,_,_,ho,_⟩,_⟩:=I.loc
  exact free _ o (fun z=>(hch _ z).2.1 rfl) ho I.free
 ·obtain ⟨v,o,ho,hd⟩:=I.cell x c e
  exact free c o (fun z=>(hch c z).2.2.1 x c e rfl) ho (I.freeC x c e)
 ·obtain ⟨e,n,ne,nf,d⟩:=I.pin p hp
  have nch:p.1∉ch:=fun z=>(hch p.1 z).2.2.2 p hp rfl
  exact ⟨keep p.1 p.2 ne nf nch e n,free p.1 p.2 nch e n,ne,nf,d⟩
theorem Inv.un{t':Nat}(I:Inv X pins σ H s)(u:Un X.fs [] H H' s.heap h')(hok:HOk X.prog X.w H' h'):Inv X pins σ H' { s with heap:=h',toks:=t' }:=by
 obtain ⟨m,⟨o,es,ep,ho,r⟩,_⟩:=id I.loc
 obtain ⟨sl,hL⟩:=u.any ho I.free (by simp)
 exact I.step (g':=s.gens) (d':=s.drawn) (ch:=[]) (fun _ z=>nomatch z) (fun b o _ hb _ e n=>u.keep b o e n hb (by simp)) (fun b o _ hb _ e n=>u.slot b o e n hb (by simp)) (fun b o _ e n=>u.free b o e n (by simp)) (fun b o _ e=>u.there b o e (by simp)) u.tups u.frzs u.tbls (fun m' hm=>by
  obtain ⟨o',es',ep',ho',r'⟩:=hm
  rw [ho] at ho'; cases ho'
  exact ⟨_,es',ep',hL,r'⟩) hok I.bare
theorem Inv.call{g':Array GenState}{t':Nat}{d':Drawn}{ch:List Addr}(I:Inv X pins σ H s)(u:Un (frs X.stack) ch H H' s.heap h')(hok:HOk X.prog X.w H' h')(hg:AllBare g')
  (hch:∀ b∈ch,(b∈X.ex∨X.s_0.heap.objs.size≤b)∧b≠X.env.locals∧(∀ x c,X.env.cells.lookup x=some c->c≠b)∧∀ p∈X.pn++pins,p.1≠b) :
  Inv X pins σ H' { s with heap:=h',gens:=g',drawn:=d',toks:=t' }:=by
 obtain ⟨m,⟨o,es,ep,ho,r⟩,_⟩:=id I.loc
 obtain ⟨sl,hL⟩:=u.any ho I.free fun z=>(hch _ z).2.1 rfl
 exact I.step (ch:=ch) hch (fun b o hL hb hc e n=>u.keep b o e n (fun z=>(List.mem_cons.mp (I.stkSub b z)).elim hL hb) hc) (fun b o _ _ hc e n=>u.any e n hc) (fun b o hc e n=>u.free b o e n hc) (fun b o hc e=>u.there b o e hc) u.tups u.frzs u.tbls (fun m' hm=>by
  obtain ⟨o',es',ep',ho',r'⟩:=hm
  rw [ho] at ho'; cases ho'
  exact ⟨_,es',ep',hL,r'⟩) hok hg
theorem Inv.turned{t':Nat}{it:Addr}(I:Inv X pins σ H s)(k:∀ b o,b≠it->s.heap.get? b=some o->h'.get? b=some o)(hn:H it=none)(hL:it≠X.env.locals)
  (h1:it∈X.ex∨X.s_0.heap.objs.size≤it) (h2:∀ x c,X.env.cells.lookup x=some c->c≠it) (h3:∀ p∈X.pn++pins,p.1≠it):Inv X pins σ H { s with heap:=h',toks:=t' }:=by
 have nit:∀ b u,H b=some u->b≠it:=fun b u e z=>by rw [z,hn] at e; cases e
 refine I.step (g':=s.gens) (d':=s.drawn) (ch:=[it]) (fun b hb=>?_) (fun b o _ _ hc e _=>k b o (fun z=>hc (by simp [z])) e) (fun b o _ _ hc e _=>⟨o.slots,k b o (fun z=>hc (by simp [z])) e⟩) (fun _ _ _ _ n=>n)
  (fun b o hc e=>⟨o,k b o (fun z=>hc (by simp [z])) e⟩) (fun _ _ e=>e) (fun _ _ _ e=>e) (fun b ps e=>⟨#[],by rw [e]; simp⟩) (fun m hm=>?_) (fun b u e=>?_) I.bare
 ·have e:b=it:=by simpa using hb
  subst e
  exact ⟨h1,hL,h2,h3⟩
 ·obtain ⟨o,es,ep,ho,r⟩:=hm
  exact ⟨o,es,ep,k _ o (Ne.symm hL) ho,r⟩
 ·refine (I.hok b u e).stay (fun c v hc q=>k c v ?_ q) (fun _ q=>q) fun _ _ q=>q
  rcases hc with z | z
  ·rw [z]; exact nit b u e
  ·exact nit c _ z
theorem Inv.tok(I:Inv X pins σ H s)(t:Nat):Inv X pins σ H { s with toks:=t }:=I.un (h':=s.heap) (t':=t) Un.refl I.hok
theorem Inv.kept{t':Nat}(I:Inv X pins σ H s)(k:∀ b u,s.heap.get? b=some u->h'.get? b=some u):Inv X pins σ H { s with heap:=h',toks:=t' }:=I.un (Un.kept k) (I.hok.kept k)
theorem Inv.laid{a:Addr}{o:HO}{t':Nat}(I:Inv X pins σ H s)(k:∀ b u,s.heap.get? b=some u->h'.get? b=some u)(hp:s.heap.objs.size≤a)(new:ObjOk X.prog X.w (upd H a o) h' a o) :
  Inv X pins σ (upd H a o) { s with heap:=h',toks:=t' }:=I.un (Un.laid k hp (I.hok.fresh hp)) (I.hok.laid k hp new)
theorem Inv.write{x e:Addr}{o:HO}{t':Nat}(I:Inv X pins σ H s)(mu:Mut (H x))(he:e=x∨H e=some (.own x))(k:∀ b u,b≠e->s.heap.get? b=some u->h'.get? b=some u)(heo:∃ u,h'.get? e=some u)
  (new:ObjOk X.prog X.w (upd H x o) h' x o):Inv X pins σ (upd H x o) { s with heap:=h',toks:=t' }:=I.un (Un.write mu he k heo) (I.hok.write mu he k heo new)
theorem Inv.weak{σ':List (Option V)}(I:Inv X pins σ H s)(hl:σ'.length=σ.length)(w:∀ (i:Nat) v,σ'[i]?=some (some v)->σ[i]?=some (some v)):Inv X pins σ' H s :=
 ⟨I.ok,I.os,I.bare,I.base,let ⟨m,hn,hl'⟩:=I.loc; ⟨m,hn,fun i x v e1 e2 e3=>hl' i x v e1 (w i v e2) e3⟩,I.cell,I.free,I.freeC,I.pin,I.hok,hl.trans I.len⟩
theorem Inv.pins_of{pins':List (Addr×Obj)}(I:Inv X pins σ H s)(h:∀ p∈pins',s.heap.get? p.1=some p.2∧H p.1=none∧p.1≠X.env.locals∧p.1∉X.fs∧∀ v,p.2.data≠.cell v):Inv X pins' σ H s :=
 ⟨I.ok,I.os,I.bare,I.base,I.loc,I.cell,I.free,I.freeC,fun p hp=>(List.mem_append.mp hp).elim (fun z=>I.pin p (List.mem_append_left _ z)) (h p),I.hok,I.len⟩
theorem nodup_ix{N:List Str}(hN:N.Nodup){i j:Nat}{x:Str}(a:N[i]?=some x)(b:N[j]?=some x):i=j:=by
 obtain ⟨h1,e1⟩:=List.getElem?_eq_some_iff.mp a
 obtain ⟨h2,e2⟩:=List.getElem?_eq_some_iff.mp b
 exact (List.getElem_inj hN).mp (e1.trans e2.symm)
theorem store_ok2{M:Model}{A:Around}{E:Value->Shared->Prop}{i:Nat}{x:Str}{v:V}{u:Value}{Q:Unit->Shared->Prop}(I:Inv X pins σ H s)(hN:X.N.Nodup)(hi:X.N[i]?=some x)(hx:Loc X.env.scope x)(r:RelV v u)
  (h:∀ s',Inv X pins (σ.set i (some v)) H s'->(∃ a,Heap.SameBut a s.heap s'.heap∧(a=X.env.locals∨X.env.cells.lookup x=some a))->Q () s') (hf:X.fn x=true∨X.env.scope.names.lookup x=some .local:=by first | exact .inl rfl | exact .inr rfl | assumption):wpAny M A (storeName X.env x u) Q E s:=by
 obtain ⟨m,hn,hl⟩:=id I.loc
 have hcls:(X.env.scope.kind==.class||(X.env.scope.kind==.module&&X.env.locals != X.env.globals))=false:=by rw [I.ok.kind]; rfl
 have hiσ:i < σ.length:=by rw [I.len]; exact (List.getElem?_eq_some_iff.mp hi).1
 have cne:=I.cne
 have tracked:∀ {a:Addr} {h':Heap},(∃ o,s.heap.get? a=some o∧H a=none)->Heap.SameBut a s.heap h'->HOk X.prog X.w H h':=fun {a h'} ha hs b ob e=>by
  obtain ⟨_,_,hfree⟩:=ha
  refine (I.hok b ob e).stay (fun c w' hc q=>(hs.2 c ?_).trans q) (fun _ q=>q) fun _ _ q=>q
  rintro rfl
  rcases hc with rfl | hc
  ·rw [hfree] at e; cases e
  ·rw [hfree] at hc; cases hc
 rcases hx with hk | hk
 ·refine wpAny_storeName_local hk hn (fun h' hn' hs=>?_) hcls
  obtain ⟨oL,_,_,hoL,_⟩:=id hn
  refine h _ ⟨I.ok,I.os,I.bare,⟨fun b o e n hb hx=>?_,fun b o e n hb hx=>?_,I.base.free,fun b o e hx=>?_,I.base.tups,I.base.frzs,I.base.tbls⟩,⟨_,hn',fun j y v' e1 e2 e3=>?_⟩,fun y c e=>?_,I.free,I.freeC,fun p hp=>?_,tracked ⟨oL,hoL,I.free⟩ hs,by simpa using I.len⟩ ⟨_,hs,.inl rfl⟩
  ·exact (hs.2 b (Nat.ne_of_lt (Nat.lt_of_lt_of_le (Heap.lt_size e) I.ok.above))).trans (I.base.keep b o e n hb hx)
  ·obtain ⟨sl,e1⟩:=I.base.slot b o e n hb hx
   exact ⟨sl,(hs.2 b (Nat.ne_of_lt (Nat.lt_of_lt_of_le (Heap.lt_size e) I.ok.above))).trans e1⟩
  ·obtain ⟨o',e1⟩:=I.base.there b o e hx
   exact ⟨o',(hs.2 b (Nat.ne_of_lt (Nat.lt_of_lt_of_le (Heap.lt_size e) I.ok.above))).trans e1⟩
  ·by_cases hj:j=i
   ·subst hj
    rw [hi] at e1; cases e1
    rw [List.getElem?_set_self hiσ] at e2
    cases e2
    exact ⟨u,r,.inl ⟨hk,by simp⟩⟩
   ·rw [List.getElem?_set_ne (Ne.symm hj)] at e2
    obtain ⟨u',r',q⟩:=hl j y v' e1 e2 e3
    refine ⟨u',r',?_⟩
    rcases q with ⟨k,e⟩ | ⟨k,c,e,z⟩
    ·refine .inl ⟨k,?_⟩
     have:y≠x:=fun e=>hj (nodup_ix hN e1 (e▸hi))
     simp [this,e]
    ·exact .inr ⟨k,c,e,z.sameBut hs (cne y c e)⟩
  ·obtain ⟨w',z⟩:=I.cell y c e
   exact ⟨w',z.sameBut hs (cne y c e)⟩
  ·obtain ⟨e,n,ne,nf,d⟩:=I.pin p hp
   exact ⟨(hs.2 p.1 ne).trans e,n,ne,nf,d⟩
 ·have hfn:X.fn x=true:=by
   rcases hf with z | z
   ·exact z
   ·rw [z] at hk; cases hk
  obtain ⟨c,hc⟩:=I.ok.has x (.inl hk)
  obtain ⟨w',z⟩:=I.cell x c hc
  refine wpAny_storeName_cell I.ok.kind hk hc z (fun h' hc' hs=>?_)
  obtain ⟨oc,hoc,hocd⟩:=id z
  refine h { s with heap:=h' } ⟨I.ok,I.os,I.bare,⟨fun b o e n hb hx=>?_,fun b o e n hb hx=>?_,I.base.free,fun b o e hx=>?_,I.base.tups,I.base.frzs,I.base.tbls⟩,⟨m,hn.sameBut hs (Ne.symm (cne x c hc)),fun j y v' e1 e2 e3=>?_⟩,fun y c' e=>?_,I.free,I.freeC,fun p hp=>?_,tracked ⟨oc,hoc,I.freeC x c hc⟩ hs,by simpa using I.len⟩ ⟨c,hs,.inr hc⟩
  ·exact (hs.2 b (Nat.ne_of_lt (Nat.lt_of_lt_of_le (Heap.lt_size e) (I.ok.cab x c hfn hc)))).trans (I.base.keep b o e n hb hx)
  ·obtain ⟨sl,e1⟩:=I.base.slot b o e n hb hx
   exact ⟨sl,(hs.2 b (Nat.ne_of_lt (Nat.lt_of_lt_of_le (Heap.lt_size e) (I.ok.cab x c hfn hc)))).trans e1⟩
  ·obtain ⟨o',e1⟩:=I.base.there b o e hx
   exact ⟨o',(hs.2 b (Nat.ne_of_lt (Nat.lt_of_lt_of_le (Heap.lt_size e) (I.ok.cab x c hfn hc)))).trans e1⟩
  ·by_cases hj:j=i
   ·subst hj
    rw [hi] at e1; cases e1
    rw [List.getElem?_set_self hiσ] at e2
    cases e2
    exact ⟨u,r,.inr ⟨.inl hk,c,hc,hc'⟩⟩
   ·rw [List.getElem?_set_ne (Ne.symm hj)] at e2
    obtain ⟨u',r',q⟩:=hl j y v' e1 e2 e3
    refine ⟨u',r',?_⟩
    rcases q with q | ⟨k,c',e,z'⟩
    ·exact .inl q
    ·refine .inr ⟨k,c',e,z'.sameBut hs ?_⟩
     rintro rfl
     exact hj (nodup_ix hN e1 (I.ok.inj _ _ _ e hc▸hi))
  ·by_cases hcc:c'=c
   ·subst hcc; exact ⟨_,hc'⟩
   ·obtain ⟨w2,z2⟩:=I.cell y c' e
    exact ⟨w2,z2.sameBut hs hcc⟩
  ·obtain ⟨e,n,ne,nf,d⟩:=I.pin p hp
   refine ⟨(hs.2 p.1 ?_).trans e,n,ne,nf,d⟩
   intro q
   rw [q,hoc] at e
   have q':oc=p.2:=Option.some.inj e
   exact d w' (by rw [←q']; exact hocd)
theorem store_ok{M:Model}{A:Around}{E:Value->Shared->Prop}{i:Nat}{x:Str}{v:V}{u:Value}{Q:Unit->Shared->Prop}(I:Inv X pins σ H s)(hN:X.N.Nodup)(hi:X.N[i]?=some x)(hx:Loc X.env.scope x)(r:RelV v u)
  (h:∀ s',Inv X pins (σ.set i (some v)) H s'->Q () s') (hf:X.fn x=true∨X.env.scope.names.lookup x=some .local:=by first | exact .inl rfl | exact .inr rfl | assumption):wpAny M A (storeName X.env x u) Q E s :=
 store_ok2 I hN hi hx r (fun s' I' _=>h s' I') hf
theorem Inv.call'{s':Shared}{ch:List Addr}(I:Inv X pins σ H s)(ho:s'.os=s.os)(u:Un (frs X.stack) ch H H' s.heap s'.heap)(hok:HOk X.prog X.w H' s'.heap)(hg:AllBare s'.gens)
  (hch:∀ b∈ch,(b∈X.ex∨X.s_0.heap.objs.size≤b)∧b≠X.env.locals∧(∀ x c,X.env.cells.lookup x=some c->c≠b)∧∀ p∈X.pn++pins,p.1≠b):Inv X pins σ H' s':=by
 obtain ⟨h',g',d',t',o'⟩:=s'
 have e:o'=s.os:=ho
 subst e
 exact I.call (g':=g') (t':=t') (d':=d') u hok hg hch
end
abbrev XK:=Value->Option Addr->Hp->Prop
abbrev St:=List (Option V)
abbrev VK:=V->Hp->Prop
abbrev TE:=St->Hp->VK->Prop
abbrev TT:=St->Hp->(Bool->Hp->Prop)->Prop
abbrev TA:=St->Hp->(List V->Hp->Prop)->Prop
structure Ends where
 nx:St->Hp->Prop
 rt:VK
 bk:St->Hp->Prop:=fun _ _=>False
 ct:St->Hp->Prop:=fun _ _=>False
abbrev TS:=Ends->St->Hp->Prop
def EP(X:Cx)(pins:List (Addr×Obj))(σ:St)(Q:VK)(u:Value)(s':Shared):Prop:=∃ v H',Inv X pins σ H' s'∧RelV v u∧Q v H'
def TP(X:Cx)(pins:List (Addr×Obj))(σ:St)(Q:Bool->Hp->Prop)(b:Bool)(s':Shared):Prop:=∃ H',Inv X pins σ H' s'∧Q b H'
def AP(X:Cx)(pins:List (Addr×Obj))(σ:St)(Q:List V->Hp->Prop)(us:List Value)(s':Shared):Prop:=∃ vs H',Inv X pins σ H' s'∧Vals vs us∧Q vs H'
def SP(X:Cx)(pins:List (Addr×Obj))(D:Ends)(f:Flow)(s':Shared):Prop :=
 match f with
 | .next=>∃ σ' H',Inv X pins σ' H' s'∧D.nx σ' H'
 | .brk=>∃ σ' H',Inv X pins σ' H' s'∧D.bk σ' H'
 | .cont=>∃ σ' H',Inv X pins σ' H' s'∧D.ct σ' H'
 | .ret u=>∃ v σ' H',Inv X pins σ' H' s'∧RelV v u∧D.rt v H'
def PE(X:Cx)(e:Expr)(t:TE):Prop :=
 ∀ (pins:List (Addr×Obj)) (s:Shared) (σ:St) (H:Hp) (Q:VK),Inv X pins σ H s->t σ H Q->wpAny (model X.prog X.w) X.A (eval e X.env) (EP X pins σ Q) X.xe s
def PT(X:Cx)(e:Expr)(t:TT):Prop :=
 ∀ (pins:List (Addr×Obj)) (s:Shared) (σ:St) (H:Hp) (Q:Bool->Hp->Prop),Inv X pins σ H s->t σ H Q->wpAny (model X.prog X.w) X.A (isTrue e X.env (eval e X.env)) (TP X pins σ Q) X.xe s
def PW(X:Cx)(e:Expr)(t:TT):Prop :=
 ∀ (whole:Sem Value) (pins:List (Addr×Obj)) (s:Shared) (σ:St) (H:Hp) (Q:Bool->Hp->Prop),Inv X pins σ H s->t σ H Q->wpAny (model X.prog X.w) X.A (isTrue e X.env whole) (TP X pins σ Q) X.xe s
theorem PW.pt{X:Cx}{e:Expr}{t:TT}(h:PW X e t):PT X e t:=h _
def PA(X:Cx)(es:List Expr)(t:TA):Prop :=
 ∀ (pos:Pos) (pins:List (Addr×Obj)) (s:Shared) (σ:St) (H:Hp) (Q:List V->Hp->Prop),Inv X pins σ H s->t σ H Q->wpAny (model X.prog X.w) X.A (spliced (backTo pos (starEach es X.env))) (AP X pins σ Q) X.xe s
def PS(X:Cx)(st:Stmt)(t:TS):Prop :=
 ∀ (pins:List (Addr×Obj)) (s:Shared) (σ:St) (H:Hp) (D:Ends),Inv X pins σ H s->t D σ H->wpAny (model X.prog X.w) X.A (exec st X.env) (SP X pins D) X.xe s
def PSs(X:Cx)(st:List Stmt)(t:TS):Prop :=
 ∀ (pins:List (Addr×Obj)) (s:Shared) (σ:St) (H:Hp) (D:Ends),Inv X pins σ H s->t D σ H->wpAny (model X.prog X.w) X.A (execs st X.env) (SP X pins D) X.xe s
theorem thn{α:Type}{t:Sem α}{Q Q':α->Shared->Prop}{M:Model}{A:Around}{E:Value->Shared->Prop}{s:Shared}(h:wpAny M A t Q E s)(hQ:∀ a s,Q a s->Q' a s):wpAny M A t Q' E s:=wpAny_mono h hQ fun _ _ x=>x
end L2
namespace L2
open PySem PySem.Spec PyProof.Rows
section
variable {X:Cx}
theorem bin{a b:Expr}{ta tb:TE}(ha:PE X a ta)(hb:PE X b tb){pins:List (Addr×Obj)}{s:Shared}{σ:St}{H:Hp}{R:V->V->Hp->Prop}(I:Inv X pins σ H s)(h:ta σ H fun x H1=>tb σ H1 fun y H2=>R x y H2)
  {α:Type} {Q:α->Shared->Prop} {f:Value->Value->Sem α}
  (hf:∀ v u s2 x y H2,Inv X pins σ H2 s2->RelV x v->RelV y u->R x y H2->wpAny (model X.prog X.w) X.A (f v u) Q X.xe s2) :
  wpAny (model X.prog X.w) X.A (eval a X.env) (fun v s₁=>wpAny (model X.prog X.w) X.A (eval b X.env) (fun u s₂=>wpAny (model X.prog X.w) X.A (f v u) Q X.xe s₂) X.xe s₁) X.xe s:=by
 refine thn (ha pins s σ H _ I h) fun v s1 ⟨x,H1,I1,r1,q1⟩=>?_
 refine thn (hb pins s1 σ H1 _ I1 q1) fun u s2 ⟨y,H2,I2,r2,q2⟩=>?_
 exact hf v u s2 x y H2 I2 r1 r2 q2
def tVar(i:Nat):TE:=fun σ H Q=>∃ v,σ[i]?=some (some v)∧Q v H
def tC(v:V):TE:=fun _ H Q=>Q v H
theorem pe_var{i:Nat}{x:Str}{pos:Pos}(hN:X.N[i]?=some x)(hv:Vis X.env.scope x)(hd:(x==("__debug__":Str))=false:=by decide)(hcd:(x==("__classdict__":Str))=false:=by decide):PE X (.Name x pos) (tVar i):=by
 intro pins s σ H Q I h
 obtain ⟨v,e,h⟩:=h
 obtain ⟨m,hn,hl⟩:=I.loc
 obtain ⟨u,r,l⟩:=hl i x v hN e hv
 have fin:EP X pins σ Q u s:=⟨v,H,I,r,h⟩
 rcases l with ⟨hk,hm⟩ | ⟨hk,c,hc,hcell⟩
 ·exact wpAny_Name (wpAny_loadName_local I.ok.kind hk hn hm fin) hd
 ·rcases hk with hk | hk
  ·exact wpAny_Name (wpAny_loadName_cell I.ok.kind hk hc hcell fin) hd
  ·exact wpAny_Name (wpAny_loadName_free I.ok.kind hk hc hcell fin hcd) hd
theorem pe_int{i j pos}:PE X (.Constant (.int i) j pos) (tC (.int i)):=fun _ _ _ H _ I h=>wpAny_Constant_int ⟨.int i,H,I.tok _,⟨_,rfl⟩,h⟩
theorem pe_bl{b j pos}:PE X (.Constant (.bool b) j pos) (tC (.bl b)):=fun _ _ _ H _ I h=>Constant_bool ⟨.bl b,H,I,rfl,h⟩
theorem pe_non{j pos}:PE X (.Constant .none j pos) (tC .non):=fun _ _ _ H _ I h=>Constant_none ⟨.non,H,I,rfl,h⟩
theorem pe_str{x j pos}:PE X (.Constant (.str x) j pos) (tC (.str x)):=fun _ _ _ H _ I h=>Calls.Constant_str ⟨.str x,H,I.tok _,⟨_,rfl⟩,h⟩
def Gl(X:Cx)(x:Str):Prop:=X.env.kindOf x=some .globalImplicit
theorem ld_glob{E:Value->Shared->Prop}{pins:List (Addr×Obj)}{s:Shared}{σ:St}{H:Hp}{x:Str}{u:Value}{pos:Pos}{Q:Value->Shared->Prop}(I:Inv X pins σ H s)(hg:Gl X x)(hm:X.mg x=some u)(h:Q u s)
  (hd:(x==("__debug__":Str))=false:=by decide):wpAny (model X.prog X.w) X.A (eval (.Name x pos) X.env) Q E s :=
 Calls.Name_function_global I.ok.kind hg (Calls.loadGlobal_global (by rw [I.ok.glob]; exact I.mod.glob.keeps I.bk) hm h) hd
theorem ld_blt{E:Value->Shared->Prop}{pins:List (Addr×Obj)}{s:Shared}{σ:St}{H:Hp}{x:Str}{u:Value}{pos:Pos}{Q:Value->Shared->Prop}(I:Inv X pins σ H s)(hg:Gl X x)(hm:X.mg x=none)(hv:bootBuiltins x=some u)(h:Q u s)
  (hn:x≠"__name__":=by decide) (hd:(x==("__debug__":Str))=false:=by decide):wpAny (model X.prog X.w) X.A (eval (.Name x pos) X.env) Q E s:=by
 obtain ⟨mb,h1,h2⟩:=I.mod.blt
 exact Calls.Name_function_global I.ok.kind hg (Calls.loadGlobal_builtin (by rw [I.ok.glob]; exact I.mod.glob.keeps I.bk) hm (by rw [I.ok.blt]; exact h1.keeps I.bk) ((h2 x hn).trans hv) h) hd
theorem pe_glob{x:Str}{v:V}{u:Value}{pos:Pos}(hg:Gl X x)(hm:X.mg x=some u)(r:RelV v u)(hd:(x==("__debug__":Str))=false:=by decide):PE X (.Name x pos) (tC v) :=
 fun _ _ _ H _ I h=>ld_glob I hg hm ⟨v,H,I,r,h⟩ hd
variable {a b:Expr} {ta tb:TE} {pos:Pos}
def PC(X:Cx)(op:CmpOp)(a b:Expr)(t:TE):Prop :=
 ∀ (pins:List (Addr×Obj)) (s:Shared) (σ:St) (H:Hp) (Q:VK),Inv X pins σ H s->t σ H Q ->
  wpAny (model X.prog X.w) X.A (eval a X.env) (fun v s₁=>wpAny (model X.prog X.w) X.A (eval b X.env) (fun u s₂=>wpAny (model X.prog X.w) X.A (compareOp op v u) (EP X pins σ Q) X.xe s₂) X.xe s₁) X.xe s
theorem nobehind(b:Expr){op:CmpOp}(h:op≠.In)(h2:op≠.NotIn):behindInMarks op b=false:=by
 have e1:(op==CmpOp.In)=false:=by cases op<;>first | rfl | exact absurd rfl h
 have e2:(op==CmpOp.NotIn)=false:=by cases op<;>first | rfl | exact absurd rfl h2
 cases b<;>simp [behindInMarks,e1,e2]
def tIsN(ta:TE):TE:=fun σ H Q=>ta σ H fun x H1=>Q (.bl (decide (x=.non))) H1
def tNotN(ta:TE):TE:=fun σ H Q=>ta σ H fun x H1=>Q (.bl (!decide (x=.non))) H1
theorem RelV.none_iff{x:V}{v:Value}(r:RelV x v):(v==Value.none)=decide (x=.non):=by
 cases x with
 | non=>cases r; rfl
 | bl _=>cases r; rfl
 | int _=>obtain ⟨t,rfl⟩:=r; rfl
 | str _=>obtain ⟨t,rfl⟩:=r; rfl
 | byt _=>obtain ⟨t,rfl⟩:=r; rfl
 | flt _=>obtain ⟨t,rfl⟩:=r; rfl
 | ref _=>cases r; rfl
 | ty _=>cases r; rfl
theorem pc_isN{j pos'}(ha:PE X a ta):PC X .Is a (.Constant .none j pos') (tIsN ta):=by
 intro pins s σ H Q I h
 refine thn (ha pins s σ H _ I h) fun v s1 ⟨x,H1,I1,r1,q1⟩=>?_
 exact Constant_none (is_none_gen ⟨.bl _,H1,I1,by rw [r1.none_iff]; rfl,q1⟩)
theorem pc_notN{j pos'}(ha:PE X a ta):PC X .IsNot a (.Constant .none j pos') (tNotN ta):=by
 intro pins s σ H Q I h
 refine thn (ha pins s σ H _ I h) fun v s1 ⟨x,H1,I1,r1,q1⟩=>?_
 exact Constant_none (isnot_none_gen ⟨.bl _,H1,I1,by rw [r1.none_iff]; rfl,q1⟩)
def tB(t:TE):TT:=fun σ H Q=>t σ H fun x H1=>∃ c,x=.bl c∧Q c H1
theorem pe_cmp{op:CmpOp}{t:TE}(h:PC X op a b t)(h1:behindInMarks op b=false:=by first | exact nobehind _ (by decide) (by decide) | rfl):PE X (.Compare a [op] [b] pos) t:=fun pins s σ H Q I hw=>wpAny_Compare1 (h pins s σ H Q I hw) h1
theorem pt_cmp{op:CmpOp}{t:TE}(h:PC X op a b t)(h1:behindInMarks op b=false:=by first | exact nobehind _ (by decide) (by decide) | rfl):PT X (.Compare a [op] [b] pos) (tB t):=by
 intro pins s σ H Q I hw
 refine wpAny_isTrue_Compare1 (thn (h pins s σ H _ I hw) fun v s1 h1=>thn h1 fun u s2 h2=>thn h2 fun c s3 ⟨x,H1,I1,r1,q1⟩=>?_) h1
 obtain ⟨d,rfl,q⟩:=q1
 cases r1
 exact wpAny_truthy_bool ⟨H1,I1,q⟩
variable {tA tB':TT} {rest:List Expr}
def tAnd(t u:TT):TT:=fun σ H Q=>t σ H fun c H1=>if c=true then u σ H1 Q else Q false H1
def tOr(t u:TT):TT:=fun σ H Q=>t σ H fun c H1=>if c=true then Q true H1 else u σ H1 Q
def tNot(t:TT):TT:=fun σ H Q=>t σ H fun c H1=>Q (!c) H1
theorem pw_and1(ha:PT X a tA):PW X (.BoolOp .And [a] pos) tA:=by
 intro wh pins s σ H Q I h
 refine isTrue_and (thn (ha pins s σ H Q I h) fun c s1 e=>?_)
 cases c with
 | true=>exact isTrue_and_nil e
 | false=>exact e
theorem pw_or1(ha:PT X a tA):PW X (.BoolOp .Or [a] pos) tA:=by
 intro wh pins s σ H Q I h
 refine isTrue_or (thn (ha pins s σ H Q I h) fun c s1 e=>?_)
 cases c with
 | false=>exact isTrue_or_nil e
 | true=>exact e
theorem pw_and(ha:PT X a tA)(hb:PW X (.BoolOp .And (b::rest) pos) tB'):PW X (.BoolOp .And (a::b::rest) pos) (tAnd tA tB'):=by
 intro wh pins s σ H Q I h
 refine isTrue_and (thn (ha pins s σ H _ I h) fun c s1 ⟨H1,I1,q1⟩=>?_)
 cases c with
 | true=>exact hb wh pins s1 σ H1 Q I1 q1
 | false=>exact ⟨H1,I1,q1⟩
theorem pw_or(ha:PT X a tA)(hb:PW X (.BoolOp .Or (b::rest) pos) tB'):PW X (.BoolOp .Or (a::b::rest) pos) (tOr tA tB'):=by
 intro wh pins s σ H Q I h
 refine isTrue_or (thn (ha pins s σ H _ I h) fun c s1 ⟨H1,I1,q1⟩=>?_)
 cases c with
 | true=>exact ⟨H1,I1,q1⟩
 | false=>exact hb wh pins s1 σ H1 Q I1 q1
theorem pt_not(ha:PT X a tA):PT X (.UnaryOp .Not a pos) (tNot tA):=by
 intro pins s σ H Q I h
 exact isTrue_not (ha pins s σ H (fun c H1=>Q (!c) H1) I h)
def tAndV(ta tb:TE):TE:=fun σ H Q=>ta σ H fun x H1=>∃ c,x=.bl c∧if c=true then tb σ H1 Q else Q (.bl false) H1
def tOrV(ta tb:TE):TE:=fun σ H Q=>ta σ H fun x H1=>∃ c,x=.bl c∧if c=true then Q (.bl true) H1 else tb σ H1 Q
theorem pe_one{op}{t:TE}(h:PE X a t):PE X (.BoolOp op [a] pos) t:=fun pins s σ H Q I hw=>BoolOp_one (h pins s σ H Q I hw)
theorem pe_and(ha:PE X a ta)(hb:PE X (.BoolOp .And (b::rest) pos) tb):PE X (.BoolOp .And (a::b::rest) pos) (tAndV ta tb):=by
 intro pins s σ H Q I h
 refine BoolOp_and (thn (ha pins s σ H _ I h) fun v s1 ⟨x,H1,I1,r1,q1⟩=>?_)
 obtain ⟨c,rfl,q1⟩:=q1
 cases r1
 refine wpAny_truthy_bool ?_
 cases c with
 | true=>exact hb pins s1 σ H1 Q I1 q1
 | false=>exact ⟨.bl false,H1,I1,rfl,q1⟩
theorem pe_or(ha:PE X a ta)(hb:PE X (.BoolOp .Or (b::rest) pos) tb):PE X (.BoolOp .Or (a::b::rest) pos) (tOrV ta tb):=by
 intro pins s σ H Q I h
 refine BoolOp_or (thn (ha pins s σ H _ I h) fun v s1 ⟨x,H1,I1,r1,q1⟩=>?_)
 obtain ⟨c,rfl,q1⟩:=q1
 cases r1
 refine wpAny_truthy_bool ?_
 cases c with
 | false=>exact hb pins s1 σ H1 Q I1 q1
 | true=>exact ⟨.bl true,H1,I1,rfl,q1⟩
def tIf(t:TT)(ta tb:TE):TE:=fun σ H Q=>t σ H fun c H1=>if c=true then ta σ H1 Q else tb σ H1 Q
theorem pe_ifExp{c:Expr}(hc:PT X c tA)(ha:PE X a ta)(hb:PE X b tb):PE X (.IfExp c a b pos) (tIf tA ta tb):=by
 intro pins s σ H Q I h
 refine wpAny_IfExp (thn (hc pins s σ H _ I h) fun d s1 ⟨H1,I1,q1⟩=>?_)
 cases d with
 | true=>exact ha pins s1 σ H1 Q I1 q1
 | false=>exact hb pins s1 σ H1 Q I1 q1
end
end L2
namespace L2
open PySem PySem.Spec PyProof.Rows
def SqL(K:PySem.W.Frag)(H:Hp)(a:Addr)(xs:List V):Prop :=
 Rd H a (.lst xs) ∨
  ∃ (o:Obj) (its:Array Value) (n:Nat),K.lookup a=some o∧o.cls=.type "list"∧o.dict=none∧o.data=.seq its n∧its.size≤sizeLine∧Vals xs its.toList
def SqT(K:PySem.W.Frag)(H:Hp)(a:Addr)(xs:List V):Prop :=
 Rd H a (.tup xs) ∨
  ∃ (o:Obj) (its:Array Value) (n:Nat),K.lookup a=some o∧o.cls=.type "tuple"∧o.data=.seq its n∧its.size≤sizeLine∧Vals xs its.toList
def absV:Value->Option V
 | .none=>some .non
 | .bool b=>some (.bl b)
 | .int i _=>some (.int i)
 | .str x _=>some (.str x)
 | .bytes b _=>some (.byt b)
 | .float b _=>some (.flt b)
 | .ref a=>some (.ref a)
 | .type n=>some (.ty n)
 | _=>none
theorem RelV.abs{x:V}{u:Value}(r:RelV x u):absV u=some x:=by
 cases x with
 | non=>cases r; rfl
 | bl _=>cases r; rfl
 | int _=>obtain ⟨t,rfl⟩:=r; rfl
 | str _=>obtain ⟨t,rfl⟩:=r; rfl
 | byt _=>obtain ⟨t,rfl⟩:=r; rfl
 | flt _=>obtain ⟨t,rfl⟩:=r; rfl
 | ref _=>cases r; rfl
 | ty _=>cases r; rfl
theorem RelV.inj{x y:V}{u:Value}(r:RelV x u)(q:RelV y u):x=y:=Option.some.inj (r.abs.symm.trans q.abs)
theorem Vals.inj:∀ {xs ys:List V} {us:List Value},Vals xs us->Vals ys us->xs=ys
 | _,_,_,.nil,.nil=>rfl
 | _,_,_,.cons r t,.cons r' t'=>by rw [r.inj r',Vals.inj t t']
section
variable {X:Cx} {pins:List (Addr×Obj)} {σ:St} {H:Hp} {s:Shared} {a:Addr} {xs ys:List V}
theorem SqL.of{K:PySem.W.Frag}(h:H a=some (.lst xs)):SqL K H a xs:=.inl (.inl h)
theorem SqT.of{K:PySem.W.Frag}(h:H a=some (.tup xs)):SqT K H a xs:=.inl (.inl h)
theorem Inv.list(I:Inv X pins σ H s)(h:SqL X.K H a xs):∃ its:List Value,Vals xs its∧PlainL s.heap a its.toArray∧xs.length≤sizeLine:=by
 rcases h with h | ⟨o,its,n,hk,hc,hd,hs,hz,r⟩
 ·obtain ⟨z,its,n,r,e⟩:=h.ok I.hok
  exact ⟨its,r,⟨_,n,e,rfl,rfl,rfl⟩,z⟩
 ·refine ⟨its.toList,r,⟨o,n,I.kIn a o hk,hc,hd,by simpa using hs⟩,?_⟩
  have e:=r.length
  simp only [Array.length_toList] at e
  omega
theorem Inv.tuple(I:Inv X pins σ H s)(h:SqT X.K H a xs):∃ its:List Value,Vals xs its∧IsTup s.heap a its.toArray∧xs.length≤sizeLine:=by
 rcases h with h | ⟨o,its,n,hk,hc,hs,hz,r⟩
 ·obtain ⟨z,its,r,p⟩:=h.ok I.hok
  exact ⟨its,r,p,z⟩
 ·refine ⟨its.toList,r,⟨o,I.kIn a o hk,hc,n,by simpa using hs⟩,?_⟩
  have e:=r.length
  simp only [Array.length_toList] at e
  omega
theorem Inv.list_inj(I:Inv X pins σ H s)(h:SqL X.K H a xs)(h':SqL X.K H a ys):xs=ys:=by
 obtain ⟨its,r,⟨o,n,e,_,_,d⟩,_⟩:=I.list h
 obtain ⟨its',r',⟨o',n',e',_,_,d'⟩,_⟩:=I.list h'
 rw [e] at e'; cases e'
 rw [d] at d'
 injection d' with d1 _
 have:its=its':=by simpa using congrArg Array.toList d1
 subst this
 exact r.inj r'
theorem Inv.tuple_inj(I:Inv X pins σ H s)(h:SqT X.K H a xs)(h':SqT X.K H a ys):xs=ys:=by
 obtain ⟨its,r,⟨o,e,_,n,d⟩,_⟩:=I.tuple h
 obtain ⟨its',r',⟨o',e',_,n',d'⟩,_⟩:=I.tuple h'
 rw [e] at e'; cases e'
 rw [d] at d'
 injection d' with d1 _
 have:its=its':=by simpa using congrArg Array.toList d1
 subst this
 exact r.inj r'
end
abbrev Cx.wish(X:Cx)(E:Value->Shared->Prop):Cx:={ X with xe:=E }
abbrev Cx.nox(X:Cx):Cx:=X.wish fun _ _=>False
theorem Cx.Ok.wish{X:Cx}(ok:X.Ok)(E:Value->Shared->Prop):(X.wish E).Ok :=
 ⟨ok.mod,ok.kind,ok.glob,ok.blt,ok.above,ok.inj,ok.has,ok.cab,ok.hd,ok.frames,ok.stk,ok.exf,ok.bs,ok.bsz,ok.noex,ok.exfs,ok.funs,ok.frf⟩
theorem Cx.Ok.unwish{X:Cx}{E:Value->Shared->Prop}(ok:(X.wish E).Ok):X.Ok :=
 ⟨ok.mod,ok.kind,ok.glob,ok.blt,ok.above,ok.inj,ok.has,ok.cab,ok.hd,ok.frames,ok.stk,ok.exf,ok.bs,ok.bsz,ok.noex,ok.exfs,ok.funs,ok.frf⟩
section
variable {X:Cx} {pins:List (Addr×Obj)} {σ:St} {H:Hp} {s:Shared} {E:Value->Shared->Prop}
theorem Inv.wish(I:Inv X pins σ H s)(E:Value->Shared->Prop):Inv (X.wish E) pins σ H s:=⟨I.ok.wish E,I.os,I.bare,I.base,I.loc,I.cell,I.free,I.freeC,I.pin,I.hok,I.len⟩
theorem Inv.unwish(I:Inv (X.wish E) pins σ H s):Inv X pins σ H s:=⟨I.ok.unwish,I.os,I.bare,I.base,I.loc,I.cell,I.free,I.freeC,I.pin,I.hok,I.len⟩
theorem SP.unwish{D:Ends}{f:Flow}{s':Shared}(h:SP (X.wish E) pins D f s'):SP X pins D f s':=by
 cases f with
 | next=>obtain ⟨σ',H',I,q⟩:=h; exact ⟨σ',H',I.unwish,q⟩
 | brk=>obtain ⟨σ',H',I,q⟩:=h; exact ⟨σ',H',I.unwish,q⟩
 | cont=>obtain ⟨σ',H',I,q⟩:=h; exact ⟨σ',H',I.unwish,q⟩
 | ret u=>obtain ⟨v,σ',H',I,r,q⟩:=h; exact ⟨v,σ',H',I.unwish,r,q⟩
theorem PSs.nox{st:List Stmt}{t:TS}(h:PSs X.nox st t):PSs X st t:=fun pins s σ H D I hw =>
 wpAny_mono (h pins s σ H D (I.wish _) hw) (fun _ _ q=>q.unwish) fun _ _ z=>False.elim z
end
section
variable {X:Cx} {st:Stmt} {rest:List Stmt} {t u:TS} {e:Expr} {te:TE} {pos:Pos}
def tNext:TS:=fun D σ H=>D.nx σ H
def tSeq(t u:TS):TS:=fun D σ H=>t { D with nx:=u D } σ H
theorem pss_nil:PSs X [] tNext:=fun _ _ σ H _ I h=>wpAny_execs_nil ⟨σ,H,I,h⟩
theorem pss_cons(h1:PS X st t)(h2:PSs X rest u):PSs X (st::rest) (tSeq t u):=by
 intro pins s σ H D I h
 refine wpAny_execs_cons (thn (h1 pins s σ H { D with nx:=u D } I h) fun f s1 q=>?_)
 cases f with
 | next =>
  obtain ⟨σ',H',I',q⟩:=q
  exact h2 pins s1 σ' H' D I' q
 | ret v=>exact q
 | brk=>exact q
 | cont=>exact q
theorem pss_one(h1:PS X st t):PSs X [st] t:=by
 intro pins s σ H D I h
 refine wpAny_execs_cons (thn (h1 pins s σ H D I h) fun f s1 q=>?_)
 cases f with
 | next=>exact wpAny_execs_nil q
 | ret v=>exact q
 | brk=>exact q
 | cont=>exact q
theorem Inv.quiet{pins:List (Addr×Obj)}{σ:St}{H:Hp}{s:Shared}(I:Inv X pins σ H s):interactive X.env=false:=by simp [interactive,I.ok.kind]
def tDrop(te:TE):TS:=fun D σ H=>te σ H fun _ H1=>D.nx σ H1
theorem ps_expr(he:PE X e te)(hs:swapsWith e none pos.line X.env=pure false:=by rfl):PS X (.Expr e pos) (tDrop te):=by
 intro pins s σ H D I h
 exact wpAny_Expr_any (thn (he pins s σ H _ I h) fun v s1 ⟨x,H1,I1,r1,q1⟩=>⟨σ,H1,I1,q1⟩) I.quiet hs
def tRet(te:TE):TS:=fun D σ H=>te σ H D.rt
theorem ps_ret(he:PE X e te):PS X (.Return (some e) pos) (tRet te):=by
 intro pins s σ H D I h
 exact wpAny_Return_some (thn (he pins s σ H _ I h) fun v s1 ⟨x,H1,I1,r1,q1⟩=>⟨x,σ,H1,I1,r1,q1⟩)
def tIfS(c:TT)(t u:TS):TS:=fun D σ H=>c σ H fun b H1=>if b=true then t D σ H1 else u D σ H1
theorem ps_if{c:Expr}{a b:List Stmt}{tc:TT}(hc:PT X c tc)(ha:PSs X a t)(hb:PSs X b u):PS X (.If c a b pos) (tIfS tc t u):=by
 intro pins s σ H D I h
 refine wpAny_If (thn (hc pins s σ H _ I h) fun d s1 ⟨H1,I1,q1⟩=>?_)
 cases d with
 | true=>exact ha pins s1 σ H1 D I1 q1
 | false=>exact hb pins s1 σ H1 D I1 q1
end
abbrev TG:=V->St->Hp->(St->Hp->Prop)->Prop
abbrev TGs:=List V->St->Hp->(St->Hp->Prop)->Prop
def PG(X:Cx)(target:Expr)(t:TG):Prop :=
 ∀ (pins:List (Addr×Obj)) (s:Shared) (σ:St) (H:Hp) (v:V) (u:Value) (Q:St->Hp->Prop),Inv X pins σ H s->RelV v u->t v σ H Q ->
  wpAny (model X.prog X.w) X.A (assign target X.env u) (fun _ s'=>∃ σ' H',Inv X pins σ' H' s'∧Q σ' H') X.xe s
def PGs(X:Cx)(ts:List Expr)(t:TGs):Prop :=
 ∀ (pins:List (Addr×Obj)) (s:Shared) (σ:St) (H:Hp) (vs:List V) (us:List Value) (Q:St->Hp->Prop),Inv X pins σ H s->Vals vs us->t vs σ H Q ->
  wpAny (model X.prog X.w) X.A (assignInOrder ((assignEach ts X.env).map (·.2)) us) (fun _ s'=>∃ σ' H',Inv X pins σ' H' s'∧Q σ' H') X.xe s
abbrev TSet:=V->V->V->Hp->(Hp->Prop)->Prop
def PSet(X:Cx)(t:TSet):Prop :=
 ∀ (pins:List (Addr×Obj)) (s:Shared) (σ:St) (H:Hp) (o i v:V) (ov iv u:Value) (Q:Hp->Prop),Inv X pins σ H s->RelV o ov->RelV i iv->RelV v u->t o i v H Q ->
  wpAny (model X.prog X.w) X.A (setItem ov iv u) (fun _ s'=>∃ H',Inv X pins σ H' s'∧Q H') X.xe s
abbrev TIp:=V->V->Hp->VK->Prop
def PIp(X:Cx)(op:Operator)(t:TIp):Prop :=
 ∀ (pins:List (Addr×Obj)) (s:Shared) (σ:St) (H:Hp) (x y:V) (v u:Value) (Q:VK),Inv X pins σ H s->RelV x v->RelV y u->t x y H Q ->
  wpAny (model X.prog X.w) X.A (inplaceOp op v u) (EP X pins σ Q) X.xe s
section
variable {X:Cx} {pos:Pos}
def gName(i:Nat):TG:=fun v σ H Q=>Q (σ.set i (some v)) H
theorem pg_name{i:Nat}{x:Str}(hN:X.N.Nodup)(hi:X.N[i]?=some x)(hx:Loc X.env.scope x)(hf:X.fn x=true∨X.env.scope.names.lookup x=some .local:=by first | exact .inl rfl | exact .inr rfl | assumption):PG X (.Name x pos) (gName i):=by
 intro pins s σ H v u Q I r h
 exact wpAny_assign_Name (store_ok I hN hi hx r (fun s' I'=>⟨_,H,I',h⟩) hf)
def gNil:TGs:=fun vs σ H Q=>vs=[]∧Q σ H
def gCons(t:TG)(u:TGs):TGs:=fun vs σ H Q=>∃ v r,vs=v::r∧t v σ H fun σ' H'=>u r σ' H' Q
theorem pgs_nil:PGs X [] gNil:=by
 intro pins s σ H vs us Q I r h
 obtain ⟨e,h⟩:=h
 subst e
 cases r
 exact assignInOrder_nil ⟨σ,H,I,h⟩
theorem pgs_cons{e:Expr}{es:List Expr}{t:TG}{u:TGs}(h1:PG X e t)(h2:PGs X es u)
  (hs:(assignEach (e::es) X.env).map (·.2)=assign e X.env::(assignEach es X.env).map (·.2):=by rfl):PGs X (e::es) (gCons t u):=by
 intro pins s σ H vs us Q I r h
 obtain ⟨v,vr,e1,h⟩:=h
 subst e1
 cases r with
 | cons r rr =>
  rw [hs]
  refine assignInOrder_cons (thn (h1 pins s σ H _ _ _ I r h) fun _ s1 ⟨σ1,H1,I1,q1⟩=>?_)
  exact h2 pins s1 σ1 H1 _ _ Q I1 rr q1
def gTup(K:PySem.W.Frag)(n:Nat)(t:TGs):TG:=fun v σ H Q=>∃ a xs,v=.ref a∧SqT K H a xs∧xs.length=n∧t xs σ H Q
theorem pg_tup{es:List Expr}{k:Nat}{t:TGs}{n:Nat}(hc:X.calm=true)(h:PGs X es t)
  (hn:(assignEach es X.env).length=n:=by rfl) (hst:(assignEach es X.env).findIdx? (·.1)=none:=by rfl):PG X (.Tuple es k pos) (gTup X.K n t):=by
 intro pins s σ H v u Q I r hw
 obtain ⟨a,xs,e1,hq,hl,hw⟩:=hw
 subst e1
 cases r
 obtain ⟨its,rv,ht,hz⟩:=I.tuple hq
 refine assign_Tuple_tuple (I.ok.hd hc) ht (by simp [hn,←hl,rv.length]) hst fun h' hx=>?_
 have I1:Inv X pins σ H { s with heap:=h' }:=I.kept (t':=s.toks) fun b o e=>hx b o (Nat.ne_of_lt (Heap.lt_size e)) e
 exact h pins _ σ H xs _ Q I1 (by simpa using rv) hw
def gSub(to ti:TE)(t:TSet):TG:=fun v σ H Q=>to σ H fun o H1=>ti σ H1 fun i H2=>t o i v H2 fun H3=>Q σ H3
theorem pg_sub{o i:Expr}{to ti:TE}{t:TSet}(ho:PE X o to)(hi:PE X i ti)(hs:PSet X t)
  (ha:∀ v,assign (.Subscript o i pos) X.env v=(do
   let ov←holding [v] (eval o X.env)
   let iv←holding [v,ov] (eval i X.env)
   standAt pos
   holding [v,ov,iv] (setItem ov iv v)
   release [v,ov,iv] []):=by intro _; rfl):PG X (.Subscript o i pos) (gSub to ti t):=by
 intro pins s σ H v u Q I r h
 rw [ha]
 refine wpAny_bind (wpAny_holding (thn (ho pins s σ H _ I h) fun ov s1 ⟨x,H1,I1,r1,q1⟩=>?_))
 refine wpAny_bind (wpAny_holding (thn (hi pins s1 σ H1 _ I1 q1) fun iv s2 ⟨y,H2,I2,r2,q2⟩=>?_))
 refine wpAny_bind (wpAny_standAt (wpAny_bind (wpAny_holding (thn (hs pins s2 σ H2 x y v ov iv u _ I2 r1 r2 r q2) fun _ s3 ⟨H3,I3,q3⟩=>?_))))
 exact wpAny_release ⟨σ,H3,I3,q3⟩
def tAsg(te:TE)(g:TG):TS:=fun D σ H=>te σ H fun x H1=>g x σ H1 D.nx
theorem ps_asg{tg e:Expr}{te:TE}{g:TG}(he:PE X e te)(hg:PG X tg g)(hs:swapsWithSole [tg] e pos.line X.env=pure false:=by rfl)(hw:swappedStores [tg] e X.env=pure none:=by rfl)
  (h1:(assignEach [tg] X.env).map (·.2)=[assign tg X.env]:=by rfl):PS X (.Assign [tg] e pos) (tAsg te g):=by
 intro pins s σ H D I h
 refine wpAny_Assign_stores (thn (he pins s σ H _ I h) fun v s1 ⟨x,H1,I1,r1,q1⟩=>?_) hs hw
 rw [h1]
 exact thn (hg pins s1 σ H1 x v _ I1 r1 q1) fun _ s2 q=>q
theorem ps_set{i:Nat}{x:Str}{e:Expr}{te:TE}{pos':Pos}(hN:X.N.Nodup)(hi:X.N[i]?=some x)(hx:Loc X.env.scope x)(he:PE X e te)(hs:swapsWith e (some (.Name x pos')) pos.line X.env=pure false:=by rfl)(hf:X.fn x=true∨X.env.scope.names.lookup x=some .local:=by first | exact .inl rfl | exact .inr rfl | assumption) :
  PS X (.Assign [.Name x pos'] e pos) (tAsg te (gName i)):=by
 intro pins s σ H D I h
 refine wpAny_Assign_Name (thn (he pins s σ H _ I h) fun v s1 ⟨y,H1,I1,r1,q1⟩=>?_) hs
 exact store_ok I1 hN hi hx r1 (fun s2 I2=>⟨_,H1,I2,q1⟩) hf
def tAug(i:Nat)(te:TE)(ti:TIp):TS:=fun D σ H=>∃ x,σ[i]?=some (some x)∧te σ H fun y H1=>ti x y H1 fun z H2=>D.nx (σ.set i (some z)) H2
theorem ps_aug{i:Nat}{x:Str}{e:Expr}{te:TE}{op:Operator}{ti:TIp}{pos':Pos}(hN:X.N.Nodup)(hi:X.N[i]?=some x)(hx:Loc X.env.scope x)(he:PE X e te)(ho:PIp X op ti)(hf:X.fn x=true∨X.env.scope.names.lookup x=some .local:=by first | exact .inl rfl | exact .inr rfl | assumption) :
  PS X (.AugAssign (.Name x pos') op e pos) (tAug i te ti):=by
 intro pins s σ H D I h
 obtain ⟨v,e1,h⟩:=h
 obtain ⟨m,hn,hl⟩:=I.loc
 have vis:Vis X.env.scope x:=by rcases hx with k | k; exact .inl k; exact .inr (.inl k)
 obtain ⟨u,r,l⟩:=hl i x v hi e1 vis
 refine wpAny_AugAssign_Name ?_
 have go:wpAny (model X.prog X.w) X.A (eval e X.env) (fun w s₂=>wpAny (model X.prog X.w) X.A (inplaceOp op u w) (fun r s₃=>wpAny (model X.prog X.w) X.A (storeName X.env x r) (fun _=>SP X pins D .next) X.xe s₃) X.xe s₂) X.xe s:=by
  refine thn (he pins s σ H _ I h) fun w s1 ⟨y,H1,I1,r1,q1⟩=>?_
  refine thn (ho pins s1 σ H1 v y u w _ I1 r r1 q1) fun z s2 ⟨zv,H2,I2,r2,q2⟩=>?_
  exact store_ok I2 hN hi hx r2 (fun s3 I3=>⟨_,H2,I3,q2⟩) hf
 rcases l with ⟨hk,hm⟩ | ⟨hk,c,hc,hcell⟩
 ·exact wpAny_loadName_local I.ok.kind hk hn hm go
 ·rcases hk with hk | hk
  ·exact wpAny_loadName_cell I.ok.kind hk hc hcell go
  ·rcases hx with k | k
   ·have:X.env.scope.names.lookup x=some .free:=hk
    rw [k] at this; cases this
   ·have:X.env.scope.names.lookup x=some .free:=hk
    rw [k] at this; cases this
def tAugS(to ti te:TE)(tget:V->V->Hp->VK->Prop)(tip:TIp)(tset:TSet):TS:=fun D σ H=>to σ H fun o H1=>ti σ H1 fun i H2=>tget o i H2 fun x H3=>te σ H3 fun y H4=>tip x y H4 fun z H5=>tset o i z H5 fun H6=>D.nx σ H6
def PGet(X:Cx)(t:V->V->Hp->VK->Prop):Prop :=
 ∀ (pins:List (Addr×Obj)) (s:Shared) (σ:St) (H:Hp) (o i:V) (ov iv:Value) (Q:VK),Inv X pins σ H s->RelV o ov->RelV i iv->t o i H Q ->
  wpAny (model X.prog X.w) X.A (getItem ov iv) (EP X pins σ Q) X.xe s
theorem ps_augS{o i e:Expr}{to ti te:TE}{tget:V->V->Hp->VK->Prop}{tip:TIp}{tset:TSet}{op:Operator}{tpos:Pos}(ho:PE X o to)(hi:PE X i ti)(hg:PGet X tget)(he:PE X e te)(hp:PIp X op tip)(hs:PSet X tset)
  (ha:∀ ov iv new,augStore i ov iv new=(do holding [new,ov,iv] (setItem ov iv new); release [new,ov,iv] []; pure .next):=by intros; rfl):PS X (.AugAssign (.Subscript o i tpos) op e pos) (tAugS to ti te tget tip tset):=by
 intro pins s σ H D I h
 refine wpAny_AugAssign_SubscriptAny (thn (ho pins s σ H _ I h) fun ov s1 ⟨x1,H1,I1,r1,q1⟩=>?_) ha
 refine thn (hi pins s1 σ H1 _ I1 q1) fun iv s2 ⟨x2,H2,I2,r2,q2⟩=>?_
 refine thn (hg pins s2 σ H2 x1 x2 ov iv _ I2 r1 r2 q2) fun old s3 ⟨x3,H3,I3,r3,q3⟩=>?_
 refine thn (he pins s3 σ H3 _ I3 q3) fun v s4 ⟨x4,H4,I4,r4,q4⟩=>?_
 refine thn (hp pins s4 σ H4 x3 x4 old v _ I4 r3 r4 q4) fun new s5 ⟨x5,H5,I5,r5,q5⟩=>?_
 exact thn (hs pins s5 σ H5 x1 x2 x5 ov iv new _ I5 r1 r2 r5 q5) fun _ s6 ⟨H6,I6,q6⟩=>⟨σ,H6,I6,q6⟩
def ipI(f:Int->Int->Int):TIp:=fun x y H Q=>∃ i j,x=.int i∧y=.int j∧Q (.int (f i j)) H
theorem ip_add:PIp X .Add (ipI fun i j=>i+j):=by
 intro pins s σ H x y v u Q I r1 r2 h
 obtain ⟨i,j,e1,e2,q⟩:=h
 subst e1; subst e2
 obtain ⟨t,rfl⟩:=r1
 obtain ⟨t',rfl⟩:=r2
 exact iadd_int ⟨.int _,H,I.tok _,⟨_,rfl⟩,q⟩
end
section
variable {X:Cx} {pos:Pos}
def tWhile(c:TT)(tb:TS):TS:=fun D σ H=>∃ W:Nat->St->Hp->Prop,(∃ m,W m σ H)∧∀ m σ H,W m σ H ->
 c σ H fun b H1=>if b=true then ∃ N:St->Hp->Prop,(∀ σ' H',N σ' H'->∃ m',m' < m∧W m' σ' H')∧tb { D with nx:=N,ct:=N,bk:=D.nx } σ H1 else D.nx σ H1
theorem ps_while{c:Expr}{body:List Stmt}{tc:TT}{tb:TS}(hp:PassesOwn (model X.prog X.w) X.A X.env X.xe)(hc:PT X c tc)(hb:PSs X body tb):PS X (.While c body [] pos) (tWhile tc tb):=by
 intro pins s σ H D I h
 obtain ⟨W,⟨m0,w0⟩,turn⟩:=h
 refine wpAny_While (codeAny_whileLoop (fun n s'=>∃ σ' H',Inv X pins σ' H' s'∧W n σ' H') ?_ m0 ⟨σ,H,I,w0⟩)
 rintro n s1 ⟨σ1,H1,I1,w1⟩
 refine wpAny_passesOwn hp (thn (hc pins s1 σ1 H1 _ I1 (turn n σ1 H1 w1)) fun b s2 ⟨H2,I2,q2⟩=>?_)
 cases b with
 | true =>
  obtain ⟨N,hN,q2⟩:=q2
  rw [if_pos rfl]
  refine wpAny_passesOwn hp (thn (hb pins s2 σ1 H2 _ I2 q2) fun f s3 q3=>?_)
  cases f with
  | next =>
   obtain ⟨σ3,H3,I3,n3⟩:=q3
   obtain ⟨m',hm,w3⟩:=hN σ3 H3 n3
   exact ⟨m',hm,σ3,H3,I3,w3⟩
  | cont =>
   obtain ⟨σ3,H3,I3,n3⟩:=q3
   obtain ⟨m',hm,w3⟩:=hN σ3 H3 n3
   exact ⟨m',hm,σ3,H3,I3,w3⟩
  | brk=>exact q3
  | ret v=>exact q3
 | false =>
  rw [if_neg Bool.false_ne_true]
  exact wpAny_execs_nil ⟨σ1,H2,I2,q2⟩
end
structure It where
 go:Nat->Hp->Prop
 yld:Nat->Hp->V->Hp->Prop
 stop:Nat->Hp->Prop
def FpOk(X:Cx)(pins:List (Addr×Obj))(H:Hp)(b:Addr):Prop :=
 H b=none∧b≠X.env.locals∧b∉X.fs∧(b∈X.ex∨X.s_0.heap.objs.size≤b)∧(∀ x c,X.env.cells.lookup x=some c->c≠b)∧∀ p∈X.pn++pins,p.1≠b
theorem Inv.fpOk{X:Cx}{pins:List (Addr×Obj)}{σ:St}{H H':Hp}{s:Shared}{b:Addr}(I:Inv X pins σ H s)(hb:s.heap.objs.size≤b)(hn:H' b=none):FpOk X pins H' b:=by
 refine ⟨hn,Nat.ne_of_gt (Nat.lt_of_lt_of_le I.lt hb),I.nofs hb,.inr (Nat.le_trans I.sz hb),fun x c e z=>?_,fun p hp z=>?_⟩
 ·obtain ⟨v,q⟩:=I.cell x c e
  exact absurd (Nat.lt_of_lt_of_le q.lt (by rw [z]; exact hb)) (Nat.lt_irrefl _)
 ·exact absurd (Nat.lt_of_lt_of_le (Heap.lt_size (I.pin p hp).1) (by rw [z]; exact hb)) (Nat.lt_irrefl _)
structure Turn(P:Program)(w:World)(K:PySem.W.Frag)(tg:Expr)(J:It)(fp:List Addr)(it:Addr)(tn:Nat->Heap->Prop):Prop where
 mem:it∈fp
 obj:∀ i h,tn i h->∀ b∈fp,∃ o,h.get? b=some o∧∀ v,o.data≠.cell v
 keep:∀ i h h',tn i h->(∀ b∈fp,∀ o,h.get? b=some o->h'.get? b=some o)->tn i h'
 item:∀ (X:Cx),X.prog=P->X.w=w->X.K=K->X.calm=true->∀ (i:Nat) (pins:List (Addr×Obj)) (s:Shared) (σ:St) (H:Hp) (E:Value->Shared->Prop),Inv X pins σ H s->(∀ b∈fp,FpOk X pins H b)->tn i s.heap->J.go i H ->
  wpAny (model P w) X.A (pyNext (.ref it)) (fun r s1=>∃ u,r=some u ∧
   wpAny (model P w) X.A (letOwnedTupleGo tg (.ref it) u) (fun _ s2=>∃ x H',Inv X pins σ H' s2∧RelV x u∧J.yld i H x H'∧tn (i+1) s2.heap∧∀ b∈fp,H' b=none) E s1) E s
 done:∀ (X:Cx),X.prog=P->X.w=w->X.K=K->X.calm=true->∀ (i:Nat) (pins:List (Addr×Obj)) (s:Shared) (σ:St) (H:Hp) (E:Value->Shared->Prop),Inv X pins σ H s->(∀ b∈fp,FpOk X pins H b)->tn i s.heap->J.stop i H ->
  wpAny (model P w) X.A (pyNext (.ref it)) (fun r s1=>r=none∧Inv X pins σ H s1) E s
 self:∀ (A:Around) (i:Nat) (s:Shared) (Q:Value->Shared->Prop) (E:Value->Shared->Prop),tn i s.heap->Q (.ref it) s->wpAny (model P w) A (pyIter (.ref it)) Q E s
abbrev TI:=St->Hp->(It->Hp->Prop)->Prop
def PIE(X:Cx)(pins:List (Addr×Obj))(σ:St)(tg:Expr)(R:It->Hp->Prop)(itv:Value)(s2:Shared):Prop :=
 ∃ (it:Addr) (fp:List Addr) (tn:Nat->Heap->Prop) (J:It) (H':Hp),itv=.ref it∧Inv X pins σ H' s2∧Turn X.prog X.w X.K tg J fp it tn∧tn 0 s2.heap∧(∀ b∈fp,FpOk X pins H' b)∧R J H'
def PI(X:Cx)(tg iter:Expr)(wi:TI):Prop :=
 ∀ (pins:List (Addr×Obj)) (s:Shared) (σ:St) (H:Hp) (R:It->Hp->Prop),Inv X pins σ H s->wi σ H R ->
  wpAny (model X.prog X.w) X.A (eval iter X.env) (fun v s1=>wpAny (model X.prog X.w) X.A (pyIter v) (PIE X pins σ tg R) X.xe s1) X.xe s
theorem go_of{M:Model}{A:Around}{E:Value->Shared->Prop}{s:Shared}{tg:Expr}{it:Addr}{u:Value}{o:Obj}{n:String}{vs:Array Value}{Q:Unit->Shared->Prop}(ho:s.heap.get? it=some o)(hc:o.cls=.type n)(hd:o.data=.fields vs)
  (hn:["enumerate","zip","dict_itemiterator","dict_reverseitemiterator","odict_iterator","itertools.zip_longest","itertools.pairwise"].contains n=false) (hQ:Q () s):wpAny M A (letOwnedTupleGo tg (.ref it) u) Q E s:=by
 unfold letOwnedTupleGo
 cases tg<;>first
  | exact wpAny_pure hQ
  | (cases u<;>first
    | exact wpAny_pure hQ
    | (refine wpAny_bind (wpAny_load ho ?_)
       rw [hc,hd]
       show wpAny M A (if (["enumerate","zip","dict_itemiterator","dict_reverseitemiterator","odict_iterator","itertools.zip_longest","itertools.pairwise"].contains n&&vs[0]?==some (rawInt _))=true then _ else _) Q E s
       rw [if_neg (by intro h; rw [hn,Bool.false_and] at h; cases h)]
       exact wpAny_pure hQ))
def Itl(K:PySem.W.Frag)(a:Addr):It :=
 ⟨fun i H=>∃ xs x,SqL K H a xs∧xs[i]?=some x,fun i H x H'=>H'=H∧∀ xs,SqL K H a xs->xs[i]?=some x,fun i H=>∃ xs,SqL K H a xs∧xs.length≤i⟩
def Itt(K:PySem.W.Frag)(a:Addr):It :=
 ⟨fun i H=>∃ xs x,SqT K H a xs∧xs[i]?=some x,fun i H x H'=>H'=H∧∀ xs,SqT K H a xs->xs[i]?=some x,fun i H=>∃ xs,SqT K H a xs∧xs.length≤i⟩
def Itr(lo:Int)(n:Nat):It:=⟨fun i _=>i < n,fun i H x H'=>H'=H∧x=.int (lo+i),fun i _=>n≤i⟩
theorem turn_list{P:Program}{w:World}{K:PySem.W.Frag}{tg:Expr}(a it:Addr):Turn P w K tg (Itl K a) [it] it (fun i h=>h.IsListIter it a i) where
 mem:=by simp
 obj:=fun i h st b hb=>by
  have e:b=it:=by simpa using hb
  subst e
  obtain ⟨o,e,c,d⟩:=st
  exact ⟨o,e,fun v z=>by rw [d] at z; cases z⟩
 keep:=fun i h h' st k=>st.at fun o e=>k it (by simp) o e
 item:=by
  intro X hP hw hK hc i pins s σ H E I hf st hg
  subst hP hw hK
  obtain ⟨xs,x,hq,hx⟩:=hg
  obtain ⟨its,rv,p,hz⟩:=I.list hq
  obtain ⟨u,hu,ru⟩:=rv.get hx
  obtain ⟨f0,f1,f2,f3,f4,f5⟩:=hf it (by simp)
  refine wpAny_pyNext_list_item st p.isList (x:=u) (by simpa using hu) fun h' st' sb=>?_
  have I1:Inv X pins σ H { s with heap:=h' }:=I.turned (t':=s.toks) (fun b o hb e=>(sb.2 b hb).trans e) f0 f1 f3 f4 f5
  obtain ⟨o,e,c,d⟩:=id st'
  exact ⟨u,rfl,go_of (s:={ s with heap:=h' }) e c d (by decide) ⟨x,H,I1,ru,⟨rfl,fun ys hy=>by rw [I.list_inj hy hq]; exact hx⟩,st',fun b hb=>(hf b hb).1⟩⟩
 done:=by
  intro X hP hw hK hc i pins s σ H E I hf st hg
  subst hP hw hK
  obtain ⟨xs,hq,hx⟩:=hg
  obtain ⟨its,rv,p,hz⟩:=I.list hq
  obtain ⟨f0,f1,f2,f3,f4,f5⟩:=hf it (by simp)
  have hl:=rv.length
  exact wpAny_pyNext_list_end (I.ok.hd hc) st p.isList (by simp; omega) fun h' eb=>⟨rfl,I.turned (t':=s.toks) (fun b o hb e=>eb b o hb e) f0 f1 f3 f4 f5⟩
 self:=fun _ _ _ _ _ st h=>wpAny_pyIter_listiter st h
theorem turn_tuple{P:Program}{w:World}{K:PySem.W.Frag}{tg:Expr}(a it:Addr):Turn P w K tg (Itt K a) [it] it (fun i h=>h.IsTupleIter it a i) where
 mem:=by simp
 obj:=fun i h st b hb=>by
  have e:b=it:=by simpa using hb
  subst e
  obtain ⟨o,e,c,d⟩:=st
  exact ⟨o,e,fun v z=>by rw [d] at z; cases z⟩
 keep:=fun i h h' st k=>st.at fun o e=>k it (by simp) o e
 item:=by
  intro X hP hw hK hc i pins s σ H E I hf st hg
  subst hP hw hK
  obtain ⟨xs,x,hq,hx⟩:=hg
  obtain ⟨its,rv,p,hz⟩:=I.tuple hq
  obtain ⟨u,hu,ru⟩:=rv.get hx
  obtain ⟨f0,f1,f2,f3,f4,f5⟩:=hf it (by simp)
  refine wpAny_pyNext_tuple_item st (show s.heap.IsTuple a its.toArray from p) (x:=u) (by simpa using hu) fun h' st' sb=>?_
  have I1:Inv X pins σ H { s with heap:=h' }:=I.turned (t':=s.toks) (fun b o hb e=>(sb.2 b hb).trans e) f0 f1 f3 f4 f5
  obtain ⟨o,e,c,d⟩:=id st'
  exact ⟨u,rfl,go_of (s:={ s with heap:=h' }) e c d (by decide) ⟨x,H,I1,ru,⟨rfl,fun ys hy=>by rw [I.tuple_inj hy hq]; exact hx⟩,st',fun b hb=>(hf b hb).1⟩⟩
 done:=by
  intro X hP hw hK hc i pins s σ H E I hf st hg
  subst hP hw hK
  obtain ⟨xs,hq,hx⟩:=hg
  obtain ⟨its,rv,p,hz⟩:=I.tuple hq
  obtain ⟨f0,f1,f2,f3,f4,f5⟩:=hf it (by simp)
  have hl:=rv.length
  exact wpAny_pyNext_tuple_end (I.ok.hd hc) st (show s.heap.IsTuple a its.toArray from p) (by simp; omega) fun h' eb=>⟨rfl,I.turned (t':=s.toks) (fun b o hb e=>eb b o hb e) f0 f1 f3 f4 f5⟩
 self:=fun _ _ _ _ _ st h=>wpAny_pyIter_tupleiter st h
theorem turn_range{P:Program}{w:World}{K:PySem.W.Frag}{tg:Expr}(it:Addr)(lo:Int)(n:Nat):Turn P w K tg (Itr lo n) [it] it (fun i h=>IsRangeIter h it (lo+(i:Nat)*1) ((n:Int) - (i:Nat)) 1) where
 mem:=by simp
 obj:=fun i h st b hb=>by
  have e:b=it:=by simpa using hb
  subst e
  exact ⟨_,st,fun v z=>by
   have z':Data.fields _=Data.cell v:=z
   cases z'⟩
 keep:=fun i h h' st k=>k it (by simp) _ st
 item:=by
  intro X hP hw hK hc i pins s σ H E I hf st hg
  subst hP hw hK
  obtain ⟨f0,f1,f2,f3,f4,f5⟩:=hf it (by simp)
  have W:=Walks.range (prog:=X.prog) (w:=X.w) (I.ok.hd hc) it lo 1 n
  refine W.item i s _ _ hg st fun v h' tk hv st' kk=>?_
  obtain ⟨t,rfl⟩:=hv
  have I1:Inv X pins σ H { s with heap:=h',toks:=tk }:=I.turned (fun b o hb e=>kk b o (by simpa using hb) e) f0 f1 f3 f4 f5
  refine ⟨_,rfl,go_of (s:={ s with heap:=h',toks:=tk }) (n:="range_iterator") st' rfl rfl (by decide) ⟨.int (lo+i),H,I1,⟨t,?_⟩,⟨rfl,rfl⟩,st',fun b hb=>(hf b hb).1⟩⟩
  rw [Int.mul_one]
 done:=by
  intro X hP hw hK hc i pins s σ H E I hf st hg
  subst hP hw hK
  obtain ⟨f0,f1,f2,f3,f4,f5⟩:=hf it (by simp)
  exact wpAny_pyNext_range_end (I.ok.hd hc) st (by have:n≤i:=hg; omega) fun h' eb=>⟨rfl,I.turned (t':=s.toks) (fun b o hb e=>eb b o hb e) f0 f1 f3 f4 f5⟩
 self:=fun _ _ _ _ _ st h=>wpAny_pyIter_rangeiter st h
end L2
namespace L2
open PySem PySem.Spec PyProof.Rows
section
variable {X:Cx} {tg:Expr}
def iList(K:PySem.W.Frag)(tl:TE):TI:=fun σ H R=>tl σ H fun x H1=>∃ a,x=.ref a∧(∃ xs,SqL K H1 a xs)∧R (Itl K a) H1
def iTup(K:PySem.W.Frag)(tl:TE):TI:=fun σ H R=>tl σ H fun x H1=>∃ a,x=.ref a∧(∃ xs,SqT K H1 a xs)∧R (Itt K a) H1
theorem pi_list{l:Expr}{tl:TE}(hl:PE X l tl):PI X tg l (iList X.K tl):=by
 intro pins s σ H R I h
 refine thn (hl pins s σ H _ I h) fun v s1 ⟨x,H1,I1,r1,q1⟩=>?_
 obtain ⟨a,e,⟨xs,hq⟩,q⟩:=q1
 subst e
 cases r1
 obtain ⟨its,rv,p,hz⟩:=I1.list hq
 refine wpAny_pyIter_list p.isList ?_
 refine ⟨s1.heap.objs.size,[s1.heap.objs.size],_,_,H1,rfl,I1.kept (t':=s1.toks) fun b o e=>Heap.get?_push_of_some _ e,turn_list a _,⟨_,Heap.get?_push_size _ rfl,rfl,rfl⟩,fun b hb=>?_,q⟩
 have e:b=s1.heap.objs.size:=by simpa using hb
 subst e
 exact I1.fpOk (Nat.le_refl _) (I1.hok.fresh (Nat.le_refl _))
theorem pi_tup{l:Expr}{tl:TE}(hl:PE X l tl):PI X tg l (iTup X.K tl):=by
 intro pins s σ H R I h
 refine thn (hl pins s σ H _ I h) fun v s1 ⟨x,H1,I1,r1,q1⟩=>?_
 obtain ⟨a,e,⟨xs,hq⟩,q⟩:=q1
 subst e
 cases r1
 obtain ⟨its,rv,p,hz⟩:=I1.tuple hq
 refine wpAny_pyIter_tuple (show s1.heap.IsTuple a its.toArray from p) ?_
 refine ⟨s1.heap.objs.size,[s1.heap.objs.size],_,_,H1,rfl,I1.kept (t':=s1.toks) fun b o e=>Heap.get?_push_of_some _ e,turn_tuple a _,⟨_,Heap.get?_push_size _ rfl,rfl,rfl⟩,fun b hb=>?_,q⟩
 have e:b=s1.heap.objs.size:=by simpa using hb
 subst e
 exact I1.fpOk (Nat.le_refl _) (I1.hok.fresh (Nat.le_refl _))
theorem range_it{pins:List (Addr×Obj)}{σ:St}{H:Hp}{s:Shared}{R:It->Hp->Prop}{E:Value->Shared->Prop}{lo hi:Int}{t u v:Tok}{tk:Nat}(I:Inv X pins σ H s)(h1:-(2 ^ 62)≤lo)(h2:lo < 2 ^ 62)(h3:-(2 ^ 62)≤hi)(h4:hi < 2 ^ 62)
  (q:R (Itr lo (hi - lo).toNat) H):wpAny (model X.prog X.w) X.A (pyIter (.ref s.heap.objs.size)) (PIE X pins σ tg R) E { s with heap:=s.heap.push { cls:=.type "range",data:=.fields #[.int lo t,.int hi u,.int 1 v] },toks:=tk }:=by
 refine wpAny_pyIter_range (IsRange.new ..) (small_one h1 h2 h3 h4) ?_
 have I1:Inv X pins σ H { s with heap:=s.heap.push { cls:=.type "range",data:=.fields #[.int lo t,.int hi u,.int 1 v] },toks:=tk }:=I.kept fun b o e=>Heap.get?_push_of_some _ e
 refine ⟨(s.heap.push { cls:=.type "range",data:=.fields #[.int lo t,.int hi u,.int 1 v] }).objs.size,[(s.heap.push { cls:=.type "range",data:=.fields #[.int lo t,.int hi u,.int 1 v] }).objs.size],_,_,H,rfl,
  I1.kept (t':=tk) fun b o e=>Heap.get?_push_of_some _ e,turn_range _ lo (hi - lo).toNat,?_,fun b hb=>?_,q⟩
 ·have e1:lo+((0:Nat):Int)*1=lo:=by simp
  have e2:(((hi - lo).toNat:Nat):Int) - ((0:Nat):Int)=Builtin.Range.rangeSize lo hi 1:=by rw [rangeSize_one]; split<;>omega
  show IsRangeIter _ _ (lo+((0:Nat):Int)*1) ((((hi - lo).toNat:Nat):Int) - ((0:Nat):Int)) 1
  rw [e1,e2]
  exact Heap.get?_push_size _ rfl
 ·have e:b=(s.heap.push { cls:=.type "range",data:=.fields #[.int lo t,.int hi u,.int 1 v] }).objs.size:=by simpa using hb
  subst e
  exact I1.fpOk (Nat.le_refl _) (I1.hok.fresh (Nat.le_refl _))
def iRng1(ta:TA):TI:=fun σ H R=>ta σ H fun vs H1=>∃ j:Int,vs=[.int j]∧-(2 ^ 62)≤j∧j < 2 ^ 62∧R (Itr 0 j.toNat) H1
theorem pi_range1{a:Expr}{ta:TA}{p pos:Pos}(hg:Gl X "range")(hm:X.mg "range"=none)(ha:PA X [a] ta)(hs:starEach [a] X.env=[(false,eval a X.env)]:=by rfl):PI X tg (.Call (.Name "range" p) [a] [] pos) (iRng1 ta):=by
 intro pins s σ H R I h
 refine Call_ (ld_blt I hg hm boot_range (PyProof.Rows.callWith_type1 (thn (ha pos pins s σ H _ I h) fun us s1 ⟨vs,H1,I1,r1,q1⟩=>?_) hs rfl))
 obtain ⟨j,e,q1,q2,q⟩:=q1
 subst e
 cases r1 with
 | cons r rr =>
  cases rr
  obtain ⟨t,rfl⟩:=r
  exact call_range_1 (range_it I1 (by omega) (by omega) q1 q2 (by simpa using q))
def tFor(wi:TI)(g:TG)(tb:TS):TS:=fun D σ H=>wi σ H fun J H1=>∃ W:Nat->Nat->St->Hp->Prop,(∃ m,W 0 m σ H1)∧∀ i m σ H,W i m σ H ->
 (J.stop i H∧D.nx σ H)∨(J.go i H∧∃ N:St->Hp->Prop,(∀ σ' H',N σ' H'->∃ m',m' < m∧W (i+1) m' σ' H')∧∀ x H',J.yld i H x H'->g x σ H' fun σ2 H2=>tb { D with nx:=N,ct:=N,bk:=D.nx } σ2 H2)
def pinsAt(fp:List Addr)(h:Heap):List (Addr×Obj):=fp.filterMap fun b=>(h.get? b).map fun o=>(b,o)
theorem mem_pinsAt{fp:List Addr}{h:Heap}{b:Addr}{o:Obj}(hb:b∈fp)(e:h.get? b=some o):(b,o)∈pinsAt fp h:=List.mem_filterMap.mpr ⟨b,hb,by rw [e]; rfl⟩
theorem of_pinsAt{fp:List Addr}{h:Heap}{p:Addr×Obj}(hp:p∈pinsAt fp h):p.1∈fp∧h.get? p.1=some p.2:=by
 obtain ⟨b,hb,e⟩:=List.mem_filterMap.mp hp
 cases q:h.get? b with
 | none=>rw [q] at e; cases e
 | some o =>
  rw [q] at e
  have e':(b,o)=p:=Option.some.inj e
  subst e'
  exact ⟨hb,q⟩
theorem Inv.pinned{pins:List (Addr×Obj)}{σ:St}{H:Hp}{s:Shared}{fp:List Addr}(I:Inv X pins σ H s)(hf:∀ b∈fp,FpOk X pins H b)(ho:∀ b∈fp,∃ o,s.heap.get? b=some o∧∀ v,o.data≠.cell v):Inv X (pins++pinsAt fp s.heap) σ H s :=
 I.pins_of fun p hp=>(List.mem_append.mp hp).elim (fun z=>I.pin p (List.mem_append_right _ z)) fun z=>by
  obtain ⟨hb,e⟩:=of_pinsAt z
  obtain ⟨f0,f1,f2,_⟩:=hf p.1 hb
  obtain ⟨o,e',d⟩:=ho p.1 hb
  rw [e] at e'; cases e'
  exact ⟨e,f0,f1,f2,d⟩
theorem Inv.unpinned{pins pl:List (Addr×Obj)}{σ:St}{H:Hp}{s:Shared}(I:Inv X (pins++pl) σ H s):Inv X pins σ H s:=I.pins_of fun p hp=>I.pin p (List.mem_append_right _ (List.mem_append_left _ hp))
theorem ps_for{iter:Expr}{body:List Stmt}{wi:TI}{g:TG}{tb:TS}{pos:Pos}(hp:PassesOwn (model X.prog X.w) X.A X.env X.xe)(hc:X.calm=true)(hi:PI X tg iter wi)(hg:PG X tg g)(hb:PSs X body tb)
  (hs:∀ x,foldedSetIterable iter X.env x=pure x:=by intro _; rfl):PS X (.For tg iter body [] pos) (tFor wi g tb):=by
 intro pins s σ H D I h
 refine wpAny_For (thn (hi pins s σ H _ I h) fun v s1 h1=>thn h1 fun itv s2 h2=>?_) hs
 obtain ⟨it,fp,tn,J,H2,e,I2,T,st2,f2,W,⟨m0,w0⟩,turn⟩:=h2
 subst e
 have stat:∀ {H':Hp},(∀ b∈fp,H' b=none)->∀ b∈fp,FpOk X pins H' b:=fun hn b hb=>⟨hn b hb,(f2 b hb).2⟩
 refine codeAny_forLoop_any (fun n s'=>∃ i σ' H',Inv X pins σ' H' s'∧tn i s'.heap∧(∀ b∈fp,H' b=none)∧W i n σ' H') ?_ m0 ⟨0,σ,H2,I2,st2,fun b hb=>(f2 b hb).1,w0⟩
 rintro n s3 ⟨i,σ3,H3,I3,st3,fr3,w3⟩
 rcases turn i n σ3 H3 w3 with ⟨stop,qn⟩ | ⟨go,N,hN,step⟩
 ·refine wpAny_passesOwn hp (thn (T.done X rfl rfl rfl hc i pins s3 σ3 H3 X.xe I3 (stat fr3) st3 stop) fun r s4 ⟨hr,I4⟩=>?_)
  subst hr
  exact wpAny_execs_nil ⟨σ3,H3,I4,qn⟩
 ·refine wpAny_passesOwn hp (thn (T.item X rfl rfl rfl hc i pins s3 σ3 H3 X.xe I3 (stat fr3) st3 go) fun r s4 ⟨u,hr,h4⟩=>?_)
  subst hr
  refine wpAny_passesOwn hp (thn h4 fun _ s5 ⟨x,H5,I5,r5,y5,st5,fr5⟩=>?_)
  have I5':=I5.pinned (stat fr5) (T.obj _ _ st5)
  refine wpAny_passesOwn hp (thn (hg _ s5 σ3 H5 x u _ I5' r5 (step x H5 y5)) fun _ s6 ⟨σ6,H6,I6,q6⟩=>?_)
  refine wpAny_passesOwn hp (thn (hb _ s6 σ6 H6 _ I6 q6) fun f s7 q7=>?_)
  have again:∀ {σ7:St} {H7:Hp},Inv X (pins++pinsAt fp s5.heap) σ7 H7 s7->N σ7 H7->∃ m,m < n∧∃ i σ' H',Inv X pins σ' H' s7∧tn i s7.heap∧(∀ b∈fp,H' b=none)∧W i m σ' H':=fun {σ7 H7} I7 n7=>by
   obtain ⟨m',hm,w7⟩:=hN σ7 H7 n7
   refine ⟨m',hm,i+1,σ7,H7,I7.unpinned,T.keep _ _ _ st5 fun b hb o e=>(I7.pin (b,o) (List.mem_append_right _ (List.mem_append_right _ (mem_pinsAt hb e)))).1,fun b hb=>?_,w7⟩
   obtain ⟨o,e,d⟩:=T.obj _ _ st5 b hb
   exact (I7.pin (b,o) (List.mem_append_right _ (List.mem_append_right _ (mem_pinsAt hb e)))).2.1
  cases f with
  | next=>obtain ⟨σ7,H7,I7,n7⟩:=q7; exact again I7 n7
  | cont=>obtain ⟨σ7,H7,I7,n7⟩:=q7; exact again I7 n7
  | brk=>obtain ⟨σ7,H7,I7,q7⟩:=q7; exact ⟨σ7,H7,I7.unpinned,q7⟩
  | ret v=>obtain ⟨x7,σ7,H7,I7,r7,q7⟩:=q7; exact ⟨x7,σ7,H7,I7.unpinned,r7,q7⟩
end
theorem for_list{K:PySem.W.Frag}{a:Addr}{xs:List V}{g:TG}{tb:TS}{D:Ends}{σ:St}{H:Hp}(Pv:Nat->St->Hp->Prop)(h0:Pv 0 σ H)(hl:∀ i σ H,i≤xs.length->Pv i σ H->SqL K H a xs)
  (hs:∀ i x σ H,xs[i]?=some x->Pv i σ H->g x σ H fun σ2 H2=>tb { D with nx:=Pv (i+1),ct:=Pv (i+1),bk:=D.nx } σ2 H2) (hd:∀ σ H,Pv xs.length σ H->D.nx σ H) :
  ∃ W:Nat->Nat->St->Hp->Prop,(∃ m,W 0 m σ H)∧∀ i m σ H,W i m σ H ->
   ((Itl K a).stop i H∧D.nx σ H)∨((Itl K a).go i H∧∃ N:St->Hp->Prop,(∀ σ' H',N σ' H'->∃ m',m' < m∧W (i+1) m' σ' H')∧∀ x H',(Itl K a).yld i H x H'->g x σ H' fun σ2 H2=>tb { D with nx:=N,ct:=N,bk:=D.nx } σ2 H2):=by
 refine ⟨fun i m σ H=>m=xs.length - i∧i≤xs.length∧Pv i σ H,⟨xs.length,by simp,Nat.zero_le _,h0⟩,?_⟩
 rintro i m σ H ⟨rfl,hi,p⟩
 have q:=hl i σ H hi p
 by_cases hlt:i < xs.length
 ·refine .inr ⟨⟨xs,xs[i],q,by simp [hlt]⟩,Pv (i+1),fun σ' H' p'=>⟨xs.length - (i+1),by omega,rfl,hlt,p'⟩,fun x H' y=>?_⟩
  obtain ⟨e,y⟩:=y
  subst e
  exact hs i x σ _ (y xs q) p
 ·have e:i=xs.length:=by omega
  subst e
  exact .inl ⟨⟨xs,q,Nat.le_refl _⟩,hd σ H p⟩
theorem for_tup{K:PySem.W.Frag}{a:Addr}{xs:List V}{g:TG}{tb:TS}{D:Ends}{σ:St}{H:Hp}(Pv:Nat->St->Hp->Prop)(h0:Pv 0 σ H)(hl:∀ i σ H,i≤xs.length->Pv i σ H->SqT K H a xs)
  (hs:∀ i x σ H,xs[i]?=some x->Pv i σ H->g x σ H fun σ2 H2=>tb { D with nx:=Pv (i+1),ct:=Pv (i+1),bk:=D.nx } σ2 H2) (hd:∀ σ H,Pv xs.length σ H->D.nx σ H) :
  ∃ W:Nat->Nat->St->Hp->Prop,(∃ m,W 0 m σ H)∧∀ i m σ H,W i m σ H ->
   ((Itt K a).stop i H∧D.nx σ H)∨((Itt K a).go i H∧∃ N:St->Hp->Prop,(∀ σ' H',N σ' H'->∃ m',m' < m∧W (i+1) m' σ' H')∧∀ x H',(Itt K a).yld i H x H'->g x σ H' fun σ2 H2=>tb { D with nx:=N,ct:=N,bk:=D.nx } σ2 H2):=by
 refine ⟨fun i m σ H=>m=xs.length - i∧i≤xs.length∧Pv i σ H,⟨xs.length,by simp,Nat.zero_le _,h0⟩,?_⟩
 rintro i m σ H ⟨rfl,hi,p⟩
 have q:=hl i σ H hi p
 by_cases hlt:i < xs.length
 ·refine .inr ⟨⟨xs,xs[i],q,by simp [hlt]⟩,Pv (i+1),fun σ' H' p'=>⟨xs.length - (i+1),by omega,rfl,hlt,p'⟩,fun x H' y=>?_⟩
  obtain ⟨e,y⟩:=y
  subst e
  exact hs i x σ _ (y xs q) p
 ·have e:i=xs.length:=by omega
  subst e
  exact .inl ⟨⟨xs,q,Nat.le_refl _⟩,hd σ H p⟩
theorem for_range{lo:Int}{n:Nat}{g:TG}{tb:TS}{D:Ends}{σ:St}{H:Hp}(Pv:Nat->St->Hp->Prop)(h0:Pv 0 σ H)
  (hs:∀ i σ H,i < n->Pv i σ H->g (.int (lo+i)) σ H fun σ2 H2=>tb { D with nx:=Pv (i+1),ct:=Pv (i+1),bk:=D.nx } σ2 H2) (hd:∀ σ H,Pv n σ H->D.nx σ H) :
  ∃ W:Nat->Nat->St->Hp->Prop,(∃ m,W 0 m σ H)∧∀ i m σ H,W i m σ H ->
   ((Itr lo n).stop i H∧D.nx σ H)∨((Itr lo n).go i H∧∃ N:St->Hp->Prop,(∀ σ' H',N σ' H'->∃ m',m' < m∧W (i+1) m' σ' H')∧∀ x H',(Itr lo n).yld i H x H'->g x σ H' fun σ2 H2=>tb { D with nx:=N,ct:=N,bk:=D.nx } σ2 H2):=by
 refine ⟨fun i m σ H=>m=n - i∧i≤n∧Pv i σ H,⟨n,by simp,Nat.zero_le _,h0⟩,?_⟩
 rintro i m σ H ⟨rfl,hi,p⟩
 by_cases hlt:i < n
 ·refine .inr ⟨hlt,Pv (i+1),fun σ' H' p'=>⟨n - (i+1),by omega,rfl,hlt,p'⟩,fun x H' y=>?_⟩
  obtain ⟨e,y⟩:=y
  subst e y
  exact hs i σ _ hlt p
 ·have e:i=n:=by omega
  subst e
  exact .inl ⟨Nat.le_refl _,hd σ H p⟩
end L2
namespace L2
open PySem PySem.Spec PyProof.Rows
abbrev R2:=V->V->Hp->VK->Prop
def OpR(X:Cx)(f:Value->Value->Sem Value)(r:R2):Prop :=
 ∀ (pins:List (Addr×Obj)) (s:Shared) (σ:St) (H:Hp) (x y:V) (v u:Value) (Q:VK),Inv X pins σ H s->RelV x v->RelV y u->r x y H Q ->
  wpAny (model X.prog X.w) X.A (f v u) (EP X pins σ Q) X.xe s
def UnR(X:Cx)(f:Value->Sem Value)(r:V->Hp->VK->Prop):Prop :=
 ∀ (pins:List (Addr×Obj)) (s:Shared) (σ:St) (H:Hp) (x:V) (v:Value) (Q:VK),Inv X pins σ H s->RelV x v->r x H Q ->
  wpAny (model X.prog X.w) X.A (f v) (EP X pins σ Q) X.xe s
def CallR(X:Cx)(f:Value)(r:List V->Hp->VK->Prop):Prop :=
 ∀ (pins:List (Addr×Obj)) (s:Shared) (σ:St) (H:Hp) (xs:List V) (us:List Value) (Q:VK),Inv X pins σ H s->Vals xs us->r xs H Q ->
  wpAny (model X.prog X.w) X.A (call f us) (EP X pins σ Q) X.xe s
def TruR(X:Cx)(r:V->Hp->(Bool->Hp->Prop)->Prop):Prop :=
 ∀ (pins:List (Addr×Obj)) (s:Shared) (σ:St) (H:Hp) (x:V) (v:Value) (Q:Bool->Hp->Prop),Inv X pins σ H s->RelV x v->r x H Q ->
  wpAny (model X.prog X.w) X.A (truthy v) (TP X pins σ Q) X.xe s
def tOp(r:R2)(ta tb:TE):TE:=fun σ H Q=>ta σ H fun x H1=>tb σ H1 fun y H2=>r x y H2 Q
def tUn(r:V->Hp->VK->Prop)(ta:TE):TE:=fun σ H Q=>ta σ H fun x H1=>r x H1 Q
def rI(C:Int->Int->Prop)(g:Int->Int->V):R2:=fun x y H Q=>∃ i j,x=.int i∧y=.int j∧C i j∧Q (g i j) H
def rI0(g:Int->Int->V):R2:=fun x y H Q=>∃ i j,x=.int i∧y=.int j∧Q (g i j) H
def rU(g:Int->V):V->Hp->VK->Prop:=fun x H Q=>∃ i,x=.int i∧Q (g i) H
section
variable {X:Cx} {a b c:Expr} {ta tb tc:TE} {pos:Pos}
theorem binT(ha:PE X a ta)(hb:PE X b tb){pins:List (Addr×Obj)}{s:Shared}{σ:St}{H:Hp}{R:V->V->Hp->Prop}(I:Inv X pins σ H s)
  (h:ta σ H fun x H1=>tb σ H1 fun y H2=>R x y H2) {Q:Value->Shared->Prop} {f:Value->Value->Sem Value}
  (hf:∀ v u s2 x y H2,Inv X pins σ H2 s2->RelV x v->RelV y u->R x y H2->wpAny (model X.prog X.w) X.A (f v u) Q X.xe s2) :
  wpAny (model X.prog X.w) X.A (eval a X.env) (fun v s₁=>wpAny (model X.prog X.w) X.A (eval b X.env) (fun u s₂=>wpAny (model X.prog X.w) X.A (f v u) Q X.xe s₂) X.xe s₁) X.xe s:=by
 refine thn (ha pins s σ H _ I h) fun v s1 ⟨x,H1,I1,r1,q1⟩=>?_
 refine thn (hb pins s1 σ H1 _ I1 q1) fun u s2 ⟨y,H2,I2,r2,q2⟩=>?_
 exact hf v u s2 x y H2 I2 r1 r2 q2
theorem pe_op{op:Operator}{r:R2}(ho:OpR X (binaryOp op) r)(ha:PE X a ta)(hb:PE X b tb):PE X (.BinOp a op b pos) (tOp r ta tb):=by
 intro pins s σ H Q I h
 exact wpAny_BinOp (binT ha hb I h fun v u s2 x y H2 I2 rx ry q=>ho pins s2 σ H2 x y v u Q I2 rx ry q)
theorem pe_un{op:UnaryOp}{r:V->Hp->VK->Prop}(ho:UnR X (unaryOp op) r)(ha:PE X a ta):PE X (.UnaryOp op a pos) (tUn r ta):=by
 intro pins s σ H Q I h
 exact UnaryOp_ (thn (ha pins s σ H _ I h) fun v s1 ⟨x,H1,I1,r1,q1⟩=>ho pins s1 σ H1 x v Q I1 r1 q1)
theorem opI{f:Value->Value->Sem Value}{C:Int->Int->Prop}{g:Int->Int->Int}
  (rule:∀ (i j:Int) (t u:Tok) (s:Shared) (Q:Value->Shared->Prop) (E:Value->Shared->Prop),C i j->Q (.int (g i j) s.toks) { s with toks:=s.toks+1 }->wpAny (model X.prog X.w) X.A (f (.int i t) (.int j u)) Q E s) :
  OpR X f (rI C fun i j=>.int (g i j)):=by
 intro pins s σ H x y v u Q I rx ry h
 obtain ⟨i,j,rfl,rfl,hc,q⟩:=h
 obtain ⟨t,rfl⟩:=rx
 obtain ⟨t',rfl⟩:=ry
 exact rule i j t t' s _ _ hc ⟨.int (g i j),H,I.tok _,⟨_,rfl⟩,q⟩
theorem opI0{f:Value->Value->Sem Value}{g:Int->Int->Int}
  (rule:∀ (i j:Int) (t u:Tok) (s:Shared) (Q:Value->Shared->Prop) (E:Value->Shared->Prop),Q (.int (g i j) s.toks) { s with toks:=s.toks+1 }->wpAny (model X.prog X.w) X.A (f (.int i t) (.int j u)) Q E s) :
  OpR X f (rI0 fun i j=>.int (g i j)):=by
 intro pins s σ H x y v u Q I rx ry h
 obtain ⟨i,j,rfl,rfl,q⟩:=h
 obtain ⟨t,rfl⟩:=rx
 obtain ⟨t',rfl⟩:=ry
 exact rule i j t t' s _ _ ⟨.int (g i j),H,I.tok _,⟨_,rfl⟩,q⟩
theorem opB0{f:Value->Value->Sem Value}{g:Int->Int->Bool}
  (rule:∀ (i j:Int) (t u:Tok) (s:Shared) (Q:Value->Shared->Prop) (E:Value->Shared->Prop),Q (.bool (g i j)) s->wpAny (model X.prog X.w) X.A (f (.int i t) (.int j u)) Q E s) :
  OpR X f (rI0 fun i j=>.bl (g i j)):=by
 intro pins s σ H x y v u Q I rx ry h
 obtain ⟨i,j,rfl,rfl,q⟩:=h
 obtain ⟨t,rfl⟩:=rx
 obtain ⟨t',rfl⟩:=ry
 exact rule i j t t' s _ _ ⟨.bl (g i j),H,I,rfl,q⟩
def CPow(i j:Int):Prop:=0≤j∧j≤1000000∧i.natAbs < 2 ^ 64
theorem two_pow_nn(k:Nat):(0:Int)≤2 ^ k:=by
 rw [two_pow_cast]
 exact Int.natCast_nonneg _
theorem op_add:OpR X (binaryOp .Add) (rI0 fun i j=>.int (i+j)):=opI0 fun _ _ _ _ _ _ _ q=>add_int q
theorem op_sub:OpR X (binaryOp .Sub) (rI0 fun i j=>.int (i - j)):=opI0 fun _ _ _ _ _ _ _ q=>sub_int q
theorem op_mod:OpR X (binaryOp .Mod) (rI (fun _ j=>0 < j) fun i j=>.int (i % j)):=opI fun i j _ _ _ _ _ hc q=>by
 have h1:(0:Int) < j:=hc
 exact mod_int' (by omega) (by rw [Int.fmod_eq_emod_of_nonneg i (by omega)]; exact q)
theorem op_shl:OpR X (binaryOp .LShift) (rI CPow fun i j=>.int (i*2 ^ j.toNat)):=opI fun _ _ _ _ _ _ _ hc q=>lshift_int_small hc.1 hc.2.1 hc.2.2 q
theorem op_shr:OpR X (binaryOp .RShift) (rI (fun _ j=>0≤j) fun i j=>.int (i / 2 ^ j.toNat)):=opI fun i j _ _ _ _ _ hc q =>
 rshift_int hc (by rw [Int.fdiv_eq_ediv_of_nonneg i (two_pow_nn _)]; exact q)
theorem op_and:OpR X (binaryOp .BitAnd) (rI0 fun i j=>.int (Builtin.bitAnd i j)):=opI0 fun _ _ _ _ _ _ _ q=>and_int q
theorem op_or:OpR X (binaryOp .BitOr) (rI0 fun i j=>.int (Builtin.bitOr i j)):=opI0 fun _ _ _ _ _ _ _ q=>or_int q
theorem op_xor:OpR X (binaryOp .BitXor) (rI0 fun i j=>.int (Builtin.bitXor i j)):=opI0 fun _ _ _ _ _ _ _ q=>xor_int q
theorem unI{f:Value->Sem Value}{g:Int->Int}
  (rule:∀ (i:Int) (t:Tok) (s:Shared) (Q:Value->Shared->Prop) (E:Value->Shared->Prop),Q (.int (g i) s.toks) { s with toks:=s.toks+1 }->wpAny (model X.prog X.w) X.A (f (.int i t)) Q E s) :
  UnR X f (rU fun i=>.int (g i)):=by
 intro pins s σ H x v Q I rx h
 obtain ⟨i,rfl,q⟩:=h
 obtain ⟨t,rfl⟩:=rx
 exact rule i t s _ _ ⟨.int (g i),H,I.tok _,⟨_,rfl⟩,q⟩
theorem un_neg:UnR X (unaryOp .USub) (rU fun i=>.int (-i)):=unI fun _ _ _ _ _ q=>neg_int q
theorem un_inv:UnR X (unaryOp .Invert) (rU fun i=>.int (Builtin.bitNot i)):=unI fun _ _ _ _ _ q=>invert_int q
end
def scal:V->V->Bool
 | .non,.non=>true | .non,.int _=>true | .int _,.non=>true | .non,.bl _=>true | .bl _,.non=>true | .non,.str _=>true | .str _,.non=>true
 | .int _,.int _=>true | .bl _,.bl _=>true | .str _,.str _=>true | .byt _,.byt _=>true
 | .int _,.str _=>true | .str _,.int _=>true | .bl _,.str _=>true | .str _,.bl _=>true
 | _,_=>false
def rEq:R2:=fun x y H Q=>scal x y=true∧Q (.bl (decide (x=y))) H
def rNe:R2:=fun x y H Q=>scal x y=true∧Q (.bl (!decide (x=y))) H
theorem dec_int{i j:Int}:decide (V.int i=V.int j)=(i==j):=by
 rw [Bool.eq_iff_iff]
 simp
theorem dec_bl{i j:Bool}:decide (V.bl i=V.bl j)=(i==j):=by
 rw [Bool.eq_iff_iff]
 simp
theorem dec_str{i j:Str}:decide (V.str i=V.str j)=(i==j):=by
 rw [Bool.eq_iff_iff]
 simp
theorem dec_byt{i j:Array UInt8}:decide (V.byt i=V.byt j)=(i.toList==j.toList):=by
 rw [Bool.eq_iff_iff]
 cases i
 cases j
 simp
section
variable {X:Cx} {a b c:Expr} {ta tb tc:TE} {pos:Pos}
theorem fin_bl{pins:List (Addr×Obj)}{σ:St}{H:Hp}{s:Shared}{Q:VK}{k k':Bool}(I:Inv X pins σ H s)(q:Q (.bl k) H)(e:k=k'):EP X pins σ Q (.bool k') s:=by
 subst e
 exact ⟨.bl k,H,I,rfl,q⟩
theorem op_eq:OpR X (compareOp .Eq) rEq:=by
 intro pins s σ H x y v u Q I rx ry h
 obtain ⟨hs,q⟩:=h
 cases x with
 | non =>
  cases rx
  cases y with
  | non=>cases ry; exact PySem.EqNone.eq_none_none (fin_bl I q (by simp))
  | bl j=>cases ry; exact PySem.EqNone.eq_none_bool (fin_bl I q (by simp))
  | int j=>obtain ⟨t',rfl⟩:=ry; exact PySem.EqNone.eq_none_int (fin_bl I q (by simp))
  | str j=>obtain ⟨t',rfl⟩:=ry; exact PySem.EqNone.eq_none_str (fin_bl I q (by simp))
  | _=>exact absurd (show false=true from hs) Bool.false_ne_true
 | bl i =>
  cases rx
  cases y with
  | non=>cases ry; exact PySem.EqNone.eq_bool_none (fin_bl I q (by simp))
  | bl j=>cases ry; exact eq_bool (fin_bl I q dec_bl)
  | str j=>obtain ⟨t',rfl⟩:=ry; exact PySem.EqMixed.eq_bool_str (fin_bl I q (by simp))
  | _=>exact absurd (show false=true from hs) Bool.false_ne_true
 | int i =>
  obtain ⟨t,rfl⟩:=rx
  cases y with
  | non=>cases ry; exact PySem.EqNone.eq_int_none (fin_bl I q (by simp))
  | int j=>obtain ⟨t',rfl⟩:=ry; exact eq_int (fin_bl I q dec_int)
  | str j=>obtain ⟨t',rfl⟩:=ry; exact PySem.EqMixed.eq_int_str (fin_bl I q (by simp))
  | _=>exact absurd (show false=true from hs) Bool.false_ne_true
 | str i =>
  obtain ⟨t,rfl⟩:=rx
  cases y with
  | non=>cases ry; exact PySem.EqNone.eq_str_none (fin_bl I q (by simp))
  | bl j=>cases ry; exact PySem.EqMixed.eq_str_bool (fin_bl I q (by simp))
  | int j=>obtain ⟨t',rfl⟩:=ry; exact PySem.EqMixed.eq_str_int (fin_bl I q (by simp))
  | str j=>obtain ⟨t',rfl⟩:=ry; exact eq_str (fin_bl I q dec_str)
  | _=>exact absurd (show false=true from hs) Bool.false_ne_true
 | byt i =>
  obtain ⟨t,rfl⟩:=rx
  cases y with
  | byt j=>obtain ⟨t',rfl⟩:=ry; exact PySem.W.eq_bytes (fin_bl I q dec_byt)
  | _=>exact absurd (show false=true from hs) Bool.false_ne_true
 | _=>cases y<;>exact absurd (show false=true from hs) Bool.false_ne_true
theorem op_ne:OpR X (compareOp .NotEq) rNe:=by
 intro pins s σ H x y v u Q I rx ry h
 obtain ⟨hs,q⟩:=h
 cases x with
 | non =>
  cases rx
  cases y with
  | non=>cases ry; exact PySem.EqNone.ne_none_none (fin_bl I q (by simp))
  | bl j=>cases ry; exact PySem.EqNone.ne_none_bool (fin_bl I q (by simp))
  | int j=>obtain ⟨t',rfl⟩:=ry; exact PySem.EqNone.ne_none_int (fin_bl I q (by simp))
  | str j=>obtain ⟨t',rfl⟩:=ry; exact PySem.EqNone.ne_none_str (fin_bl I q (by simp))
  | _=>exact absurd (show false=true from hs) Bool.false_ne_true
 | bl i =>
  cases rx
  cases y with
  | non=>cases ry; exact PySem.EqNone.ne_bool_none (fin_bl I q (by simp))
  | bl j=>cases ry; exact ne_bool (fin_bl I q (congrArg not dec_bl))
  | str j=>obtain ⟨t',rfl⟩:=ry; exact PySem.EqMixed.ne_bool_str (fin_bl I q (by simp))
  | _=>exact absurd (show false=true from hs) Bool.false_ne_true
 | int i =>
  obtain ⟨t,rfl⟩:=rx
  cases y with
  | non=>cases ry; exact PySem.EqNone.ne_int_none (fin_bl I q (by simp))
  | int j=>obtain ⟨t',rfl⟩:=ry; exact ne_int (fin_bl I q (congrArg not dec_int))
  | str j=>obtain ⟨t',rfl⟩:=ry; exact PySem.EqMixed.ne_int_str (fin_bl I q (by simp))
  | _=>exact absurd (show false=true from hs) Bool.false_ne_true
 | str i =>
  obtain ⟨t,rfl⟩:=rx
  cases y with
  | non=>cases ry; exact PySem.EqNone.ne_str_none (fin_bl I q (by simp))
  | bl j=>cases ry; exact PySem.EqMixed.ne_str_bool (fin_bl I q (by simp))
  | int j=>obtain ⟨t',rfl⟩:=ry; exact PySem.EqMixed.ne_str_int (fin_bl I q (by simp))
  | str j=>obtain ⟨t',rfl⟩:=ry; exact ne_str (fin_bl I q (congrArg not dec_str))
  | _=>exact absurd (show false=true from hs) Bool.false_ne_true
 | byt i =>
  obtain ⟨t,rfl⟩:=rx
  cases y with
  | byt j=>obtain ⟨t',rfl⟩:=ry; exact PySem.W.ne_bytes (fin_bl I q (congrArg not dec_byt))
  | _=>exact absurd (show false=true from hs) Bool.false_ne_true
 | _=>cases y<;>exact absurd (show false=true from hs) Bool.false_ne_true
theorem op_lt:OpR X (compareOp .Lt) (rI0 fun i j=>.bl (decide (i < j))):=opB0 fun _ _ _ _ _ _ _ q=>lt_int q
theorem op_le:OpR X (compareOp .LtE) (rI0 fun i j=>.bl (decide (i≤j))):=opB0 fun _ _ _ _ _ _ _ q=>le_int q
theorem op_gt:OpR X (compareOp .Gt) (rI0 fun i j=>.bl (decide (j < i))):=opB0 fun _ _ _ _ _ _ _ q=>gt_int q
theorem op_ge:OpR X (compareOp .GtE) (rI0 fun i j=>.bl (decide (j≤i))):=opB0 fun _ _ _ _ _ _ _ q=>ge_int q
theorem nomark(b:Expr){op:CmpOp}(h:op≠.In:=by decide)(h2:op≠.NotIn:=by decide):behindInMarks op b=false:=by
 have e1:(op==CmpOp.In)=false:=by cases op<;>first | rfl | exact absurd rfl h
 have e2:(op==CmpOp.NotIn)=false:=by cases op<;>first | rfl | exact absurd rfl h2
 cases b<;>simp [behindInMarks,e1,e2]
theorem pe_cmpR{op:CmpOp}{r:R2}(ho:OpR X (compareOp op) r)(ha:PE X a ta)(hb:PE X b tb)(hm:behindInMarks op b=false):PE X (.Compare a [op] [b] pos) (tOp r ta tb):=by
 intro pins s σ H Q I h
 exact wpAny_Compare1 (binT ha hb I h fun v u s2 x y H2 I2 rx ry q=>ho pins s2 σ H2 x y v u Q I2 rx ry q) hm
def tTest(t:TE):TT:=fun σ H Q=>t σ H fun x H'=>∃ k,x=.bl k∧Q k H'
theorem pt_cmpR{op:CmpOp}{r:R2}(ho:OpR X (compareOp op) r)(ha:PE X a ta)(hb:PE X b tb)(hm:behindInMarks op b=false):PT X (.Compare a [op] [b] pos) (tTest (tOp r ta tb)):=by
 intro pins s σ H Q I h
 refine wpAny_isTrue_Compare1 (thn (ha pins s σ H _ I h) fun v s1 ⟨x,H1,I1,r1,q1⟩=>thn (hb pins s1 σ H1 _ I1 q1) fun u s2 ⟨y,H2,I2,r2,q2⟩ =>
  thn (ho pins s2 σ H2 x y v u _ I2 r1 r2 q2) fun c s3 ⟨z,H3,I3,r3,k,e,q3⟩=>?_) hm
 subst e
 cases r3
 exact wpAny_truthy_bool ⟨H3,I3,q3⟩
def tChain(r r':R2)(ta tb tc:TE):TE:=fun σ H Q=>ta σ H fun x H1=>tb σ H1 fun y H2=>r x y H2 fun z H3=>∃ k,z=.bl k ∧
 (if k=true then tc σ H3 fun w' H4=>r' y w' H4 Q else Q (.bl false) H3)
theorem pe_chain{op op':CmpOp}{r r':R2}(ho:OpR X (compareOp op) r)(ho':OpR X (compareOp op') r')(ha:PE X a ta)(hb:PE X b tb)(hc:PE X c tc)
  (hm:lastMarks [op,op'] [b,c]=false:=by with_unfolding_all rfl):PE X (.Compare a [op,op'] [b,c] pos) (tChain r r' ta tb tc):=by
 intro pins s σ H Q I h
 refine Compare_chain (thn (ha pins s σ H _ I h) fun v s1 ⟨x,H1,I1,r1,q1⟩=>chain_link (thn (hb pins s1 σ H1 _ I1 q1) fun u s2 ⟨y,H2,I2,r2,q2⟩ =>
  thn (ho pins s2 σ H2 x y v u _ I2 r1 r2 q2) fun d s3 ⟨z,H3,I3,r3,k,e,q3⟩=>?_)) hm
 subst e
 cases r3
 refine wpAny_truthy_bool ?_
 cases k with
 | false=>exact ite_ff ⟨.bl false,H3,I3,rfl,q3⟩
 | true=>exact ite_tt (chain_last (thn (hc pins s3 σ H3 _ I3 q3) fun w' s4 ⟨z',H4,I4,r4,q4⟩=>ho' pins s4 σ H4 y z' u w' Q I4 r2 r4 q4))
theorem pt_chain{op op':CmpOp}{r r':R2}(ho:OpR X (compareOp op) r)(ho':OpR X (compareOp op') r')(ha:PE X a ta)(hb:PE X b tb)(hc:PE X c tc)
  (hm:lastMarks [op,op'] [b,c]=false:=by with_unfolding_all rfl):PT X (.Compare a [op,op'] [b,c] pos) (tTest (tChain r r' ta tb tc)):=by
 intro pins s σ H Q I h
 refine isTrue_chain (thn (ha pins s σ H _ I h) fun v s1 ⟨x,H1,I1,r1,q1⟩=>test_link (thn (hb pins s1 σ H1 _ I1 q1) fun u s2 ⟨y,H2,I2,r2,q2⟩ =>
  thn (ho pins s2 σ H2 x y v u _ I2 r1 r2 q2) fun d s3 ⟨z,H3,I3,r3,k,e,q3⟩=>?_)) hm
 subst e
 cases r3
 refine wpAny_truthy_bool ?_
 cases k with
 | false =>
  obtain ⟨k',e',q'⟩:=q3
  cases e'
  exact ite_ff ⟨H3,I3,q'⟩
 | true =>
  refine ite_tt (test_last (thn (hc pins s3 σ H3 _ I3 q3) fun w' s4 ⟨z',H4,I4,r4,q4⟩=>thn (ho' pins s4 σ H4 y z' u w' _ I4 r2 r4 q4) fun d' s5 ⟨z2,H5,I5,r5,k2,e2,q5⟩=>?_))
  subst e2
  cases r5
  exact wpAny_truthy_bool ⟨H5,I5,q5⟩
def TruV(K:PySem.W.Frag)(x:V)(H:Hp)(k:Bool):Prop :=
 match x with
 | .non=>k=false
 | .bl b=>k=b
 | .int i=>k=(i != 0)
 | .str y=>y.length≤sizeLine∧k=((y.length:Int) != 0)
 | .byt y=>y.size≤sizeLine∧k=((y.size:Int) != 0)
 | .ref p=>(∃ xs,SqL K H p xs∧k=!xs.isEmpty)∨(∃ xs,SqT K H p xs∧k=!xs.isEmpty)∨∃ kvs,H p=some (.dK kvs)∧k=!kvs.isEmpty
 | _=>False
theorem isEmpty_kv{κ:Type}{kvs:List (κ×V)}{vs:List (κ×Value)}(r:KV kvs vs):(!vs.isEmpty)=!kvs.isEmpty:=by
 cases r<;>rfl
theorem isEmpty_of{xs:List V}{its:List Value}(r:Vals xs its):(!its.toArray.isEmpty)=!xs.isEmpty:=by
 cases r<;>simp
theorem line63:(sizeLine:Nat) < 2 ^ 63:=by rw [sizeLine_eq]; decide
theorem tru_ok:TruR X (fun x H Q=>∃ k,TruV X.K x H k∧Q k H):=by
 intro pins s σ H x v Q I rx h
 obtain ⟨k,e,q⟩:=h
 have hl:=line63
 have hs:sizeLine=16777216:=sizeLine_eq
 cases x with
 | non =>
  cases rx
  have e':k=false:=e
  subst e'
  exact truthy_none ⟨H,I,q⟩
 | bl b =>
  cases rx
  have e':k=b:=e
  subst e'
  exact wpAny_truthy_bool ⟨H,I,q⟩
 | int i =>
  obtain ⟨t,rfl⟩:=rx
  have e':k=(i != 0):=e
  subst e'
  exact PySem.P.truthy_int ⟨H,I,q⟩
 | str y =>
  obtain ⟨t,rfl⟩:=rx
  obtain ⟨hy,e'⟩:y.length≤sizeLine∧k=((y.length:Int) != 0):=e
  subst e'
  exact PySem.P.truthy_str (by omega) ⟨H,I.tok _,q⟩
 | byt y =>
  obtain ⟨t,rfl⟩:=rx
  obtain ⟨hy,e'⟩:y.size≤sizeLine∧k=((y.size:Int) != 0):=e
  subst e'
  exact PySem.W.truthy_bytes (by omega) ⟨H,I.tok _,q⟩
 | ref p =>
  cases rx
  have e':(∃ xs,SqL X.K H p xs∧k=!xs.isEmpty)∨(∃ xs,SqT X.K H p xs∧k=!xs.isEmpty)∨∃ kvs,H p=some (.dK kvs)∧k=!kvs.isEmpty:=e
  rcases e' with ⟨xs,hx,e'⟩ | ⟨xs,hx,e'⟩ | ⟨kvs,hx,e'⟩
  ·subst e'
   obtain ⟨its,r,pl,hz⟩:=I.list hx
   have hlen:=r.length
   exact wpAny_truthy_list pl.isList (by simp only [List.size_toArray]; omega) ⟨H,I.tok _,by rw [isEmpty_of r]; exact q⟩
  ·subst e'
   obtain ⟨its,r,pl,hz⟩:=I.tuple hx
   have hlen:=r.length
   exact truthy_tuple pl (by simp only [List.size_toArray]; omega) ⟨H,I.tok _,by rw [isEmpty_of r]; exact q⟩
  ·subst e'
   obtain ⟨hz,hS,vs,r,m⟩:kvs.length≤sizeLine∧(p==sysModules)=false∧∃ vs,KV kvs vs∧s.heap.DictOf (mixKind X.prog X.w) p vs:=I.hok p _ hx
   have hlen:kvs.length=vs.length:=Paired.length r
   exact wpAny_truthy_dict hS m (by omega) ⟨H,I.tok _,by rw [isEmpty_kv r]; exact q⟩
 | _=>exact (show False from e).elim
theorem pt_truth(ha:PE X a ta)(he:∀ whole,isTrue a X.env whole=(do let v←whole; standAt a.pos; holding [v] (truthy v))) :
  PT X a (fun σ H Q=>ta σ H fun x H'=>∃ k,TruV X.K x H' k∧Q k H'):=by
 intro pins s σ H Q I h
 exact isTrue_plain (thn (ha pins s σ H _ I h) fun v s1 ⟨x,H1,I1,r1,q1⟩=>tru_ok pins s1 σ H1 x v Q I1 r1 q1) (he _)
theorem vals1{x:V}{us:List Value}(r:Vals [x] us):∃ u,us=[u]∧RelV x u:=by
 cases r with
 | cons r1 r2=>cases r2; exact ⟨_,rfl,r1⟩
theorem vals2{x y:V}{us:List Value}(r:Vals [x,y] us):∃ u w',us=[u,w']∧RelV x u∧RelV y w':=by
 cases r with
 | cons r1 r2 =>
  cases r2 with
  | cons r3 r4=>cases r4; exact ⟨_,_,rfl,r1,r3⟩
theorem call_max2(hc:X.calm=true):CallR X (.builtin "max") (fun xs H Q=>∃ i j,xs=[.int i,.int j]∧Q (.int (if j > i then j else i)) H):=by
 intro pins s σ H xs us Q I r h
 obtain ⟨i,j,rfl,q⟩:=h
 obtain ⟨u,w',rfl,⟨t,rfl⟩,⟨t',rfl⟩⟩:=vals2 r
 refine max_two_ints (I.ok.hd hc) fun h' tk k=>⟨_,H,I.kept k,?_,q⟩
 by_cases hj:j > i
 ·rw [if_pos hj,if_pos hj]; exact ⟨_,rfl⟩
 ·rw [if_neg hj,if_neg hj]; exact ⟨_,rfl⟩
end
end L2
namespace L2
open PySem PySem.Spec PyProof.Rows
structure ObjM(h:Heap)(x dx C:Addr)(mA:Str->Option Value):Prop where
 obj:h.get? x=some (PySem.W.instObj C dx)
 ns:h.Ns1 dx mA
 ne:dx≠x
theorem lookIn_ns{h:Heap}{dx:Addr}{mA:Str->Option Value}(n:h.Ns1 dx mA):∃ od,h.get? dx=some od∧∀ name,PySem.W.lookIn name od=some (mA name):=by
 obtain ⟨o,es,ep,ho,hd,hk,_,hm⟩:=n
 refine ⟨o,ho,fun name=>?_⟩
 have e:=hm name
 unfold nsFind findBy at e
 rw [←Array.find?_toList] at e
 unfold PySem.W.lookIn
 rw [hd]
 dsimp only
 split
 ·rename_i y q
  rw [q] at e
  exact congrArg some e
 ·rename_i q
  rw [q] at e
  have a:es.toList.any (·.refKey)=false:=by
   rw [List.any_eq_false]
   intro y hy
   obtain ⟨z,t,hkey⟩:=hk y (Array.mem_toList_iff.mp hy)
   simp [DictEntry.refKey,hkey]
  have a':¬ es.toList.any (·.refKey)=true:=by rw [a]; exact Bool.false_ne_true
  rw [if_neg a']
  exact congrArg some e
theorem ObjM.look{h:Heap}{x dx C:Addr}{mA:Str->Option Value}(I:ObjM h x dx C mA):∃ od,PySem.W.InstAt h x (PySem.W.instObj C dx) C (some od)∧∀ name,PySem.W.lookIn name od=some (mA name) :=
 let ⟨od,ho,hl⟩:=lookIn_ns I.ns
 ⟨od,⟨I.obj,rfl,rfl,ho⟩,hl⟩
section
variable {prog:Program} {w:World} {A:Around} {E:Value->Shared->Prop} {s:Shared} {K:PySem.W.Frag} {x dx C f:Addr} {mA:Str->Option Value} {name:Str} {v:Value}
theorem get_map{expr:Bool}{Q:Value->Shared->Prop}(X:K.In s.heap)(I:ObjM s.heap x dx C mA)(hg:PySem.W.plainGet K C name=true)(hh:PySem.W.hasDictIn K C=true)
  (ha:PySem.W.findIn K (.ref C) name=some none) (hv:mA name=some v) (hv':PySem.W.handedIn v=true) (h:Q v { s with toks:=s.toks+1 }) :
  wpAny (model prog w) A (getAttr (.ref x) name expr) Q E s:=by
 obtain ⟨od,J,hl⟩:=I.look
 exact PySem.W.get_value X J (PySem.W.plainGet_of hg).1 (PySem.W.findObj_own hh ha rfl (by rw [hl,hv])) hv' h
theorem get_meth{pl:Sem Bool}{Q:Value×List Value->Shared->Prop}(X:K.In s.heap)(I:ObjM s.heap x dx C mA)(hg:PySem.W.plainGet K C name=true)
  (hf:PySem.W.findIn K (.ref C) name=some (some (.ref f))) (ht:PySem.W.isFn K (.ref f)=true) (hv:mA name=none) (h:Q (.ref f,[.ref x]) s) :
  wpAny (model prog w) A (getMethod (.ref x) name pl) Q E s:=by
 obtain ⟨od,J,hl⟩:=I.look
 exact PySem.W.method_fn X J (PySem.W.plainGet_of hg).1 (PySem.W.plainGet_of hg).2 hf (beq_iff_eq.mp ht) (by show (PySem.W.lookIn name od).map (·.isSome)=some false; rw [hl,hv]; rfl) h
theorem set_map{ns:List Str}{Q:Unit->Shared->Prop}(X:K.In s.heap)(I:ObjM s.heap x dx C mA)
  (hs:PySem.W.findIn K (.ref C) "__setattr__"=some (some (.builtin "object.__setattr__"))) (hp:PySem.W.plainOver K C=true) (ht:PySem.W.takerIn K C name=some none) (hh:PySem.W.hasDictIn K C=true)
  (hw:PySem.Within mA ns) (hsz:ns.length≤sizeLine)
  (h:∀ h',ObjM h' x dx C (fun y=>if y=name then some v else mA y)->Heap.SameBut dx s.heap h'->Q () { s with heap:=h',toks:=s.toks+2 }) :
  wpAny (model prog w) A (setAttr (.ref x) name v) Q E s:=by
 obtain ⟨od,J,hl⟩:=I.look
 refine PySem.W.set_plain X J hs (PySem.W.osa_open (s:={ s with toks:=s.toks+1 }) (r:=none) X J hp ht fun b=>?_)
 obtain ⟨cd,hc,hd'⟩:=PySem.W.any_some hh
 have hx:s.heap.get? x=some ⟨.ref C,some dx,.plain,#[]⟩:=I.obj
 refine wpAny_bind (wpAny_pure (wpAny_bind (wpAny_bind (wpAny_loadPart hx (wpAny_bind (PySem.W.Looks.here (s:={ s with toks:=s.toks+1 }) (PySem.W.looks_clsIn X hc) ?_))))))
 rw [hd']
 refine wpAny_pure (a:=some dx) (wpAny_bind (wpAny_pure (wpAny_bind ?_)))
 refine wpAny_nsSet1 (s:={ s with toks:=s.toks+1 }) I.ns fun h' hn2 hs2=>?_
 obtain ⟨oD,esD,epD,hoD,hdD,hcD⟩:=hn2.count (PySem.Within.cons name v hw)
 refine wpAny_bind (wpAny_lookBehind hoD (by rw [hdD]; exact pastItsLine_dict (Nat.le_trans hcD (by rw [List.length_cons]; omega))) ?_)
 exact wpAny_pure (h _ ⟨(hs2.2 _ (Ne.symm I.ne)).trans I.obj,hn2,I.ne⟩ hs2)
theorem make_map{R:Result->Shared->Prop}{vs:List Value}{kw:List (Str×Value)}(X:K.In s.heap)(hm:PySem.W.makesIn K C=true)
  (hi:PySem.W.findIn K (.ref C) "__init__"=some (some (.ref f))) (hf:PySem.W.typeIn K (.ref f)=some (.type "function"))
  (h:codeAny (model prog w) (A.under (.builtin "type.__call__" ⟨.ref C::vs,kw⟩)) (.call (.ref f) ⟨.ref (s.heap.objs.size+1)::vs,kw⟩) (PySem.W.InitBack (s.heap.objs.size+1) R)
   { s with heap:=(s.heap.push PySem.W.emptyDict).push (PySem.W.instObj C s.heap.objs.size) }) :
  codeAny (model prog w) A (.call (.ref C) ⟨vs,kw⟩) R s:=by
 obtain ⟨hh,g,d,t,os⟩:=s
 exact PySem.W.make_core (PySem.W.makes_of X hm) (PySem.W.looks_findIn X hi) (fun self=>PySem.W.bind_fn X self hf) (.inl rfl) h
end
def putF(f:Str)(v:V):List (Str×V)->List (Str×V)
 | []=>[(f,v)]
 | (g,x)::r=>if g=f then (g,v)::r else (g,x)::putF f v r
theorem lookup_putF(f g:Str)(v:V):∀ fs:List (Str×V),(putF f v fs).lookup g=if g=f then some v else fs.lookup g
 | []=>by
  show List.lookup g [(f,v)]=_
  by_cases h:g=f
  ·have hb:(g==f)=true:=beq_iff_eq.mpr h
   simp only [List.lookup,hb,if_pos h]
  ·have hb:(g==f)=false:=beq_eq_false_iff_ne.mpr h
   simp only [List.lookup,hb,if_neg h]
 | (k,x)::r=>by
  have ih:=lookup_putF f g v r
  rw [show putF f v ((k,x)::r)=(if k=f then (k,v)::r else (k,x)::putF f v r) from rfl]
  by_cases hk:k=f
  ·rw [if_pos hk]
   by_cases h:g=k
   ·have hb:(g==k)=true:=beq_iff_eq.mpr h
    simp only [List.lookup,hb,if_pos (h.trans hk)]
   ·have hb:(g==k)=false:=beq_eq_false_iff_ne.mpr h
    simp only [List.lookup,hb,if_neg (fun e:g=f=>h (e.trans hk.symm))]
  ·rw [if_neg hk]
   by_cases h:g=k
   ·have hb:(g==k)=true:=beq_iff_eq.mpr h
    simp only [List.lookup,hb,if_neg (fun e:g=f=>hk (h.symm.trans e))]
   ·have hb:(g==k)=false:=beq_eq_false_iff_ne.mpr h
    simp only [List.lookup,hb]
    exact ih
theorem keys_putF(f:Str)(v:V):∀ fs:List (Str×V),f∈(putF f v fs).map (·.1)∧∀ g,g∈fs.map (·.1)->g∈(putF f v fs).map (·.1)
 | []=>⟨by simp [putF],fun g h=>by simp at h⟩
 | (k,x)::r=>by
  obtain ⟨i1,i2⟩:=keys_putF f v r
  rw [show putF f v ((k,x)::r)=(if k=f then (k,v)::r else (k,x)::putF f v r) from rfl]
  by_cases hk:k=f
  ·rw [if_pos hk]
   subst hk
   exact ⟨by simp,fun g h=>by simpa using h⟩
  ·rw [if_neg hk]
   refine ⟨?_,fun g h=>?_⟩
   ·rw [List.map_cons]
    exact List.mem_cons_of_mem _ i1
   ·rw [List.map_cons] at h ⊢
    rcases List.mem_cons.mp h with e | e
    ·exact List.mem_cons.mpr (.inl e)
    ·exact List.mem_cons_of_mem _ (i2 g e)
theorem length_putF(f:Str)(v:V):∀ fs:List (Str×V),(putF f v fs).length≤fs.length+1
 | []=>by simp [putF]
 | (k,x)::r=>by
  have ih:=length_putF f v r
  rw [show putF f v ((k,x)::r)=(if k=f then (k,v)::r else (k,x)::putF f v r) from rfl]
  by_cases hk:k=f
  ·rw [if_pos hk,List.length_cons,List.length_cons]; omega
  ·rw [if_neg hk,List.length_cons,List.length_cons]; omega
theorem RelO.some_of{v:V}{o:Option Value}(r:RelO (some v) o):∃ u,o=some u∧RelV v u:=by
 cases o with
 | none=>exact (show False from r).elim
 | some u=>exact ⟨u,rfl,r⟩
theorem RelO.none_of{o:Option Value}(r:RelO none o):o=none:=by
 cases o with
 | none=>rfl
 | some u=>exact (show False from r).elim
theorem handed_of{v:V}{u:Value}(r:RelV v u):PySem.W.handedIn u=true:=by
 cases v with
 | non=>cases (show u=Value.none from r); rfl
 | bl b=>cases (show u=Value.bool b from r); rfl
 | int i=>obtain ⟨t,e⟩:=(show ∃ t,u=Value.int i t from r); cases e; rfl
 | str x=>obtain ⟨t,e⟩:=(show ∃ t,u=Value.str x t from r); cases e; rfl
 | byt b=>obtain ⟨t,e⟩:=(show ∃ t,u=Value.bytes b t from r); cases e; rfl
 | flt b=>obtain ⟨t,e⟩:=(show ∃ t,u=Value.float b t from r); cases e; rfl
 | ref a=>cases (show u=Value.ref a from r); rfl
 | ty n=>cases (show u=Value.type n from r); rfl
section
variable {P:Program} {w:World} {H H':Hp} {h h':Heap} {a C dx:Addr} {fs fs':List (Str×V)}
theorem ins_get(hok:HOk P w H h)(e:H a=some (.ins C dx fs)):∃ mA,ObjM h a dx C mA∧(∀ f,RelO (fs.lookup f) (mA f))∧PySem.Within mA (fs.map (·.1))∧fs.length≤1000∧H dx=some (.own a):=by
 obtain ⟨d,z,ne,ob,mA,n,r,q⟩:=(show ObjOk P w H h a (.ins C dx fs) from hok a _ e)
 exact ⟨mA,⟨ob,n,ne⟩,r,q,z,d⟩
end
structure Cls(K:PySem.W.Frag)(C:Addr):Prop where
 pg:PySem.W.plainGet K C Str.empty=true
 hd:PySem.W.hasDictIn K C=true
 po:PySem.W.plainOver K C=true
 sa:PySem.W.findIn K (.ref C) "__setattr__"=some (some (.builtin "object.__setattr__"))
theorem Cls.get{K:PySem.W.Frag}{C:Addr}(c:Cls K C)(f:Str):PySem.W.plainGet K C f=true:=c.pg
def NoAttr(K:PySem.W.Frag)(C:Addr)(f:Str):Prop:=PySem.W.findIn K (.ref C) f=some none
theorem NoAttr.taker{K:PySem.W.Frag}{C:Addr}{f:Str}(n:NoAttr K C f):PySem.W.takerIn K C f=some none:=by
 unfold PySem.W.takerIn
 rw [show PySem.W.findIn K (.ref C) f=some none from n]
 rfl
structure Meth(K:PySem.W.Frag)(C:Addr)(m:Str)(f:Addr):Prop where
 at_:PySem.W.findIn K (.ref C) m=some (some (.ref f))
 fn:PySem.W.isFn K (.ref f)=true
 kp:PySem.W.keepIn K (.ref f)=true
section
variable {X:Cx} {pins:List (Addr×Obj)} {σ:St} {H:Hp} {s:Shared} {a C dx:Addr} {fs:List (Str×V)} {f:Str} {v:V} {A:Around} {E:Value->Shared->Prop}
theorem getattr_ok{b:Bool}{Q:Value->Shared->Prop}(I:Inv X pins σ H s)(e:H a=some (.ins C dx fs))(c:Cls X.K C)(n:NoAttr X.K C f)(l:fs.lookup f=some v)
  (h:∀ u s',Inv X pins σ H s'->RelV v u->Q u s'):wpAny (model X.prog X.w) A (getAttr (.ref a) f b) Q E s:=by
 obtain ⟨mA,O,r,_,_,_⟩:=ins_get I.hok e
 obtain ⟨u,hu,ru⟩:=RelO.some_of (v:=v) (o:=mA f) (by rw [←l]; exact r f)
 exact get_map I.kIn O (c.get f) c.hd n hu (handed_of ru) (h u _ (I.tok _) ru)
theorem getmeth_ok{m:Str}{g:Addr}{pl:Sem Bool}{Q:Value×List Value->Shared->Prop}(I:Inv X pins σ H s)(e:H a=some (.ins C dx fs))(c:Cls X.K C)(k:Meth X.K C m g)(l:fs.lookup m=none)
  (h:Q (.ref g,[.ref a]) s):wpAny (model X.prog X.w) A (getMethod (.ref a) m pl) Q E s:=by
 obtain ⟨mA,O,r,_,_,_⟩:=ins_get I.hok e
 have hn:mA m=none:=RelO.none_of (by rw [←l]; exact r m)
 exact get_meth I.kIn O (c.get m) k.at_ k.fn hn h
theorem setattr_ok{y:V}{u:Value}{Q:Unit->Shared->Prop}(I:Inv X pins σ H s)(e:H a=some (.ins C dx fs))(c:Cls X.K C)(n:NoAttr X.K C f)(hl:fs.length < 1000)(ry:RelV y u)
  (h:∀ s',Inv X pins σ (upd H a (.ins C dx (putF f y fs))) s'->Q () s'):wpAny (model X.prog X.w) A (setAttr (.ref a) f u) Q E s:=by
 obtain ⟨mA,O,r,wi,_,ho⟩:=ins_get I.hok e
 have hz:(fs.map (·.1)).length≤sizeLine:=by rw [List.length_map,sizeLine_eq]; omega
 refine set_map I.kIn O c.sa c.po n.taker c.hd wi hz fun h' O' sb=>h _ ?_
 have hd:∃ o,h'.get? dx=some o:=let ⟨o,_,_,e',_⟩:=O'.ns; ⟨o,e'⟩
 refine I.write (x:=a) (e:=dx) (by rw [e]; exact True.intro) (.inr ho) (fun b q hb z=>(sb.2 b hb).trans z) hd ?_
 refine ⟨by rw [upd_ne O.ne]; exact ho,?_,O.ne,O'.obj,_,O'.ns,fun g=>?_,fun g hg=>?_⟩
 ·have:=length_putF f y fs; omega
 ·show RelO ((putF f y fs).lookup g) (if g=f then some u else mA g)
  rw [lookup_putF]
  by_cases q:g=f
  ·rw [if_pos q,if_pos q]; exact ry
  ·rw [if_neg q,if_neg q]; exact r g
 ·by_cases q:g=f
  ·rw [q]; exact (keys_putF f y fs).1
  ·refine (keys_putF f y fs).2 g (wi g fun z=>hg ?_)
   show (if g=f then some u else mA g)=none
   rw [if_neg q]; exact z
theorem Inv.made(I:Inv X pins σ H s):Inv X pins σ (upd (upd H s.heap.objs.size (.own (s.heap.objs.size+1))) (s.heap.objs.size+1) (.ins C s.heap.objs.size []))
  { s with heap:=(s.heap.push PySem.W.emptyDict).push (PySem.W.instObj C s.heap.objs.size) }:=by
 have e1:(s.heap.push PySem.W.emptyDict).get? s.heap.objs.size=some PySem.W.emptyDict:=Heap.get?_push_size s.heap rfl
 have e2:((s.heap.push PySem.W.emptyDict).push (PySem.W.instObj C s.heap.objs.size)).get? (s.heap.objs.size+1)=some (PySem.W.instObj C s.heap.objs.size):=by
  have:=Heap.get?_push_size (s.heap.push PySem.W.emptyDict) (o:=PySem.W.instObj C s.heap.objs.size) rfl
  rwa [Heap.size_push] at this
 have e3:(s.heap.push PySem.W.emptyDict).Ns s.heap.objs.size (fun _=>none):=⟨PySem.W.emptyDict,#[],_,e1,rfl,(fun e he=>absurd he (by simp)),fun _=>rfl⟩
 have I1:=I.laid (a:=s.heap.objs.size) (o:=.own (s.heap.objs.size+1)) (h':=s.heap.push PySem.W.emptyDict) (t':=s.toks) (fun b u q=>Heap.get?_push_of_some _ q) (Nat.le_refl _) ⟨_,e1⟩
 refine I1.laid (a:=s.heap.objs.size+1) (o:=.ins C s.heap.objs.size []) (t':=s.toks) (fun b u q=>Heap.get?_push_of_some _ q) (Nat.le_of_eq (Heap.size_push _ _)) ?_
 have ne:s.heap.objs.size≠s.heap.objs.size+1:=Nat.ne_of_lt (Nat.lt_succ_self _)
 refine ⟨by rw [upd_ne ne,upd_same],Nat.zero_le _,ne,e2,fun _=>none,(Heap.Ns1.of_empty e3).at fun o q=>Heap.get?_push_of_some _ q,fun _=>True.intro,fun y hy=>absurd rfl hy⟩
theorem attr_of{prog:Program}{w:World}{env:Env}{e:Expr}{f:Str}{pos:Pos}{s:Shared}{Q:Value->Shared->Prop}(hb:attributeBase e f env (eval e env)=eval e env)
  (h:wpAny (model prog w) A (eval e env) (fun o s₁=>wpAny (model prog w) A (getAttr o f true) Q E s₁) E s):wpAny (model prog w) A (eval (.Attribute e f pos) env) Q E s :=
 Attribute_any_ h (by rw [arm_eval_Attribute,hb])
end
def tFld(K:PySem.W.Frag)(ta:TE)(f:Str):TE:=fun σ H Q=>ta σ H fun x H1=>∃ a C dx fs v,x=.ref a∧H1 a=some (.ins C dx fs)∧Cls K C∧NoAttr K C f∧fs.lookup f=some v∧Q v H1
def sFld(K:PySem.W.Frag)(ta tv:TE)(f:Str):TS:=fun D σ H=>tv σ H fun y H1=>ta σ H1 fun x H2=>∃ a C dx fs,x=.ref a∧H2 a=some (.ins C dx fs)∧Cls K C∧NoAttr K C f∧fs.length < 1000 ∧
 D.nx σ (upd H2 a (.ins C dx (putF f y fs)))
section
variable {X:Cx} {o e value:Expr} {f:Str} {pos pos' tpos:Pos} {ta tv:TE}
theorem pe_fld(he:PE X e ta)(hb:attributeBase e f X.env (eval e X.env)=eval e X.env):PE X (.Attribute e f pos) (tFld X.K ta f):=by
 intro pins s σ H Q I h
 refine attr_of hb (thn (he pins s σ H _ I h) fun u s1 ⟨x,H1,I1,rx,a,C,dx,fs,v,ex,ea,c,n,l,q⟩=>?_)
 subst ex
 obtain rfl:u=Value.ref a:=rx
 exact getattr_ok I1 ea c n l fun u' s2 I2 ru=>⟨v,H1,I2,ru,q⟩
theorem ps_fld(ha:PE X o ta)(hv:PE X value tv)(hs:swapsWith value (some (.Attribute o f pos')) pos.line X.env=pure false):PS X (.Assign [.Attribute o f pos'] value pos) (sFld X.K ta tv f):=by
 intro pins s σ H D I h
 refine plainObj_wpAny_Assign_Attribute (thn (hv pins s σ H _ I h) fun u s1 ⟨y,H1,I1,ry,q⟩=>thn (ha pins s1 σ H1 _ I1 q) fun ov s2 ⟨x,H2,I2,rx,a,C,dx,fs,ex,ea,c,n,l,q2⟩=>?_) hs
 subst ex
 obtain rfl:ov=Value.ref a:=rx
 exact setattr_ok I2 ea c n l ry fun s3 I3=>⟨σ,_,I3,q2⟩
theorem methcall_of{pl:Sem Bool}{m:Str}{apos:Pos}{args:List Expr}{pins:List (Addr×Obj)}{s:Shared}{σ:St}{H:Hp}{Q:Value->Shared->Prop}{te:TE}(he:PE X e te)(I:Inv X pins σ H s)
  (h:te σ H fun x H1=>∃ a C dx fs g,x=.ref a∧H1 a=some (.ins C dx fs)∧Cls X.K C∧Meth X.K C m g∧fs.lookup m=none ∧
   ∀ s1,Inv X pins σ H1 s1->wpAny (model X.prog X.w) X.A (callWith pos (.ref g) [.ref a] (backTo pos (starEach args X.env)) (backToKw pos (keywordEach [] X.env))) Q X.xe s1)
  (ht:eval (.Call (.Attribute e m apos) args [] pos) X.env=(do
   let ov←eval e X.env
   standAt apos.atName
   let (f,first)←holding [ov] (getMethod ov m pl)
   callWith pos f first (backTo pos (starEach args X.env)) (backToKw pos (keywordEach [] X.env)))) :
  wpAny (model X.prog X.w) X.A (eval (.Call (.Attribute e m apos) args [] pos) X.env) Q X.xe s:=by
 refine PySem.W.methodCall_KW (pl:=pl) (thn (he pins s σ H _ I h) fun u s1 ⟨x,H1,I1,rx,a,C,dx,fs,g,ex,ea,c,k,l,q⟩=>?_) ht
 subst ex
 obtain rfl:u=Value.ref a:=rx
 exact getmeth_ok I1 ea c k l (q s1 I1)
end
end L2
namespace L2
open PySem PySem.Spec PyProof.Rows
structure Room(k:Nat)(A:Around):Prop where
 hd:A.handled=none
 dp:A.depth+3*k+5 < recursionLimit
 un:A.units+16*k+200 < cLine
theorem Room.mono{j k:Nat}{A:Around}(r:Room k A)(h:j≤k):Room j A:=⟨r.hd,by have:=r.dp; omega,by have:=r.un; omega⟩
theorem Room.deeper{k:Nat}{A:Around}(r:Room (k+1) A)(env:Env):Room k (A.deeper env) :=
 ⟨r.hd,by have:=r.dp; show A.depth+1+3*k+5 < _; omega,by have:=r.un; show A.units+3+16*k+200 < _; omega⟩
theorem make_depth{A:Around}{C:Addr}{us:List Value}{kw:List (Str×Value)}:(A.under (.builtin "type.__call__" ⟨.ref C::us,kw⟩)).depth=A.depth+1:=by
 first | rfl | simp [Around.under,Code.weight,Code.isCreation,Code.isGuard,Code.isCaller,Code.frames,Code.isFrame,guardIds]
theorem make_units{A:Around}{C:Addr}{us:List Value}{kw:List (Str×Value)}:(A.under (.builtin "type.__call__" ⟨.ref C::us,kw⟩)).units=A.units+1:=by
 first | rfl | simp [Around.under,Code.cUnits,Code.frames,Code.isFrame]
theorem Room.make{k:Nat}{A:Around}(r:Room (k+1) A)(C:Addr)(us:List Value)(kw:List (Str×Value)):Room k (A.under (.builtin "type.__call__" ⟨.ref C::us,kw⟩)) :=
 ⟨r.hd,by have:=r.dp; rw [make_depth]; omega,by have:=r.un; rw [make_units]; omega⟩
theorem Room.depth{k:Nat}{A:Around}(r:Room k A):A.depth < recursionLimit:=by have:=r.dp; omega
theorem Room.units{k:Nat}{A:Around}(r:Room k A):A.units+64 < cLine:=by have:=r.un; omega
def tNil:TA:=fun _ H Q=>Q [] H
def tCons(ta:TE)(tr:TA):TA:=fun σ H Q=>ta σ H fun x H1=>tr σ H1 fun xs H2=>Q (x::xs) H2
section
variable {X:Cx} {e:Expr} {es:List Expr} {te:TE} {t:TA} {pos:Pos}
theorem pa_nil:PA X [] tNil:=fun _ _ _ _ H Q I h=>Calls.spliced_nil ⟨[],H,I,.nil,h⟩
theorem pa_cons(ha:PE X e te)(hr:PA X es t)(hs:starEach (e::es) X.env=(false,eval e X.env)::starEach es X.env:=by rfl):PA X (e::es) (tCons te t):=by
 intro pos pins s σ H Q I h
 rw [hs]
 show wpAny _ _ (spliced ((false,eval e X.env)::backTo pos (starEach es X.env))) _ _ s
 refine Calls.spliced_cons (thn (ha pins s σ H _ I h) fun u s1 ⟨x,H1,I1,r1,q1⟩=>?_)
 exact thn (hr pos pins s1 σ H1 _ I1 q1) fun us s2 ⟨xs,H2,I2,r2,q2⟩=>⟨x::xs,H2,I2,.cons r1 r2,q2⟩
def tTup(t:TA):TE:=fun σ H Q=>t σ H fun xs H1=>xs.length≤sizeLine∧∀ p,H1 p=none->Q (.ref p) (upd H1 p (.tup xs))
def tLst(t:TA):TE:=fun σ H Q=>t σ H fun xs H1=>xs.length≤sizeLine∧∀ p,H1 p=none->Q (.ref p) (upd H1 p (.lst xs))
theorem pe_tup{x1}(h:PA X es t):PE X (.Tuple es x1 pos) (tTup t):=by
 intro pins s σ H Q I hq
 refine wpAny_Tuple_spliced (thn (h pos pins s σ H _ I hq) fun us s1 ⟨xs,H1,I1,r,z,q⟩=>⟨by rw [←r.length]; exact z,?_⟩)
 have hf:H1 s1.heap.objs.size=none:=I1.hok.fresh (Nat.le_refl _)
 refine ⟨.ref s1.heap.objs.size,upd H1 s1.heap.objs.size (.tup xs),I1.laid (t':=s1.toks) (fun b u e=>Heap.get?_push_of_some _ e) (Nat.le_refl _) ?_,rfl,q _ hf⟩
 exact ⟨z,us,r,⟨_,Heap.get?_push_size _ rfl,rfl,_,rfl⟩⟩
theorem pe_lst(h:PA X es t):PE X (.List es pos) (tLst t):=by
 intro pins s σ H Q I hq
 refine wpAny_List_spliced (thn (h pos pins s σ H _ I hq) fun us s1 ⟨xs,H1,I1,r,z,q⟩=>⟨by rw [←r.length]; exact z,?_⟩)
 have hf:H1 s1.heap.objs.size=none:=I1.hok.fresh (Nat.le_refl _)
 refine ⟨.ref s1.heap.objs.size,upd H1 s1.heap.objs.size (.lst xs),I1.laid (t':=s1.toks) (fun b u e=>Heap.get?_push_of_some _ e) (Nat.le_refl _) ?_,rfl,q _ hf⟩
 exact ⟨z,us,0,r,Heap.get?_push_size _ rfl⟩
end
abbrev Sp:=List V->Hp->VK->XK->Prop
abbrev CXT:=List Env->Hp->Shared->XK->Value->Shared->Prop
structure Env0(P:Program)(w:World)(K:PySem.W.Frag)(mg:Str->Option Value)(base:Heap)(A:Around)(outer:List Env)(s:Shared)(H:Hp):Prop where
 frames:A.frames=some outer
 mod:Mod K mg base
 bs:∀ b o,base.get? b=some o->s.heap.get? b=some o∧H b=none
 bsz:base.objs.size≤s.heap.objs.size
 funs:s.heap.FunFrames base outer
 frf:∀ b∈frs outer,H b=none
 hok:HOk P w H s.heap
 bare:AllBare s.gens
def CE(outer:List Env)(P:Program)(w:World)(H:Hp)(s:Shared)(Q:VK)(u:Value)(s':Shared):Prop :=
 ∃ v H',s'.os=s.os∧AllBare s'.gens∧Un (frs outer) [] H H' s.heap s'.heap∧HOk P w H' s'.heap∧RelV v u∧Q v H'
def CR(CX:CXT)(outer:List Env)(P:Program)(w:World)(H:Hp)(s:Shared)(Q:VK)(E:XK)(r:Result)(s':Shared):Prop :=
 match r with
 | .ok (.ret u)=>CE outer P w H s Q u s'
 | .ok _=>False
 | .error e=>CX outer H s E e s'
structure FnOk(P:Program)(w:World)(K:PySem.W.Frag)(mg:Str->Option Value)(base:Heap)(CX:CXT)(k:Nat)(f:Addr)(fd:FuncData)(ps:List Str)(sp:Sp):Prop where
 len:∀ vs H Q E,sp vs H Q E->vs.length=ps.length
 run:∀ (A:Around) (outer:List Env) (s:Shared) (H:Hp) (args:Args) (us:List Value) (vs:List V) (Q:VK) (E:XK),Room k A->Env0 P w K mg base A outer s H->BindsTo s fd args (ps.zip us)->Vals vs us->sp vs H Q E ->
  codeAny (model P w) A (.call (.ref f) args) (CR CX outer P w H s Q E) s
theorem Env0.make{P:Program}{w:World}{K:PySem.W.Frag}{mg:Str->Option Value}{base:Heap}{A:Around}{outer:List Env}{s:Shared}{H:Hp}(e:Env0 P w K mg base A outer s H)(C:Addr)(us:List Value)(kw:List (Str×Value)) :
  Env0 P w K mg base (A.under (.builtin "type.__call__" ⟨.ref C::us,kw⟩)) outer s H:=⟨by first | exact e.frames | (simpa [Around.under,Code.envs,Code.isFrame,pushEnvs] using e.frames),e.mod,e.bs,e.bsz,e.funs,e.frf,e.hok,e.bare⟩
section
variable {X:Cx} {pins:List (Addr×Obj)} {σ:St} {H:Hp} {s s':Shared}
theorem Inv.env0(I:Inv X pins σ H s):Env0 X.prog X.w X.K X.mg X.base X.A X.stack s H :=
 ⟨I.ok.frames,I.ok.mod,I.bs,Nat.le_trans I.ok.bsz I.sz,I.stack,I.stkFree,I.hok,I.bare⟩
theorem Inv.after{Q:VK}{u:Value}(I:Inv X pins σ H s)(h:CE X.stack X.prog X.w H s Q u s'):EP X pins σ Q u s':=by
 obtain ⟨v,H',os,bare,un,hok,r,q⟩:=h
 obtain ⟨hh,g,d,t,os'⟩:=s'
 obtain rfl:os'=s.os:=os
 exact ⟨v,H',I.call (h':=hh) (g':=g) (d':=d) (t':=t) (ch:=[]) un hok bare (fun b z=>absurd z (by simp)),r,q⟩
end
def tCall(sp:Sp)(dvs:List V)(E:XK)(t:TA):TE:=fun σ H Q=>t σ H fun vs H1=>sp (vs++dvs) H1 Q E
def tMeth(C:Addr)(m:Str)(sp:Sp)(dvs:List V)(E:XK)(ta:TE)(t:TA):TE:=fun σ H Q=>ta σ H fun x H1=>∃ a dx fs,x=.ref a∧H1 a=some (.ins C dx fs)∧fs.lookup m=none ∧
 t σ H1 fun vs H2=>sp (x::(vs++dvs)) H2 Q E
def tMake(C:Addr)(sp:Sp)(dvs:List V)(E:XK)(t:TA):TE:=fun σ H Q=>t σ H fun vs H1=>∀ x dx,H1 x=none->H1 dx=none->dx≠x ->
 sp (.ref x::(vs++dvs)) (upd (upd H1 dx (.own x)) x (.ins C dx [])) (fun v H2=>v=.non∧Q (.ref x) H2) E
def Binds(K:PySem.W.Frag)(fd:FuncData)(ps:List Str)(ds:List Value):Prop :=
 ∀ (s:Shared) (us:List Value),K.In s.heap->(us++ds).length=ps.length->BindsTo s fd ⟨us,[]⟩ (ps.zip (us++ds))
theorem Binds.all{K:PySem.W.Frag}{fd:FuncData}{ps:List Str}(h:∀ us:List Value,us.length=ps.length->bindArgs fd ⟨us,[]⟩=pure (ps.zip us)):Binds K fd ps []:=fun s us _ hl=>by
 rw [List.append_nil] at hl ⊢
 exact .of_eq (h us hl)
def Passes(CX:CXT)(X:Cx)(E:XK):Prop:=∀ (pins:List (Addr×Obj)) (σ:St) (H:Hp) (s:Shared) (e:Value) (s':Shared),Inv X pins σ H s->CX X.stack H s E e s'->X.xe e s'
section
variable {X:Cx} {CX:CXT} {k:Nat} {f C:Addr} {fd:FuncData} {ps:List Str} {sp:Sp} {dvs:List V} {ds:List Value} {E:XK} {x m:Str} {p pos apos:Pos} {e o:Expr} {es:List Expr} {ta:TE} {t:TA}
theorem run_fn{pins:List (Addr×Obj)}{σ:St}{H:Hp}{s:Shared}{Q:VK}{us:List Value}{vs:List V}(F:FnOk X.prog X.w X.K X.mg X.base CX k f fd ps sp)(hr:Room k X.A)(hb:Binds X.K fd ps ds)(hd:Vals dvs ds)(hx:Passes CX X E)
  (I:Inv X pins σ H s) (r:Vals vs us) (h:sp (vs++dvs) H Q E):wpAny (model X.prog X.w) X.A (call (.ref f) us) (EP X pins σ Q) X.xe s:=by
 have r2:Vals (vs++dvs) (us++ds):=r.append hd
 have hl:(us++ds).length=ps.length:=by rw [←r2.length]; exact F.len _ _ _ _ h
 refine wpAny_call (codeAny_mono (F.run X.A X.stack s H ⟨us,[]⟩ (us++ds) (vs++dvs) Q E hr I.env0 (hb s us I.kIn hl) r2 h) fun r s' hq=>?_)
 cases r with
 | error e=>exact hx pins σ H s e s' I hq
 | ok fl =>
  cases fl with
  | ret u=>exact I.after hq
  | next=>exact False.elim hq
  | brk=>exact False.elim hq
  | cont=>exact False.elim hq
theorem pe_call(F:FnOk X.prog X.w X.K X.mg X.base CX k f fd ps sp)(hr:Room k X.A)(hg:Gl X x)(hm:X.mg x=some (.ref f))(hk:PySem.W.keepIn X.K (.ref f)=true)(hb:Binds X.K fd ps ds)(hd:Vals dvs ds)(hx:Passes CX X E)
  (ha:PA X (e::es) t) (hdb:(x==("__debug__":Str))=false:=by decide) (he:starEach (e::es) X.env=(false,eval e X.env)::starEach es X.env:=by rfl) (hpl:(backTo pos (starEach es X.env)).any (·.1)=false:=by rfl) :
  PE X (.Call (.Name x p) (e::es) [] pos) (tCall sp dvs E t):=by
 intro pins s σ H Q I h
 refine wpAny_Call_Name_kw (ld_glob I hg hm ?_ hdb)
 refine PySem.W.callWith_K (h₀:=X.base) I.ok.mod.kin hk (thn (ha pos pins s σ H _ I h) fun us s1 ⟨vs,H1,I1,r,q⟩=>⟨I1.kIn,?_⟩) he hpl
 exact run_fn F hr hb hd hx I1 r q
theorem pe_meth{pl:Sem Bool}(he:PE X o ta)(c:Cls X.K C)(hm:Meth X.K C m f)(F:FnOk X.prog X.w X.K X.mg X.base CX k f fd ps sp)(hr:Room k X.A)(hb:Binds X.K fd ps ds)(hd:Vals dvs ds)(hx:Passes CX X E)(ha:PA X (e::es) t)
  (hst:starEach (e::es) X.env=(false,eval e X.env)::starEach es X.env:=by rfl) (hpl:(backTo pos (starEach es X.env)).any (·.1)=false:=by rfl)
  (ht:eval (.Call (.Attribute o m apos) (e::es) [] pos) X.env=(do
   let ov←eval o X.env
   standAt apos.atName
   let (f,first)←holding [ov] (getMethod ov m pl)
   callWith pos f first (backTo pos (starEach (e::es) X.env)) (backToKw pos (keywordEach [] X.env))):=by rfl) :
  PE X (.Call (.Attribute o m apos) (e::es) [] pos) (tMeth C m sp dvs E ta t):=by
 intro pins s σ H Q I h
 refine PySem.W.methodCall_KW (pl:=pl) (thn (he pins s σ H _ I h) fun u s1 ⟨x,H1,I1,rx,a,dx,fs,ex,ea,l,q⟩=>?_) ht
 subst ex
 obtain rfl:u=Value.ref a:=rx
 refine getmeth_ok I1 ea c hm l ?_
 refine PySem.W.callWith_K (first:=[.ref a]) (h₀:=X.base) I.ok.mod.kin hm.kp (thn (ha pos pins s1 σ H1 _ I1 q) fun us s2 ⟨vs,H2,I2,r,q2⟩=>⟨I2.kIn,?_⟩) hst hpl
 exact run_fn (us:=.ref a::us) (vs:=.ref a::vs) F hr hb hd hx I2 (.cons rfl r) q2
structure Mk(K:PySem.W.Frag)(C f:Addr):Prop where
 makes:PySem.W.makesIn K C=true
 init:PySem.W.findIn K (.ref C) "__init__"=some (some (.ref f))
 fn:PySem.W.isFn K (.ref f)=true
 kp:PySem.W.keepIn K (.ref C)=true
theorem run_make{pins:List (Addr×Obj)}{σ:St}{H:Hp}{s:Shared}{Q:VK}{us:List Value}{vs:List V}(M:Mk X.K C f)(F:FnOk X.prog X.w X.K X.mg X.base CX k f fd ps sp)(hr:Room (k+1) X.A)(hb:Binds X.K fd ps ds)(hd:Vals dvs ds)
  (hx:Passes CX X E) (I:Inv X pins σ H s) (r:Vals vs us)
  (h:∀ x dx,H x=none->H dx=none->dx≠x->sp (.ref x::(vs++dvs)) (upd (upd H dx (.own x)) x (.ins C dx [])) (fun v H2=>v=.non∧Q (.ref x) H2) E) :
  wpAny (model X.prog X.w) X.A (call (.ref C) us) (EP X pins σ Q) X.xe s:=by
 have hq:=h (s.heap.objs.size+1) s.heap.objs.size (I.hok.fresh (Nat.le_succ _)) (I.hok.fresh (Nat.le_refl _)) (Nat.ne_of_lt (Nat.lt_succ_self _))
 have I2:=Inv.made (C:=C) I
 have r2:Vals (V.ref (s.heap.objs.size+1)::(vs++dvs)) (Value.ref (s.heap.objs.size+1)::(us++ds)):=.cons rfl (r.append hd)
 have hl:(Value.ref (s.heap.objs.size+1)::us++ds).length=ps.length:=by
  have e:=r2.length
  rw [F.len _ _ _ _ hq] at e
  exact e.symm
 refine wpAny_call (make_map (f:=f) I.kIn M.makes M.init (beq_iff_eq.mp M.fn) (codeAny_mono (F.run _ X.stack _ _ ⟨Value.ref (s.heap.objs.size+1)::us,[]⟩ (Value.ref (s.heap.objs.size+1)::(us++ds)) _ _ E (hr.make C us [])
  (I2.env0.make C us []) (hb _ (Value.ref (s.heap.objs.size+1)::us) I2.kIn hl) r2 hq) fun r s' hq'=>?_))
 cases r with
 | error e=>exact hx pins σ _ _ e s' I2 hq'
 | ok fl =>
  cases fl with
  | ret u =>
   obtain ⟨v,H',I3,rv,ev,q3⟩:=I2.after hq'
   subst ev
   exact ⟨rv,⟨V.ref (s.heap.objs.size+1),H',I3,rfl,q3⟩⟩
  | next=>exact False.elim hq'
  | brk=>exact False.elim hq'
  | cont=>exact False.elim hq'
theorem pe_make(M:Mk X.K C f)(F:FnOk X.prog X.w X.K X.mg X.base CX k f fd ps sp)(hr:Room (k+1) X.A)(hg:Gl X x)(hm:X.mg x=some (.ref C))(hb:Binds X.K fd ps ds)(hd:Vals dvs ds)(hx:Passes CX X E)
  (ha:PA X (e::es) t) (hdb:(x==("__debug__":Str))=false:=by decide) (he:starEach (e::es) X.env=(false,eval e X.env)::starEach es X.env:=by rfl) (hpl:(backTo pos (starEach es X.env)).any (·.1)=false:=by rfl) :
  PE X (.Call (.Name x p) (e::es) [] pos) (tMake C sp dvs E t):=by
 intro pins s σ H Q I h
 refine wpAny_Call_Name_kw (ld_glob I hg hm ?_ hdb)
 refine PySem.W.callWith_K (h₀:=X.base) I.ok.mod.kin M.kp (thn (ha pos pins s σ H _ I h) fun us s1 ⟨vs,H1,I1,r,q⟩=>⟨I1.kIn,?_⟩) he hpl
 exact run_make M F hr hb hd hx I1 r q
theorem pe_make0(M:Mk X.K C f)(F:FnOk X.prog X.w X.K X.mg X.base CX k f fd ps sp)(hr:Room (k+1) X.A)(hg:Gl X x)(hm:X.mg x=some (.ref C))(hb:Binds X.K fd ps ds)(hd:Vals dvs ds)(hx:Passes CX X E)
  (hdb:(x==("__debug__":Str))=false:=by decide):PE X (.Call (.Name x p) [] [] pos) (tMake C sp dvs E tNil):=by
 intro pins s σ H Q I h
 refine wpAny_Call_Name_kw (ld_glob I hg hm ?_ hdb)
 exact PySem.W.callWith_K0 I.kIn M.kp (run_make (us:=[]) M F hr hb hd hx I .nil h)
end
structure FnScope(N P:List Str)(sc:Scope):Prop where
 kind:sc.kind=.function
 co:sc.isCoroutine=false
 gen:sc.isGenerator=false
 nd:N.Nodup
 pre:N.take P.length=P
 par:∀ x∈P,sc.names.lookup x=some .local∨sc.names.lookup x=some .cell
 nofree:∀ y∈sc.names,y.2≠.free
theorem bindL_out{kindOf:Str->Option NameKind}{x:Str}:∀ {binds:List (Str×Value)} {m:Str->Option Value},(∀ v,(x,v)∉binds)->bindL kindOf binds m x=m x
 | [],_,_=>rfl
 | (n,v)::r,m,h=>by
  unfold bindL
  rw [bindL_out fun w hw=>h w (List.mem_cons_of_mem _ hw)]
  split
  ·have:x≠n:=by rintro rfl; exact h v List.mem_cons_self
   simp [this]
  ·rfl
theorem bindC_out{kindOf:Str->Option NameKind}{x:Str}:∀ {binds:List (Str×Value)} {m:Str->Option Value},(∀ v,(x,v)∉binds)->bindC kindOf binds m x=m x
 | [],_,_=>rfl
 | (n,v)::r,m,h=>by
  unfold bindC
  rw [bindC_out fun w hw=>h w (List.mem_cons_of_mem _ hw)]
  split
  ·rfl
  ·have:x≠n:=by rintro rfl; exact h v List.mem_cons_self
   simp [this]
theorem bindL_get{kindOf:Str->Option NameKind}{x:Str}{v:Value}:∀ {P:List Str} {vs:List Value} {i:Nat} {m:Str->Option Value},P.Nodup->P[i]?=some x->vs[i]?=some v->kindOf x=some .local ->
  bindL kindOf (P.zip vs) m x=some v
 | [],_,_,_,_,h,_,_=>by simp at h
 | _::_,[],_,_,_,_,h,_=>by simp at h
 | p::P,w::vs,0,m,nd,h1,h2,hk=>by
  simp at h1 h2; subst h1; subst h2
  show bindL kindOf ((p,w)::P.zip vs) m p=_
  unfold bindL
  rw [bindL_out fun v hv=>(List.nodup_cons.mp nd).1 (List.of_mem_zip hv).1,if_pos hk]
  simp
 | p::P,w::vs,i+1,m,nd,h1,h2,hk=>by
  show bindL kindOf ((p,w)::P.zip vs) m x=_
  unfold bindL
  exact bindL_get (i:=i) (List.nodup_cons.mp nd).2 (by simpa using h1) (by simpa using h2) hk
theorem bindC_get{kindOf:Str->Option NameKind}{x:Str}{v:Value}:∀ {P:List Str} {vs:List Value} {i:Nat} {m:Str->Option Value},P.Nodup->P[i]?=some x->vs[i]?=some v->kindOf x≠some .local ->
  bindC kindOf (P.zip vs) m x=some v
 | [],_,_,_,_,h,_,_=>by simp at h
 | _::_,[],_,_,_,_,h,_=>by simp at h
 | p::P,w::vs,0,m,nd,h1,h2,hk=>by
  simp at h1 h2; subst h1; subst h2
  show bindC kindOf ((p,w)::P.zip vs) m p=_
  unfold bindC
  rw [bindC_out fun v hv=>(List.nodup_cons.mp nd).1 (List.of_mem_zip hv).1,if_neg hk]
  simp
 | p::P,w::vs,i+1,m,nd,h1,h2,hk=>by
  show bindC kindOf ((p,w)::P.zip vs) m x=_
  unfold bindC
  exact bindC_get (i:=i) (List.nodup_cons.mp nd).2 (by simpa using h1) (by simpa using h2) hk
def start(N:List Str)(vs:List V):St:=vs.map some++List.replicate (N.length - vs.length) none
def cxOf(CX:CXT)(P:Program)(w:World)(K:PySem.W.Frag)(mg:Str->Option Value)(base:Heap)(N:List Str)(qual:Str)(scope:Scope)(f:Addr)(cd:Value)(A:Around)(outer:List Env)(s:Shared)(H:Hp)(E:XK):Cx where
 prog:=P
 w:=w
 K:=K
 mg:=mg
 base:=base
 A:=A.deeper (envOfC qual scope s.heap.objs.size f cd)
 N:=N
 s_0:=s
 H_0:=H
 env:=envOfC qual scope s.heap.objs.size f cd
 outer:=outer
 stack:=envOfC qual scope s.heap.objs.size f cd::outer
 ex:=[]
 calm:=true
 fn:=fun _=>true
 pn:=[]
 xe:=fun e s'=>wpAny (model P w) (A.deeper (envOfC qual scope s.heap.objs.size f cd)) (leaving (envOfC qual scope s.heap.objs.size f cd) e) (fun _ s''=>CX outer H s E e s'') (fun e' s''=>CX outer H s E e' s'') s'
theorem cell_has{sc:Scope}{n:Nat}{x:Str}(h:sc.names.lookup x=some .cell):∃ c,(cellsFrom n sc.names []).lookup x=some c:=by
 have q:=PySem.W.cellsFrom_some sc.names n [] (.inl h)
 exact Option.isSome_iff_exists.mp q
theorem inv_start{CX:CXT}{P:Program}{w:World}{K:PySem.W.Frag}{mg:Str->Option Value}{base:Heap}{N ps:List Str}{qual:Str}{scope:Scope}{f:Addr}{cd:Value}{A:Around}{outer:List Env}{s s1:Shared}{H:Hp}{E:XK}{us:List Value}{vs:List V}
  (S:FnScope N ps scope) (hd:A.handled=none) (e0:Env0 P w K mg base A outer s H) (hl:vs.length=ps.length) (r:Vals vs us)
  (x:InCallC s s.heap.objs.size (bindL (envOfC qual scope s.heap.objs.size f cd).kindOf (ps.zip us) fun _=>none) (cellsFrom (s.heap.objs.size+1) scope.names []) (bindC (envOfC qual scope s.heap.objs.size f cd).kindOf (ps.zip us) fun _=>none) s1) :
  Inv (cxOf CX P w K mg base N qual scope f cd A outer s H E) [] (start N vs) H s1:=by
 have hpl:ps.length≤N.length:=by have:=congrArg List.length S.pre; rw [List.length_take] at this; omega
 obtain ⟨h1,tk,rfl,hk⟩:=x.done
 have noA:∀ b:Addr,b∉(cxOf CX P w K mg base N qual scope f cd A outer s H E).ex:=fun b z=>absurd (show b∈([]:List Addr) from z) (by simp)
 refine ⟨⟨e0.mod,S.kind,rfl,rfl,Nat.le_refl _,fun y z c h1 h2=>?_,fun y hy=>?_,fun y c _ h=>?_,fun _=>hd,Around.frames_deeper e0.frames,.inr ⟨rfl,rfl⟩,fun b z=>absurd z (noA b),e0.bs,e0.bsz,fun b _ _=>noA b,fun b z=>absurd z (noA b),e0.funs,e0.frf⟩,
  rfl,e0.bare,Un.kept hk,⟨_,x.toInCall.ns,fun i y v h1 h2 h3=>?_⟩,fun y c h=>⟨_,x.cell y c h⟩,e0.hok.fresh (Nat.le_refl _),fun y c h=>?_,fun p hp=>absurd (show p∈([]:List (Addr×Obj)) from hp) (by simp),e0.hok.kept hk,?_⟩
 ·exact name_of_addr x.apart (PySem.mem_of_lookup h1) (PySem.mem_of_lookup h2)
 ·have hy:scope.names.lookup y=some .cell∨scope.names.lookup y=some .free:=hy
  rcases hy with hy | hy
  ·exact cell_has hy
  ·exact absurd rfl (S.nofree _ (PySem.mem_of_lookup hy))
 ·exact Nat.le_of_lt (x.above y c (PySem.mem_of_lookup h))
 ·have hi:i < vs.length:=by
   unfold start at h2
   by_cases hi:i < vs.length
   ·exact hi
   ·rw [List.getElem?_append_right (by simpa using hi)] at h2
    rw [List.getElem?_replicate] at h2
    split at h2<;>cases h2
  have ha:vs[i]?=some v:=by
   unfold start at h2
   rw [List.getElem?_append_left (by simpa using hi),List.getElem?_map] at h2
   cases e:vs[i]? with
   | none=>rw [e] at h2; cases h2
   | some a=>rw [e] at h2; cases h2; rfl
  obtain ⟨u,hu,rv⟩:=r.get ha
  have hp:ps[i]?=some y:=by
   rw [←S.pre,List.getElem?_take_of_lt (by omega)]; exact h1
  have ndP:ps.Nodup:=by rw [←S.pre]; exact S.nd.sublist (List.take_sublist _ _)
  refine ⟨u,rv,?_⟩
  rcases S.par y (List.mem_of_getElem? hp) with k | k
  ·exact .inl ⟨k,bindL_get ndP hp hu k⟩
  ·obtain ⟨c,e⟩:=cell_has (n:=s.heap.objs.size+1) k
   refine .inr ⟨.inl k,c,e,?_⟩
   have q:=x.cell y c e
   rw [bindC_get ndP hp hu (by show scope.names.lookup y≠_; rw [k]; decide)] at q
   exact q
 ·exact e0.hok.fresh (Nat.le_of_lt (x.above y c (PySem.mem_of_lookup h)))
 ·unfold start
  show _=N.length
  rw [List.length_append,List.length_map,List.length_replicate]
  omega
theorem fn_of{CX:CXT}{P:Program}{w:World}{K:PySem.W.Frag}{mg:Str->Option Value}{base:Heap}{k:Nat}{f:Addr}{name qual:Str}{params:Arguments}{body:List Stmt}{scope:Scope}{dV kV doc pm cdv ct oc:Value}{an od:Option Addr}
  {osl:Array (Option Value)} {N ps:List Str} {sp:Sp} (lk:K.lookup f=some ⟨oc,od,.func (PySem.W.fnOf name qual params body scope dV kV doc pm an cdv ct),osl⟩) (hcd:PySem.W.codeIn K cdv qual=true) (S:FnScope N ps scope)
  (len:∀ vs H Q E,sp vs H Q E->vs.length=ps.length)
  (hbody:∀ (A:Around) (outer:List Env) (s:Shared) (H:Hp) (vs:List V) (Q:VK) (E:XK),Room k (A.deeper (envOfC qual scope s.heap.objs.size f cdv))->sp vs H Q E ->
   ∃ t,PSs (cxOf CX P w K mg base N qual scope f cdv A outer s H E) body t∧t { nx:=fun _ H'=>Q .non H',rt:=Q } (start N vs) H) :
  FnOk P w K mg base CX (k+1) f (PySem.W.fnOf name qual params body scope dV kV doc pm an cdv ct) ps sp:=by
 refine ⟨len,fun A outer s H args us vs Q E hr e0 hb r hsp=>?_⟩
 have hl:=len _ _ _ _ hsp
 have KX:K.In s.heap:=e0.mod.kin.keeps fun b o e=>(e0.bs b o e).1
 have lim:s.heap.NoLimit:=e0.mod.nolimit.keeps fun b o e=>(e0.bs b o e).1
 have hkind:∀ y∈ps.zip us,scope.names.lookup y.1=some .local∨(scope.names.lookup y.1=some .cell∧((cellsFrom (s.heap.objs.size+1) scope.names []).lookup y.1).isSome=true):=fun ⟨n,v⟩ hy=>by
  rcases S.par n (List.of_mem_zip hy).1 with q | q
  ·exact .inl q
  ·exact .inr ⟨q,PySem.W.cellsFrom_some _ _ _ (.inl q)⟩
 refine codeAny_call_function hr.depth (KX _ _ lk) rfl S.co S.gen rfl (PySem.W.codeRec_of KX hcd) (hb _ _ _ _ ?_)
 refine wpAny_newFunctionEnv_cells S.kind hkind fun env he s1 x=>?_
 subst he
 refine ⟨lim.keeps x.toInCall.keep,codeAny_func ?_⟩
 obtain ⟨t,ht,hq⟩:=hbody A outer s H vs Q E (hr.deeper _) hsp
 have I:Inv (cxOf CX P w K mg base N qual scope f cdv A outer s H E) [] (start N vs) H s1:=inv_start S hr.hd e0 hl r x
 refine wpAny_mono (ht [] s1 (start N vs) H _ I hq) (fun fl s' hs=>?_) fun e s' hs=>hs
 have fin:∀ {σ':St} {H':Hp} {v:V} {u:Value},Inv (cxOf CX P w K mg base N qual scope f cdv A outer s H E) [] σ' H' s'->RelV v u->Q v H'->CE outer P w H s Q u s' :=
  fun {σ' H' v u} J rv q=>⟨v,H',J.os,J.bare,J.base,J.hok,rv,q⟩
 cases fl with
 | ret u =>
  obtain ⟨v,σ',H',J,rv,q⟩:=hs
  exact fin J rv q
 | next =>
  obtain ⟨σ',H',J,q⟩:=hs
  exact fin (v:=V.non) (u:=Value.none) J rfl q
 | brk =>
  obtain ⟨_,_,_,q⟩:=hs
  exact False.elim q
 | cont =>
  obtain ⟨_,_,_,q⟩:=hs
  exact False.elim q
end L2
namespace L2
open PySem PySem.Spec PyProof.Rows
section
variable {X:Cx} {x:Str} {p pos:Pos} {e:Expr} {es:List Expr} {t:TA} {id T:String} {r:List V->Hp->VK->Prop}
def tCB(r:List V->Hp->VK->Prop)(t:TA):TE:=fun σ H Q=>t σ H fun vs H1=>r vs H1 Q
theorem pe_callB(hc:CallR X (.builtin id) r)(hg:Gl X x)(hm:X.mg x=none)(hv:bootBuiltins x=some (.builtin id))(ha:PA X (e::es) t)(hn:x≠"__name__":=by decide)(hdb:(x==("__debug__":Str))=false:=by decide)
  (he:starEach (e::es) X.env=(false,eval e X.env)::starEach es X.env:=by rfl) (hpl:(backTo pos (starEach es X.env)).any (·.1)=false:=by rfl):PE X (.Call (.Name x p) (e::es) [] pos) (tCB r t):=by
 intro pins s σ H Q I h
 refine wpAny_Call_Name_kw (ld_blt I hg hm hv ?_ hn hdb)
 exact PyProof.Rows.callWith_builtin1 (thn (ha pos pins s σ H _ I h) fun us s1 ⟨vs,H1,I1,r1,q1⟩=>hc pins s1 σ H1 vs us Q I1 r1 q1) he hpl
theorem pe_callTy(hc:CallR X (.type T) r)(hg:Gl X x)(hm:X.mg x=none)(hv:bootBuiltins x=some (.type T))(ha:PA X (e::es) t)(hn:x≠"__name__":=by decide)(hdb:(x==("__debug__":Str))=false:=by decide)
  (he:starEach (e::es) X.env=(false,eval e X.env)::starEach es X.env:=by rfl) (hpl:(backTo pos (starEach es X.env)).any (·.1)=false:=by rfl):PE X (.Call (.Name x p) (e::es) [] pos) (tCB r t):=by
 intro pins s σ H Q I h
 refine wpAny_Call_Name_kw (ld_blt I hg hm hv ?_ hn hdb)
 exact PyProof.Rows.callWith_type1 (thn (ha pos pins s σ H _ I h) fun us s1 ⟨vs,H1,I1,r1,q1⟩=>hc pins s1 σ H1 vs us Q I1 r1 q1) he hpl
end
end L2
namespace HT
open PySem PyProof.Rows
def lexLt:List Int->List Int->Bool
 | [],[]=>false
 | [],_::_=>true
 | _::_,[]=>false
 | x::xs,y::ys=>if x=y then lexLt xs ys else decide (x < y)
theorem lexLt_cons(x y:Int)(xs ys:List Int):lexLt (x::xs) (y::ys)=if x=y then lexLt xs ys else decide (x < y):=rfl
theorem lexLt_nil_nil:lexLt [] []=false:=rfl
theorem lexLt_nil_cons(y:Int)(ys:List Int):lexLt [] (y::ys)=true:=rfl
theorem lexLt_cons_nil(x:Int)(xs:List Int):lexLt (x::xs) []=false:=rfl
theorem eqAt_int(A:Around)(s:Shared)(a:Int)(t:Tok)(c:Int)(u:Tok):∃ e,SeqAt.EqAt A s (.int a t) (.int c u) e∧(e=true↔a=c) :=
 ⟨(a==c),SeqAt.EqAt.int_int a t c u,by simp⟩
theorem rcLt_int(A:Around)(s:Shared)(a:Int)(t:Tok)(c:Int)(u:Tok)(prog:Program)(w:World)(E:Value->Shared->Prop)(Q:Value->Shared->Prop)(h:Q (.bool (decide (a < c))) s) :
  wpAny (model prog w) A (richCompare .Lt (.int a t) (.int c u)) Q E s :=
 (PyProof.Rows.lt_int h:wpAny (model prog w) A (compareOp .Lt (.int a t) (.int c u)) Q E s)
section
open PySem.SeqAt
open PySem.AutoSeq1 (wpAny_loadPart')
open PySem.MeetsSeq PySem.MeetsSeq2 PySem.MeetsSeq3
theorem tuple_lt_ints(l b:Addr)(items items2:Array Value)(n n2:Nat)(dd dd2:Option Addr)(sl sl2:Array (Option Value))(ns ms:List Int)(hi:IntsAre items.toList ns)(hj:IntsAre items2.toList ms) :
  Meets (Builtin.«tuple.__lt__» ⟨[.ref l,.ref b],[]⟩)
   (fun _ R s=>s.heap.get? l=some { cls:=.type "tuple",dict:=dd,data:=.seq items n,slots:=sl }∧s.heap.get? b=some { cls:=.type "tuple",dict:=dd2,data:=.seq items2 n2,slots:=sl2 } ∧
    R (.ok (.ret (.bool (lexLt ns ms)))) s) :=
 .of_wp fun prog w A R s h=>by
  obtain ⟨hp,g,d,tk,os⟩:=s; obtain ⟨hl,hb,h⟩:=h
  have f2:=AutoSeq1.sub_tuple_tuple
  have z1:items.size=ns.length:=by rw [←hi.length]; simp
  have z2:items2.size=ms.length:=by rw [←hj.length]; simp
  wp_walk using wpAny_loadPart' hl,wpAny_loadPart' hb,wpAny_forIn_list _ (fun rest b s'=>b.1=none∧s'=⟨hp,g,d,tk,os⟩∧∃ (vs ws:List Value) (ns' ms':List Int),rest=vs.zip ws ∧
   IntsAre vs ns'∧IntsAre ws ms'∧ns'.length+items2.size=ms'.length+items.size∧R (.ok (.ret (.bool (lexLt ns' ms')))) ⟨hp,g,d,tk,os⟩) _
  case turn =>
   rintro ⟨y,x⟩ rest b s' ⟨hb',rfl,vs,ws,ns',ms',hz,hvi,hwi,hlen,hR⟩
   cases hvi with
   | nil=>rw [List.zip_nil_left] at hz; cases hz
   | cons a t hvi' =>
    cases hwi with
    | nil=>rw [List.zip_nil_right] at hz; cases hz
    | cons c u hwi' =>
     rw [List.zip_cons_cons] at hz
     injection hz with hyx hrest
     injection hyx with hy hx
     subst hy hx
     rw [lexLt_cons] at hR
     simp only [List.length_cons] at hlen
     obtain ⟨e,he,hiff⟩:=eqAt_int A.in1 ⟨hp,g,d,tk,os⟩ a t c u
     refine wpAny_bind (he prog w _ _ ?_)
     cases e with
     | true =>
      rw [if_pos (hiff.mp rfl)] at hR
      wp_walk
      exact ⟨rfl,rfl,_,_,_,_,hrest,hvi',hwi',by omega,hR⟩
     | false =>
      rw [if_neg (fun q=>absurd (hiff.mpr q) Bool.false_ne_true)] at hR
      have hri:=rcLt_int A.in1 ⟨hp,g,d,tk,os⟩ a t c u prog w
      wp_walk using hri
      exact ⟨_,rfl,by simpa using hR⟩
  case fin =>
   rintro ⟨b1,b2⟩ s' ⟨hb',rfl,vs,ws,ns',ms',hz,hvi,hwi,hlen,hR⟩
   simp only at hb'
   subst hb'
   have hv:lexLt ns' ms'=decide (items.size < items2.size):=by
    cases hvi with
    | nil =>
     cases hwi with
     | nil =>
      simp only [List.length_nil] at hlen
      rw [lexLt_nil_nil]
      exact (decide_eq_false (by omega)).symm
     | cons c u hw =>
      simp only [List.length_nil,List.length_cons] at hlen
      rw [lexLt_nil_cons]
      exact (decide_eq_true (by omega)).symm
    | cons a t hv =>
     cases hwi with
     | nil =>
      simp only [List.length_nil,List.length_cons] at hlen
      rw [lexLt_cons_nil]
      exact (decide_eq_false (by omega)).symm
     | cons c u hw =>
      rw [List.zip_cons_cons] at hz
      cases hz
   rw [hv] at hR
   wp_walk
   exact ⟨_,rfl,by simpa [Builtin.Tuple.tupleCompareSizes] using hR⟩
  case h =>
   exact ⟨rfl,rfl,items.toList,items2.toList,ns,ms,rfl,hi,hj,by omega,h⟩
end
section
variable {prog:Program} {w:World} {A:Around} {E:Value->Shared->Prop} {s:Shared}
theorem lt_tupInts{l b:Addr}{items items2:Array Value}{ns ms:List Int}{Q:Value->Shared->Prop}(hl:IsTup s.heap l items)(hb:IsTup s.heap b items2)(hi:IntsAre items.toList ns)(hj:IntsAre items2.toList ms)
  (hu:A.units < cLine) (h:Q (.bool (lexLt ns ms)) s):wpAny (model prog w) A (compareOp .Lt (.ref l) (.ref b)) Q E s:=by
 obtain ⟨⟨cls,dd,data,sl⟩,ho,hc,n,hd⟩:=id hl
 obtain ⟨⟨cls2,dd2,data2,sl2⟩,ho2,hc2,n2,hd2⟩:=id hb
 simp only at hc hd hc2 hd2
 subst hc hd hc2 hd2
 exact richCompare_meets_room (op:=.Lt) ⟨_,ho,rfl⟩ ⟨_,ho2,rfl⟩ PySem.F.slot_tuple_lt PySem.F.entry_tuple_lt (PySem.F.args_tuple_lt_2 _ _) (tuple_lt_ints l b items items2 n n2 dd dd2 sl sl2 ns ms hi hj)
  ⟨ho,ho2,show Value.bool (lexLt ns ms)≠Value.notImplemented∧Q (.bool (lexLt ns ms)) s from ⟨(fun x=>nomatch x),h⟩⟩ hu
def sIx(n d:Nat):Option Int->Nat
 | none=>d
 | some v=>if v < 0 then (v+(n:Int)).toNat else min v.toNat n
theorem sIx_none(n d:Nat):sIx n d none=d:=rfl
theorem sIx_nat(n d k:Nat):sIx n d (some (k:Int))=min k n:=by
 show (if (k:Int) < 0 then ((k:Int)+(n:Int)).toNat else min (k:Int).toNat n)=min k n
 rw [if_neg (by omega),Int.toNat_natCast]
end
end HT
namespace L2
open PySem PySem.Spec PyProof.Rows
abbrev TO:=St->Hp->(Option Int->Hp->Prop)->Prop
def PO(X:Cx)(e:Option Expr)(t:TO):Prop :=
 ∀ (pins:List (Addr×Obj)) (s:Shared) (σ:St) (H:Hp) (Q:Option Int->Hp->Prop),Inv X pins σ H s->t σ H Q ->
  wpAny (model X.prog X.w) X.A (evalPart e X.env) (fun u s'=>∃ o H',Inv X pins σ H' s'∧IsPart u o∧Q o H') X.xe s
def tNoPart:TO:=fun _ H Q=>Q none H
def tPart(t:TE):TO:=fun σ H Q=>t σ H fun x H1=>∃ i,x=.int i∧Q (some i) H1
theorem intsAre_of{ns:List Int}:∀ {us:List Value},Vals (ns.map V.int) us->IntsAre us ns:=by
 induction ns with
 | nil=>intro us r; rw [List.map_nil] at r; cases r; exact .nil
 | cons n ns ih =>
  intro us r
  rw [List.map_cons] at r
  cases r with
  | cons r1 r2 =>
   obtain ⟨t,e⟩:=r1
   subst e
   exact .cons n t (ih r2)
section
variable {X:Cx} {e:Expr} {te:TE} {lo hi:Option Expr} {tl th:TO} {pos p2:Pos}
theorem po_none:PO X none tNoPart:=by
 intro pins s σ H Q I h
 rw [evalPart_none]
 exact wpAny_pure ⟨none,H,I,.none,h⟩
theorem po_some(h:PE X e te):PO X (some e) (tPart te):=by
 intro pins s σ H Q I hw
 rw [evalPart_some]
 refine thn (h pins s σ H _ I hw) fun u s1 ⟨x,H1,I1,r1,q1⟩=>?_
 obtain ⟨i,rfl,q⟩:=q1
 obtain ⟨t,rfl⟩:=r1
 exact ⟨some i,H1,I1,.int i t,q⟩
def SlR(X:Cx)(r:V->Option Int->Option Int->Hp->VK->Prop):Prop :=
 ∀ (pins:List (Addr×Obj)) (s:Shared) (σ:St) (H:Hp) (x:V) (v vl vu:Value) (lo hi:Option Int) (sl:Addr) (Q:VK),Inv X pins σ H s->RelV x v->s.heap.IsSliceOf sl vl vu .none->IsPart vl lo->IsPart vu hi->r x lo hi H Q ->
  ∃ T id,typeLookup (.type T) "__getitem__"=pure (some (.builtin id))∧s.TypeIs v T∧wpAny (model X.prog X.w) X.A (getItem v (.ref sl)) (EP X pins σ Q) X.xe s
def tSl(r:V->Option Int->Option Int->Hp->VK->Prop)(te:TE)(tl th:TO):TE:=fun σ H Q=>te σ H fun x H1=>tl σ H1 fun l H2=>th σ H2 fun u H3=>r x l u H3 Q
theorem pe_slice{r:V->Option Int->Option Int->Hp->VK->Prop}(hr:SlR X r)(he:PE X e te)(hl:PO X lo tl)(hu:PO X hi th):PE X (.Subscript e (.Slice lo hi none p2) pos) (tSl r te tl th):=by
 intro pins s σ H Q I h
 refine Subscript_ (thn (he pins s σ H _ I h) fun v s1 ⟨x,H1,I1,r1,q1⟩=>?_)
 refine wpAny_Slice (thn (hl pins s1 σ H1 _ I1 q1) fun vl s2 ⟨l,H2,I2,pl,q2⟩=>thn (hu pins s2 σ H2 _ I2 q2) fun vu s3 ⟨u,H3,I3,pu,q3⟩=>?_)
 rw [evalPart_none]
 refine wpAny_pure ?_
 have I4:Inv X pins σ H3 { s3 with heap:=s3.heap.push { cls:=.type "slice",data:=.fields #[vl,vu,.none] } }:=I3.kept (t':=s3.toks) fun b ob q=>Heap.get?_push_of_some _ q
 obtain ⟨T,id,hT,ht,hg⟩:=hr pins { s3 with heap:=s3.heap.push { cls:=.type "slice",data:=.fields #[vl,vu,.none] } } σ H3 x v vl vu l u s3.heap.objs.size Q I4 r1 (Heap.IsSliceOf.new ..) pl pu q3
 show wpAny (model X.prog X.w) X.A (subscriptTail e (.Slice lo hi none p2) v (.ref s3.heap.objs.size)) (EP X pins σ Q) X.xe { s3 with heap:=s3.heap.push { cls:=.type "slice",data:=.fields #[vl,vu,.none] } }
 exact tail_any (ops:=[.ref s3.heap.objs.size,v]) ht hT hg (by with_unfolding_all rfl)
def cutV(xs:List V)(lo hi:Option Int):List V:=(xs.drop (HT.sIx xs.length 0 lo)).take (HT.sIx xs.length xs.length hi - HT.sIx xs.length 0 lo)
theorem cutV_length(xs:List V)(lo hi:Option Int):(cutV xs lo hi).length≤xs.length:=by
 unfold cutV
 rw [List.length_take,List.length_drop]
 omega
end
end L2
namespace L2
open PySem PySem.Spec PyProof.Rows
def ixN(n:Nat)(i:Int):Option Nat:=if 0≤i then (if i < n then some i.toNat else none) else if -(n:Int)≤i then some (i+n).toNat else none
def atI{α:Type}(xs:List α)(i:Int):Option α:=(ixN xs.length i).bind fun j=>xs[j]?
theorem ixN_seq{n:Nat}{i:Int}{j:Nat}(h:ixN n i=some j):seqIndex? i n=some j∧j < n∧-(n:Int)≤i∧i < n:=by
 unfold ixN at h
 by_cases h0:0≤i
 ·rw [if_pos h0] at h
  by_cases h1:i < n
  ·rw [if_pos h1] at h
   have e:i.toNat=j:=Option.some.inj h
   exact ⟨by rw [seqIndex_of h0 h1,e],by omega,by omega,h1⟩
  ·rw [if_neg h1] at h; cases h
 ·rw [if_neg h0] at h
  by_cases h1:-(n:Int)≤i
  ·rw [if_pos h1] at h
   have e:(i+n).toNat=j:=Option.some.inj h
   exact ⟨by rw [seqIndex_neg (by omega) h1,e],by omega,h1,by omega⟩
  ·rw [if_neg h1] at h; cases h
theorem atI_get{α:Type}{xs:List α}{i:Int}{v:α}(h:atI xs i=some v):∃ j,seqIndex? i xs.length=some j∧xs[j]?=some v∧j < xs.length∧-(xs.length:Int)≤i∧i < xs.length:=by
 unfold atI at h
 cases e:ixN xs.length i with
 | none=>rw [e] at h; cases h
 | some j =>
  rw [e] at h
  obtain ⟨h1,h2,h3,h4⟩:=ixN_seq e
  exact ⟨j,h1,h,h2,h3,h4⟩
theorem atI_nat{α:Type}{xs:List α}{j:Nat}{v:α}(h:xs[j]?=some v):atI xs (j:Int)=some v:=by
 have hj:j < xs.length:=(List.getElem?_eq_some_iff.mp h).1
 have e:ixN xs.length (j:Int)=some j:=by
  unfold ixN
  rw [if_pos (by omega),if_pos (by omega)]; simp
 unfold atI; rw [e]; exact h
theorem atI_last{α:Type}(xs:List α)(v:α):atI (xs++[v]) (-1)=some v:=by
 have hl:(xs++[v]).length=xs.length+1:=by simp
 have e:ixN (xs++[v]).length (-1)=some xs.length:=by
  unfold ixN
  rw [hl,if_neg (by decide),if_pos (by omega)]
  congr 1
  omega
 unfold atI
 rw [e]
 show (xs++[v])[xs.length]?=some v
 simp
def PlainIx(b:Expr):Prop:=∀ o i,subscripted b false o i=operate [o,i] (getItem o i)
def IxR(X:Cx)(r:R2):Prop :=
 ∀ (value slice:Expr) (pins:List (Addr×Obj)) (s:Shared) (σ:St) (H:Hp) (x y:V) (v u:Value) (Q:VK),Inv X pins σ H s->RelV x v->RelV y u->r x y H Q ->
  subscripted slice false v u=operate [v,u] (getItem v u)->wpAny (model X.prog X.w) X.A (subscriptTail value slice v u) (EP X pins σ Q) X.xe s
def MtR(X:Cx)(id:String)(r:V->List V->Hp->VK->Prop):Prop :=
 ∀ (pins:List (Addr×Obj)) (s:Shared) (σ:St) (H:Hp) (x:V) (xs:List V) (v:Value) (us:List Value) (Q:VK),Inv X pins σ H s->RelV x v->Vals xs us->r x xs H Q ->
  wpAny (model X.prog X.w) X.A (call (.builtin id) (v::us)) (EP X pins σ Q) X.xe s
section
variable {X:Cx} {a b:Expr} {ta tb:TE} {pos:Pos}
theorem pe_ix{r:R2}(hr:IxR X r)(ha:PE X a ta)(hb:PE X b tb)(hs:PlainIx b):PE X (.Subscript a b pos) (tOp r ta tb):=by
 intro pins s σ H Q I h
 exact Subscript_ (binT ha hb I h fun v u s2 x y H2 I2 rx ry q=>hr a b pins s2 σ H2 x y v u Q I2 rx ry q (hs _ _))
def rIxL(K:PySem.W.Frag):R2:=fun x y H Q=>∃ p xs i v,x=.ref p∧y=.int i∧SqL K H p xs∧atI xs i=some v∧Q v H
def rIxT(K:PySem.W.Frag):R2:=fun x y H Q=>∃ p xs i v,x=.ref p∧y=.int i∧SqT K H p xs∧atI xs i=some v∧Q v H
def rIxS:R2:=fun x y H Q=>∃ z i c,x=.str z∧y=.int i∧z.length≤sizeLine∧atI z.cps.toList i=some c∧Q (.str ⟨#[c]⟩) H
theorem ix_list:IxR X (rIxL X.K):=by
 intro value slice pins s σ H x y v u Q I rx ry h hs
 obtain ⟨p,xs,i,z,rfl,rfl,hq,he,q⟩:=h
 cases rx
 obtain ⟨t,rfl⟩:=ry
 obtain ⟨its,r,pl,hz⟩:=I.list hq
 obtain ⟨j,h1,h2,h3,h4,h5⟩:=atI_get he
 obtain ⟨w,ew,rw'⟩:=r.get h2
 have hl:=r.length
 have hn:=line63
 have fin:EP X pins σ Q w s:=⟨z,H,I,rw',q⟩
 by_cases h0:0≤i
 ·have hj:i.toNat=j:=by
   rw [seqIndex_of h0 h5] at h1
   exact Option.some.inj h1
  exact item_listR pl.isList h0 (by omega) (by rw [hj]; simpa using ew) fin hs
 ·have hj:(i+(its.toArray.size:Int)).toNat=j:=by
   rw [seqIndex_neg (by omega) h4] at h1
   rw [List.size_toArray,←hl]
   exact Option.some.inj h1
  exact subscriptTail_builtinR (x:=w) pl.isList.typeIs slot_list_getitem.lookup
   (wpAny_getItem_list_neg (Q:=fun r s'=>r=w∧EP X pins σ Q r s') pl.isList (by omega) (by rw [List.size_toArray]<;>omega) (by omega) (by rw [hj]; simpa using ew) ⟨rfl,fin⟩) hs
theorem ix_tup:IxR X (rIxT X.K):=by
 intro value slice pins s σ H x y v u Q I rx ry h hs
 obtain ⟨p,xs,i,z,rfl,rfl,hq,he,q⟩:=h
 cases rx
 obtain ⟨t,rfl⟩:=ry
 obtain ⟨its,r,pl,hz⟩:=I.tuple hq
 obtain ⟨j,h1,h2,h3,h4,h5⟩:=atI_get he
 obtain ⟨w,ew,rw'⟩:=r.get h2
 have hl:=r.length
 have hn:=line63
 have fin:EP X pins σ Q w s:=⟨z,H,I,rw',q⟩
 exact subscriptTail_builtinR (x:=w) pl.typeIs slot_tuple_getitem.lookup
  (getItem_tuple (j:=j) (Q:=fun r s'=>r=w∧EP X pins σ Q r s') pl (by omega) (by omega) (by rw [List.size_toArray,←hl]; exact h1) (by simpa using ew) ⟨rfl,fin⟩) hs
theorem ix_str:IxR X rIxS:=by
 intro value slice pins s σ H x y v u Q I rx ry h hs
 obtain ⟨z,i,c,rfl,rfl,hz,he,q⟩:=h
 obtain ⟨t,rfl⟩:=rx
 obtain ⟨t',rfl⟩:=ry
 obtain ⟨j,h1,h2,h3,h4,h5⟩:=atI_get he
 have hl:z.cps.toList.length=z.length:=by simp [Str.length]
 rw [hl] at h1 h4 h5
 have hn:=line63
 exact tail_any (typeIs_str s z t) slot_str_getitem.lookup (getItem_str (c:=c) (by
  have e1:decide (i < -(2 ^ 63:Int))=false:=decide_eq_false (by omega)
  have e2:decide (i≥2 ^ 63)=false:=decide_eq_false (by omega)
  rw [e1,e2,Bool.or_false]) (by rw [h1]; simpa using h2) ⟨.str ⟨#[c]⟩,H,I.tok _,⟨_,rfl⟩,q⟩) hs
theorem mapSeq_set(its:List Value)(n j:Nat)(u:Value):Obj.mapSeq (·.setIfInBounds j u) { cls:=.type "list",data:=.seq its.toArray n }={ cls:=.type "list",data:=.seq (its.set j u).toArray n }:=by
 simp [Obj.mapSeq]
theorem Inv.lst{pins:List (Addr×Obj)}{σ:St}{H:Hp}{s:Shared}{p:Addr}{xs:List V}(I:Inv X pins σ H s)(h:H p=some (.lst xs)) :
  ∃ (its:List Value) (n:Nat),Vals xs its∧s.heap.get? p=some { cls:=.type "list",data:=.seq its.toArray n }∧xs.length≤sizeLine:=by
 obtain ⟨z,its,n,r,e⟩:=I.hok p _ h
 exact ⟨its,n,r,e,z⟩
theorem Inv.lstUpd{pins:List (Addr×Obj)}{σ:St}{H:Hp}{s:Shared}{p:Addr}{xs ys:List V}{its its':List Value}{n n':Nat}{f:Obj->Obj}(I:Inv X pins σ H s)(h:H p=some (.lst xs))
  (ho:s.heap.get? p=some { cls:=.type "list",data:=.seq its.toArray n }) (hf:f { cls:=.type "list",data:=.seq its.toArray n }={ cls:=.type "list",data:=.seq its'.toArray n' }) (r:Vals ys its') (hz:ys.length≤sizeLine) (t:Nat) :
  Inv X pins σ (upd H p (.lst ys)) { s with heap:=s.heap.update p f,toks:=t }:=by
 have e:(s.heap.update p f).get? p=some { cls:=.type "list",data:=.seq its'.toArray n' }:=by
  rw [Heap.get?_update_self f ho (by rw [hf]<;>rfl),hf]
 refine I.write (x:=p) (e:=p) (by rw [h]; trivial) (.inl rfl) (fun b u hb q=>(Heap.get?_update_other _ _ (Ne.symm hb)).trans q) ⟨_,e⟩ ?_
 exact ⟨hz,its',n',r,e⟩
def rSetL:V->V->V->Hp->(Hp->Prop)->Prop:=fun o i v H Q=>∃ p xs k j,o=.ref p∧i=.int k∧H p=some (.lst xs)∧ixN xs.length k=some j∧Q (upd H p (.lst (xs.set j v)))
theorem set_list:PSet X rSetL:=by
 intro pins s σ H o i v ov iv u Q I ro ri rv h
 obtain ⟨p,xs,k,j,rfl,rfl,hp,hj,q⟩:=h
 cases ro
 obtain ⟨t,rfl⟩:=ri
 obtain ⟨its,n,r,ho,hz⟩:=I.lst hp
 obtain ⟨h1,h2,h3,h4⟩:=ixN_seq hj
 have hl:=r.length
 have hn:=line63
 have I':Inv X pins σ (upd H p (.lst (xs.set j v))) { s with heap:=s.heap.update p (Obj.mapSeq (·.setIfInBounds j u)) } :=
  I.lstUpd hp ho (mapSeq_set its n j u) (r.set rv j) (by rw [List.length_set]; exact hz) s.toks
 by_cases h0:0≤k
 ·have hk:k.toNat=j:=by
   rw [seqIndex_of h0 h4] at h1
   exact Option.some.inj h1
  exact PySem.W.ki_setAt ho h0 (by omega) (by rw [List.size_toArray,←hl]; exact h4) (by rw [hk]; exact ⟨_,I',q⟩)
 ·have hk:(k+(its.toArray.size:Int)).toNat=j:=by
   rw [seqIndex_neg (by omega) h3] at h1
   rw [List.size_toArray,←hl]
   exact Option.some.inj h1
  exact PySem.W.ki_setBack ho (by omega) (by rw [List.size_toArray,←hl]; exact h3) (by omega) (by rw [hk]; exact ⟨_,I',q⟩)
theorem slice_bounds(lo hi:Option Int)(n:Nat):(sliceBounds lo hi none n).1=((HT.sIx n 0 lo:Nat):Int)∧(sliceBounds lo hi none n).2.1=((HT.sIx n n hi:Nat):Int)∧(sliceBounds lo hi none n).2.2=1:=by
 refine ⟨?_,?_,rfl⟩
 ·cases lo with
  | none=>simp [sliceBounds,HT.sIx]
  | some i =>
   simp only [sliceBounds,HT.sIx,Option.getD_none,show (1:Int) > 0 by decide,if_true]
   by_cases h:i < 0
   ·simp only [h,if_true]<;>omega
   ·simp only [h,if_false]<;>omega
 ·cases hi with
  | none=>simp [sliceBounds,HT.sIx]
  | some i =>
   simp only [sliceBounds,HT.sIx,Option.getD_none,show (1:Int) > 0 by decide,if_true]
   by_cases h:i < 0
   ·simp only [h,if_true]<;>omega
   ·simp only [h,if_false]<;>omega
theorem slicePick_cut(its:List Value)(lo hi:Option Int):slicePick its.toArray lo hi none=((its.drop (HT.sIx its.length 0 lo)).take (HT.sIx its.length its.length hi - HT.sIx its.length 0 lo)).toArray:=by
 obtain ⟨h1,h2,h3⟩:=slice_bounds lo hi its.toArray.size
 unfold slicePick
 rw [h1,h2,h3]
 simp only [sliceRange_one,pick_run,List.size_toArray]<;>rfl
def rSlL(K:PySem.W.Frag):V->Option Int->Option Int->Hp->VK->Prop:=fun x lo hi H Q=>∃ a xs,x=.ref a∧SqL K H a xs∧∀ p,H p=none->Q (.ref p) (upd H p (.lst (cutV xs lo hi)))
theorem sl_list:SlR X (rSlL X.K):=by
 intro pins s σ H x v vl vu lo hi sl Q I rx hs pl pu h
 obtain ⟨a,xs,rfl,hx,q⟩:=h
 cases rx
 obtain ⟨its,r,ht,hz⟩:=I.list hx
 have hlen:=r.length
 refine ⟨"list",_,slot_list_getitem.lookup,ht.isList.typeIs,?_⟩
 refine wpAny_getItem_list_slice ht.isList hs pl pu .none (by simp) ?_ (by rw [List.size_toArray]<;>omega)
 rw [slicePick_cut,←hlen]
 refine ⟨.ref s.heap.objs.size,_,I.laid (t':=s.toks) (o:=.lst (cutV xs lo hi)) (fun b ob q=>Heap.get?_push_of_some _ q) (Nat.le_refl _) ?_,rfl,q _ (I.hok.fresh (Nat.le_refl _))⟩
 exact ⟨Nat.le_trans (cutV_length xs lo hi) hz,_,0,(r.drop (HT.sIx xs.length 0 lo)).take (HT.sIx xs.length xs.length hi - HT.sIx xs.length 0 lo),Heap.get?_push_size _ rfl⟩
theorem call_len_seq:CallR X (.builtin "len") (fun xs H Q=>∃ p ys,xs=[.ref p]∧(SqL X.K H p ys∨SqT X.K H p ys)∧Q (.int ys.length) H):=by
 intro pins s σ H xs us Q I r h
 obtain ⟨p,ys,rfl,hq,q⟩:=h
 obtain ⟨u,rfl,rx⟩:=vals1 r
 cases rx
 have hn:=line63
 rcases hq with hq | hq
 ·obtain ⟨its,r',pl,hz⟩:=I.list hq
  have hlen:=r'.length
  exact Calls.call_len_list pl.isList (by simp only [List.size_toArray]<;>omega) ⟨.int ys.length,H,I.tok _,⟨s.toks+1,by rw [List.size_toArray,hlen]⟩,q⟩
 ·obtain ⟨its,r',pl,hz⟩:=I.tuple hq
  have hlen:=r'.length
  exact len_tuple pl (by simp only [List.size_toArray]<;>omega) ⟨.int ys.length,H,I.tok _,⟨s.toks+1,by rw [List.size_toArray,hlen]⟩,q⟩
theorem call_len_str:CallR X (.builtin "len") (fun xs H Q=>∃ z,xs=[.str z]∧z.length≤sizeLine∧Q (.int z.length) H):=by
 intro pins s σ H xs us Q I r h
 obtain ⟨z,rfl,hz,q⟩:=h
 obtain ⟨u,rfl,t,rfl⟩:=vals1 r
 have hn:=line63
 exact len_str (by omega) ⟨.int z.length,H,I.tok _,⟨_,rfl⟩,q⟩
def tyV(K:PySem.W.Frag)(T:String)(x:V)(H:Hp):Prop:=match x with
 | .str _=>T="str"
 | .int _=>T="int"
 | .ref p=>(T="list"∧∃ xs,SqL K H p xs)∨(T="tuple"∧∃ o,K.lookup p=some o∧o.cls=.type "tuple"∧o.dict=none) ∨
   (T="dict"∧((∃ kvs,H p=some (.dK kvs))∨∃ kvs,H p=some (.dT kvs)))∨(T="set"∧∃ S n,H p=some (.set S n))
 | _=>False
theorem tyV_is{pins:List (Addr×Obj)}{σ:St}{H:Hp}{s:Shared}{T:String}{x:V}{v:Value}(I:Inv X pins σ H s)(r:RelV x v)(ty:tyV X.K T x H) :
  s.TypeIs v T∧∀ a,v=.ref a->∃ ob,s.heap.get? a=some ob∧ob.dict=none:=by
 cases x with
 | str z =>
  obtain ⟨t,rfl⟩:=r
  cases (show T="str" from ty)
  exact ⟨typeIs_str s z t,fun _ e=>nomatch e⟩
 | int i =>
  obtain ⟨t,rfl⟩:=r
  cases (show T="int" from ty)
  exact ⟨typeIs_int s i t,fun _ e=>nomatch e⟩
 | ref p =>
  cases r
  rcases ty with ⟨rfl,xs,hq⟩ | ⟨rfl,o,hk,hc,hd⟩ | ⟨rfl,hk⟩ | ⟨rfl,S,n,hk⟩
  ·obtain ⟨its,_,pl,_⟩:=I.list hq
   refine ⟨pl.isList.typeIs,fun a e=>?_⟩
   cases e
   obtain ⟨o,n,e,c,hd,_⟩:=pl
   exact ⟨o,e,hd⟩
  ·refine ⟨⟨o,I.kIn p o hk,hc⟩,fun a e=>?_⟩
   cases e
   exact ⟨o,I.kIn _ o hk,hd⟩
  ·have z:∃ o,s.heap.get? p=some o∧o.ExactDict:=by
    rcases hk with ⟨kvs,hk⟩ | ⟨kvs,hk⟩
    ·obtain ⟨_,_,_,_,o,_,_,e,ex,_⟩:=I.hok p _ hk
     exact ⟨o,e,ex⟩
    ·obtain ⟨_,_,_,_,o,_,_,e,ex,_⟩:=I.hok p _ hk
     exact ⟨o,e,ex⟩
   obtain ⟨o,e,ex⟩:=z
   refine ⟨⟨o,e,ex.1⟩,fun a e2=>?_⟩
   cases e2
   exact ⟨o,e,ex.2.1⟩
  ·obtain ⟨o,_,_,_,e,ex,_⟩:=I.hok p _ hk
   refine ⟨⟨o,e,ex.1⟩,fun a e2=>?_⟩
   cases e2
   exact ⟨o,e,ex.2.1⟩
 | _=>exact False.elim ty
def tBM(K:PySem.W.Frag)(T:String)(r:V->List V->Hp->VK->Prop)(to:TE)(t:TA):TE:=fun σ H Q=>to σ H fun x H1=>tyV K T x H1∧t σ H1 fun xs H2=>r x xs H2 Q
variable {o e:Expr} {es:List Expr} {to:TE} {t:TA} {name:Str} {apos cpos:Pos} {T id:String} {r:V->List V->Hp->VK->Prop}
theorem pe_bm(pa:PlainAttrs T)(slot:Slot T name id)(hty:typeOf (.builtin id)=pure (.type "method_descriptor"))(hm:MtR X id r)(ho:PE X o to)(ha:PA X (e::es) t)
  (hbase:attributeBase o name X.env (eval o X.env)=eval o X.env:=by rfl)
  (hfew:((backTo cpos (starEach (e::es) X.env)).all (fun x=>!x.1)&&(backToKw cpos (keywordEach [] X.env)).all (fun x=>x.1.isSome)
   && decide ((e::es).length+([]:List Keyword).length+(if ([]:List Keyword).isEmpty then 0 else 1) < 30))=true:=by rfl)
  (hline:(apos.endLine==cpos.line)=true:=by rfl) (hs:starEach (e::es) X.env=(false,eval e X.env)::starEach es X.env:=by rfl) (hplain:(backTo cpos (starEach es X.env)).any (·.1)=false:=by rfl) :
  PE X (.Call (.Attribute o name apos) (e::es) [] cpos) (tBM X.K T r to t):=by
 intro pins s σ H Q I h
 refine wpAny_Call_method_late hbase hfew hline rfl (thn (ho pins s σ H _ I h) fun v s1 ⟨x,H1,I1,r1,ty,q1⟩=>?_)
 obtain ⟨h1,h2⟩:=tyV_is I1 r1 ty
 refine ⟨T,id,pa,slot,hty,h1,h2,?_⟩
 have hA:=ha cpos pins s1 σ H1 _ I1 q1
 rw [hs] at hA ⊢
 refine Calls.callWith_builtin (by show (false||(backTo cpos (starEach es X.env)).any (·.1))=false; rw [hplain]<;>rfl) (Calls.evalArgs_plain ?_)
 exact thn hA fun us s2 ⟨vs,H2,I2,r2,q2⟩=>hm pins s2 σ H2 x vs v us Q I2 r1 r2 q2
/- xs.append(e),list.index on a module's tuple .. are MtR facts of 06m -/
end
end L2
namespace L2
open PySem PySem.Spec PyProof.Rows
def MtM(X:Cx)(id:String)(r:V->List V->Hp->VK->Prop):Prop :=
 ∀ (pins:List (Addr×Obj)) (s:Shared) (σ:St) (H:Hp) (x:V) (xs:List V) (v:Value) (us:List Value) (Q:VK),Inv X pins σ H s->RelV x v->Vals xs us->r x xs H Q ->
  wpAny (model X.prog X.w) X.A (call (.builtin id) (v::us)) (EP X pins σ Q) X.xe s
theorem Vals.one:∀ {x:V} {us:List Value},Vals [x] us->∃ u,us=[u]∧RelV x u
 | _,_,.cons r .nil=>⟨_,rfl,r⟩
section
variable {X:Cx} {pins:List (Addr×Obj)} {σ:St} {H:Hp} {s:Shared} {l b:Addr} {xs ys zs:List V}
theorem Inv.lset{its its':List Value}{n:Nat}{f:Array Value->Array Value}{t':Nat}(I:Inv X pins σ H s)(hH:H l=some (.lst xs))
  (e:s.heap.get? l=some { cls:=.type "list",data:=.seq its.toArray n }) (hf:f its.toArray=its'.toArray) (hv:Vals ys its') (hz:ys.length≤sizeLine) :
  Inv X pins σ (upd H l (.lst ys)) { s with heap:=s.heap.update l (Obj.mapSeq f),toks:=t' }:=by
 have q:=PySem.IsL.update e f
 rw [hf] at q
 refine I.write (x:=l) (e:=l) (by rw [hH]; exact trivial) (.inl rfl) (fun b' u hb hu=>(Heap.get?_update_other s.heap (Obj.mapSeq f) (Ne.symm hb)).trans hu) ⟨_,q⟩ ?_
 exact ⟨hz,its',_,hv,q⟩
theorem Inv.lnew{its:List Value}{t':Nat}(I:Inv X pins σ H s)(hv:Vals ys its)(hz:ys.length≤sizeLine) :
  Inv X pins σ (upd H s.heap.objs.size (.lst ys)) { s with heap:=s.heap.push { cls:=.type "list",data:=.seq its.toArray },toks:=t' } :=
 I.laid (fun _ _ q=>Heap.get?_push_of_some _ q) (Nat.le_refl _) ⟨hz,its,0,hv,Heap.get?_push_size _ rfl⟩
theorem Inv.fresh(I:Inv X pins σ H s):H s.heap.objs.size=none:=I.hok.fresh (Nat.le_refl _)
theorem Inv.lstM(I:Inv X pins σ H s)(hH:H l=some (.lst xs)):xs.length≤sizeLine∧∃ (its:List Value) (n:Nat),Vals xs its∧xs.length=its.length∧s.heap.get? l=some { cls:=.type "list",data:=.seq its.toArray n }:=by
 obtain ⟨z,its,n,r,e⟩:=I.hok l _ hH
 exact ⟨z,its,n,r,r.length,e⟩
theorem notLongL{n:Nat}(h:n≤sizeLine):Builtin.List.listTooLong n=false:=by
 unfold Builtin.List.listTooLong
 exact decide_eq_false (by omega)
end
section
variable {X:Cx}
def rAppend:V->List V->Hp->VK->Prop:=fun x vs H Q=>∃ l xs y,x=.ref l∧vs=[y]∧H l=some (.lst xs)∧xs.length < sizeLine∧Q .non (upd H l (.lst (xs++[y])))
theorem mt_append:MtM X "list.append" rAppend:=by
 intro pins s σ H x vs v us Q I rx rv h
 obtain ⟨l,xs,y,rfl,rfl,hH,hz,q⟩:=h
 cases rx
 obtain ⟨u,rfl,ru⟩:=rv.one
 obtain ⟨z,its,n,r,hl,e⟩:=I.lstM hH
 refine call_meets F.slot_list_append ⟨_,e,rfl⟩ F.entry_list_append (F.args_list_append_2 _ _) (PySem.list_append l its.toArray n u (by rw [List.size_toArray]; omega)) ⟨e,?_⟩
 refine ⟨.non,_,I.lset (its':=its++[u]) hH e (by simp) (r.append (.cons ru .nil)) ?_,rfl,q⟩
 rw [List.length_append,List.length_singleton]
 omega
def rExtend:V->List V->Hp->VK->Prop:=fun x vs H Q=>∃ l b xs zs,x=.ref l∧vs=[.ref b]∧H l=some (.lst xs)∧H b=some (.lst zs)∧xs.length+zs.length≤sizeLine∧Q .non (upd H l (.lst (xs++zs)))
theorem mt_extend:MtM X "list.extend" rExtend:=by
 intro pins s σ H x vs v us Q I rx rv h
 obtain ⟨l,b,xs,zs,rfl,rfl,hH,hB,hz,q⟩:=h
 cases rx
 obtain ⟨u,rfl,ru⟩:=rv.one
 cases ru
 obtain ⟨z,its,n,r,hl,e⟩:=I.lstM hH
 obtain ⟨z2,its2,n2,r2,hl2,e2⟩:=I.lstM hB
 have hsz:its.toArray.size+its2.toArray.size≤sizeLine:=by rw [List.size_toArray,List.size_toArray]; omega
 have hlong:¬ (!its.toArray.isEmpty&&Builtin.List.listTooLong (its.toArray.size+its2.toArray.size))=true:=by
  rw [notLongL hsz,Bool.and_false]
  exact Bool.false_ne_true
 refine call_meets F.slot_list_extend ⟨_,e,rfl⟩ F.entry_list_extend (F.args_list_extend_2 _ _)
  (AutoSeq1.list_extend_list_list_0 l its.toArray n b its2.toArray n2 hlong (by rw [List.size_toArray]; omega) (by omega)) ⟨e,e2,?_⟩
 refine ⟨.non,_,I.lset (its':=its++its2) hH e (by simp) (r.append r2) ?_,rfl,q⟩
 rw [List.length_append]
 omega
def rCat:R2:=fun x y H Q=>∃ l b xs zs,x=.ref l∧y=.ref b∧H l=some (.lst xs)∧H b=some (.lst zs)∧xs.length+zs.length≤sizeLine∧∀ p,H p=none->Q (.ref p) (upd H p (.lst (xs++zs)))
theorem op_cat:OpR X (binaryOp .Add) rCat:=by
 intro pins s σ H x y v u Q I rx ry h
 obtain ⟨l,b,xs,zs,rfl,rfl,hH,hB,hz,q⟩:=h
 cases rx
 cases ry
 obtain ⟨z,its,n,r,hl,e⟩:=I.lstM hH
 obtain ⟨z2,its2,n2,r2,hl2,e2⟩:=I.lstM hB
 refine PySem.P.add_list e e2 ?_ (by rw [List.size_toArray,List.size_toArray]; omega)
 have ea:its.toArray++its2.toArray=(its++its2).toArray:=by simp
 rw [ea]
 exact ⟨.ref _,_,I.lnew (t':=s.toks) (r.append r2) (by rw [List.length_append]; omega),rfl,q _ I.fresh⟩
end
end L2
namespace L2
open PySem PySem.Spec PyProof.Rows
theorem Vals.ints:∀ {ns:List Int} {us:List Value},Vals (ns.map V.int) us->IntsAre us ns
 | [],us,h=>by
  rw [List.map_nil] at h
  cases h
  exact IntsAre.nil
 | n::ns,us,h=>by
  rw [List.map_cons] at h
  cases h with
  | cons r t =>
   obtain ⟨k,rfl⟩:=r
   exact IntsAre.cons n k (Vals.ints t)
theorem vals_of_ints:∀ {us:List Value} {ns:List Int},IntsAre us ns->Vals (ns.map V.int) us
 | _,_,.nil=>by rw [List.map_nil]; exact Paired.nil
 | _,_,.cons n t h=>by rw [List.map_cons]; exact Paired.cons (show RelV (V.int n) (Value.int n t) from ⟨t,rfl⟩) (vals_of_ints h)
theorem Vals.bls:∀ {bs:List Bool} {us:List Value},Vals (bs.map V.bl) us->us=bs.map Value.bool
 | [],us,h=>by
  rw [List.map_nil] at h
  cases h
  rfl
 | b::bs,us,h=>by
  rw [List.map_cons] at h
  cases h with
  | cons r t =>
   cases r
   rw [Vals.bls t,List.map_cons]
theorem Vals.ref1{a:Addr}{us:List Value}(r:Vals [V.ref a] us):us=[Value.ref a]:=by
 cases r with
 | cons r t =>
  cases t
  cases r
  rfl
section
variable {prog:Program} {w:World} {A:Around} {E:Value->Shared->Prop} {s:Shared} {l:Addr} {its:List Value} {ns:List Int} {Q:Value->Shared->Prop}
theorem sum_raw(hh:A.handled=none)(hl:s.heap.IsList l its.toArray)(hi:IntsAre its ns)
  (h:∀ h' tk t',(∀ b o,s.heap.get? b=some o->h'.get? b=some o)->Q (.int ns.sum t') { s with heap:=h',toks:=tk }):wpAny (model prog w) A (call (.builtin "sum") [.ref l]) Q E s:=by
 obtain ⟨xs,e⟩:=hi.allInts.items
 have hn:numsOf (intItems xs).toList=ns:=by rw [←e]; exact hi.numsOf
 rw [nums_intItems] at hn
 rw [e] at hl
 refine PySem.sum_intListG hh hl fun h' tk t' hk=>?_
 have:=h h' tk t' hk
 rw [preSum_eq,List.take_of_length_le (by simp),hn]; exact this
end
section
variable {X:Cx}
def rSum(K:PySem.W.Frag):List V->Hp->VK->Prop:=fun vs H Q=>∃ (a:Addr) (ns:List Int),vs=[V.ref a]∧SqL K H a (ns.map V.int)∧Q (.int ns.sum) H
theorem cr_sum(hc:X.calm=true):CallR X (.builtin "sum") (rSum X.K):=by
 intro pins s σ H vs us Q I r h
 obtain ⟨a,ns,rfl,hs,q⟩:=h
 obtain ⟨its,rv,hl,_⟩:=I.list hs
 rw [Vals.ref1 r]
 exact sum_raw (I.ok.hd hc) hl.isList rv.ints fun h' tk t' hk=>⟨.int _,H,I.kept hk,⟨_,rfl⟩,q⟩
theorem small64{n:Nat}(h:n < 64):n≤sizeLine:=by rw [sizeLine_eq]; omega
end
theorem iter_any{prog:Program}{w:World}{A:Around}{E:Value->Shared->Prop}{s:Shared}{l:Addr}{items:Array Value}{Q:Value->Shared->Prop}(hl:s.heap.IsList l items)
  (h:∀ s₂:Shared,s₂={ s with heap:=s.heap.push { cls:=.type "list_iterator",data:=.fields #[.ref l,.int 0 0] } } ->
   (s₂.heap.IsListIter s.heap.objs.size l 0∧s₂.heap.IsList l items)->l≠s.heap.objs.size->Q (.ref s.heap.objs.size) s₂):wpAny (model prog w) A (pyIter (.ref l)) Q E s:=by
 have hlt:l < s.heap.objs.size:=by obtain ⟨_,e,_⟩:=hl; exact Heap.lt_size e
 exact wpAny_pyIter_list hl (h _ rfl ⟨⟨_,Heap.get?_push_size _ rfl,rfl,rfl⟩,hl.push _⟩ (Nat.ne_of_lt hlt))
theorem truth_bools{prog:Program}{w:World}{A:Around}{bs:List Bool}{its:List Value}(e:its=bs.map Value.bool) :
  TruthOf prog w A (fun i v=>its.toArray[i]?=some v) (fun i=>bs.getD i false):=fun i v s Q E hv hq=>by
 have hv':its[i]?=some v:=by simpa using hv
 rw [e,List.getElem?_map] at hv'
 obtain ⟨b,hb,rfl⟩:=Option.map_eq_some_iff.mp hv'
 have hg:bs.getD i false=b:=by rw [List.getD_eq_getElem?_getD,hb]<;>rfl
 have hq':Q (bs.getD i false) s:=hq
 rw [hg] at hq'
 exact wpAny_truthy_bool hq'
theorem any_range:∀ bs:List Bool,(List.range bs.length).any (fun i=>bs.getD i false)=bs.any id
 | []=>rfl
 | b::bs=>by
  rw [List.length_cons,List.range_succ_eq_map,List.any_cons,List.any_map,List.any_cons,←any_range bs]
  all_goals rfl
theorem all_range:∀ bs:List Bool,(List.range bs.length).all (fun i=>bs.getD i false)=bs.all id
 | []=>rfl
 | b::bs=>by
  rw [List.length_cons,List.range_succ_eq_map,List.all_cons,List.all_map,List.all_cons,←all_range bs]
  all_goals rfl
section
variable {X:Cx}
def rAll(K:PySem.W.Frag):List V->Hp->VK->Prop:=fun vs H Q=>∃ (a:Addr) (bs:List Bool),vs=[V.ref a]∧SqL K H a (bs.map V.bl)∧Q (.bl (bs.all id)) H
theorem cr_all(hc:X.calm=true):CallR X (.builtin "all") (rAll X.K):=by
 intro pins s σ H vs us Q I r h
 obtain ⟨a,bs,rfl,hs,q⟩:=h
 obtain ⟨its,rv,hl,_⟩:=I.list hs
 rw [Vals.ref1 r]
 have hb:=rv.bls
 refine call_all_walk (iter_any hl.isList fun s₂ e2 st hne=>?_)
 subst e2
 refine ⟨_,_,_,_,_,_,_,rfl,Walks.list (A:=X.A.in1) (I.ok.hd hc) _ a hne its.toArray,st,truth_bools hb,fun h' tk hk=>?_⟩
 refine ⟨.bl _,H,I.kept fun b o eo=>hk b o (fun hmem=>?_) (Heap.get?_push_of_some _ eo),?_,q⟩
 ·rcases List.mem_cons.mp hmem with e1 | hmem
  ·exact absurd (e1▸Heap.lt_size eo) (Nat.lt_irrefl _)
  ·cases hmem
 ·show Value.bool _=Value.bool _
  rw [←all_range,hb,List.size_toArray,List.length_map]
end
mutual
inductive Dp(K:PySem.W.Frag)(H:Hp):V->PyData->Prop
 | non:Dp K H .non .none
 | bl (b:Bool):Dp K H (.bl b) (.bool b)
 | int (i:Int):Dp K H (.int i) (.int i)
 | str (x:Str):Dp K H (.str x) (.str x)
 | lst {a:Addr} {xs:List V} {ds:List PyData}:SqL K H a xs->DpAll K H xs ds->Dp K H (.ref a) (.list ds)
 | tup {a:Addr} {xs:List V} {ds:List PyData}:SqT K H a xs->DpAll K H xs ds->Dp K H (.ref a) (.tuple ds)
inductive DpAll(K:PySem.W.Frag)(H:Hp):List V->List PyData->Prop
 | nil:DpAll K H [] []
 | cons {v:V} {vs:List V} {d:PyData} {ds:List PyData}:Dp K H v d->DpAll K H vs ds->DpAll K H (v::vs) (d::ds)
end
section
variable {X:Cx} {pins:List (Addr×Obj)} {σ:St} {H:Hp} {s:Shared}
mutual
theorem Dp.reads(I:Inv X pins σ H s):∀ (d:PyData) (v:V) (u:Value),Dp X.K H v d->RelV v u->∃ as,Reads s.heap u d as
 | .none,_,_,h,r=>by
  cases h
  cases r
  exact ⟨_,Reads.none⟩
 | .bool b,_,_,h,r=>by
  cases h
  cases r
  exact ⟨_,Reads.bool b⟩
 | .int i,_,_,h,r=>by
  cases h
  obtain ⟨t,rfl⟩:=r
  exact ⟨_,Reads.int i t⟩
 | .str x,_,_,h,r=>by
  cases h
  obtain ⟨t,rfl⟩:=r
  exact ⟨_,Reads.str x t⟩
 | .list ds,_,_,h,r=>by
  cases h with
  | lst hs ha =>
   cases r
   obtain ⟨its,rv,⟨o,n,ho,hc,_,hd⟩,_⟩:=I.list hs
   obtain ⟨as,hr⟩:=Dp.readsAll I ds _ its ha rv
   exact ⟨_,Reads.list ho hc hd hr⟩
 | .tuple ds,_,_,h,r=>by
  cases h with
  | tup hs ha =>
   cases r
   obtain ⟨its,rv,⟨o,ho,hc,n,hd⟩,_⟩:=I.tuple hs
   obtain ⟨as,hr⟩:=Dp.readsAll I ds _ its ha rv
   exact ⟨_,Reads.tuple ho hc hd hr⟩
 | .dict _,_,_,h,_=>by cases h
theorem Dp.readsAll(I:Inv X pins σ H s):∀ (ds:List PyData) (vs:List V) (us:List Value),DpAll X.K H vs ds->Vals vs us->∃ as,ReadsAll s.heap us ds as
 | [],_,_,h,r=>by
  cases h
  cases r
  exact ⟨_,ReadsAll.nil⟩
 | d::ds,_,_,h,r=>by
  cases h with
  | cons h1 h2 =>
   cases r with
   | cons r1 r2 =>
    obtain ⟨as,q1⟩:=Dp.reads I d _ _ h1 r1
    obtain ⟨bs,q2⟩:=Dp.readsAll I ds _ _ h2 r2
    exact ⟨_,ReadsAll.cons q1 q2⟩
end
end
section
variable {X:Cx}
def rEqD(K:PySem.W.Frag):R2:=fun x y H Q=>∃ d e,Dp K H x d∧Dp K H y e∧SeqAt.shaped d=true∧SeqAt.shaped e=true∧Q (.bl (PyData.eqv d e)) H
def rNeD(K:PySem.W.Frag):R2:=fun x y H Q=>∃ d e,Dp K H x d∧Dp K H y e∧SeqAt.shaped d=true∧SeqAt.shaped e=true∧Q (.bl (!PyData.eqv d e)) H
theorem op_eqD(hu:X.A.units+64 < cLine):OpR X (compareOp .Eq) (rEqD X.K):=by
 intro pins s σ H x y v u Q I rx ry h
 obtain ⟨d,e,hd,he,sd,se,q⟩:=h
 obtain ⟨as,r1⟩:=Dp.reads I d x v hd rx
 obtain ⟨bs,r2⟩:=Dp.reads I e y u he ry
 exact SeqAt.compareEq_shaped r1 r2 sd se hu ⟨.bl _,H,I,rfl,q⟩
theorem op_neD(hu:X.A.units+64 < cLine):OpR X (compareOp .NotEq) (rNeD X.K):=by
 intro pins s σ H x y v u Q I rx ry h
 obtain ⟨d,e,hd,he,sd,se,q⟩:=h
 obtain ⟨as,r1⟩:=Dp.reads I d x v hd rx
 obtain ⟨bs,r2⟩:=Dp.reads I e y u he ry
 exact SeqAt.compareNe_shaped r1 r2 sd se hu ⟨.bl _,H,I,rfl,q⟩
end
end L2
namespace L2
open PySem PySem.Spec PyProof.Rows
abbrev CellAt(h:Heap)(c:Addr)(v:Option Value):Prop:=h.IsCell c v
def relS(scope sc:Scope):Scope :=
 { scope with names:=scope.names.map fun (n,k)=>if (k==.free&&sc.kind==.function&&sc.names.lookup n==some .cell) then (n,.cell) else (n,k) }
def cloFrom(cells:List (Str×Addr)):List (Str×NameKind)->List (Str×Addr)->List (Str×Addr)
 | [],acc=>acc
 | (n,k)::r,acc=>if k==.free then cloFrom cells r ((n,(cells.lookup n).getD 0)::acc) else cloFrom cells r acc
theorem closure_loop(env:Env)(f:Str×NameKind->List (Str×Addr)->Sem (ForInStep (List (Str×Addr))))
  (hf:∀ n k c,f (n,k) c=if k==.free then (do let a←cellOf env n; pure (.yield ((n,a)::c))) else pure (.yield c)) :
  ∀ (names:List (Str×NameKind)) (acc:List (Str×Addr)),(∀ y∈names,y.2=.free->∃ c,env.cells.lookup y.1=some c)->forIn names acc f=pure (cloFrom env.cells names acc)
 | [],acc,_=>by rw [List.forIn_nil]; rfl
 | (n,k)::r,acc,h=>by
  rw [List.forIn_cons,hf]
  have ih:=fun acc=>closure_loop env f hf r acc fun y hy=>h y (List.mem_cons_of_mem _ hy)
  unfold cloFrom
  by_cases hk:(k==NameKind.free)=true
  ·rw [if_pos hk,if_pos hk]
   obtain ⟨c,hc⟩:=h (n,k) List.mem_cons_self (by simpa using hk)
   have e:cellOf env n=pure c:=by unfold cellOf; rw [hc]
   rw [e]
   have e2:(env.cells.lookup n).getD 0=c:=by rw [hc]; rfl
   rw [e2]
   exact ih _
  ·rw [if_neg hk,if_neg hk]
   exact ih _
theorem closure_ok{scope:Scope}{env:Env}(h:∀ y∈scope.names,y.2=.free->∃ c,env.cells.lookup y.1=some c):closureFor scope env=pure (cloFrom env.cells scope.names []):=by
 simp only [closureFor]
 rw [closure_loop env _ (fun n k c=>rfl) scope.names [] h]
 rfl
theorem mem_lookup{α:Type}:∀ {l:List (Str×α)} {n:Str} {c:α},(n,c)∈l->∃ c',l.lookup n=some c'
 | (k,v)::r,n,c,h=>by
  rw [List.lookup_cons]
  cases hb:n==k with
  | true=>exact ⟨_,rfl⟩
  | false =>
   rcases List.mem_cons.mp h with e | h
   ·cases e; simp at hb
   ·exact mem_lookup h
theorem cloFrom_mem{cells:List (Str×Addr)}:∀ {names:List (Str×NameKind)} {acc:List (Str×Addr)} {n:Str} {c:Addr},(n,c)∈cloFrom cells names acc->(n,c)∈acc∨((n,.free)∈names∧c=(cells.lookup n).getD 0)
 | [],_,_,_,h=>.inl h
 | (m,k)::r,acc,n,c,h=>by
  unfold cloFrom at h
  split at h
  ·rename_i hk
   have hk:k=.free:=by simpa using hk
   rcases cloFrom_mem h with h | ⟨h1,h2⟩
   ·rcases List.mem_cons.mp h with e | h
    ·cases e; exact .inr ⟨hk▸List.mem_cons_self,rfl⟩
    ·exact .inl h
   ·exact .inr ⟨List.mem_cons_of_mem _ h1,h2⟩
  ·rcases cloFrom_mem h with h | ⟨h1,h2⟩
   ·exact .inl h
   ·exact .inr ⟨List.mem_cons_of_mem _ h1,h2⟩
theorem cloFrom_acc{cells:List (Str×Addr)}:∀ {names:List (Str×NameKind)} {acc:List (Str×Addr)} {p:Str×Addr},p∈acc->p∈cloFrom cells names acc
 | [],_,_,h=>h
 | (m,k)::r,acc,p,h=>by
  unfold cloFrom
  split
  ·exact cloFrom_acc (List.mem_cons_of_mem _ h)
  ·exact cloFrom_acc h
theorem cloFrom_has{cells:List (Str×Addr)}:∀ {names:List (Str×NameKind)} {acc:List (Str×Addr)} {n:Str},(n,.free)∈names->(n,(cells.lookup n).getD 0)∈cloFrom cells names acc
 | (m,k)::r,acc,n,h=>by
  unfold cloFrom
  rcases List.mem_cons.mp h with e | h
  ·cases e
   exact cloFrom_acc List.mem_cons_self
  ·split
   ·exact cloFrom_has h
   ·exact cloFrom_has h
theorem cells_mem:∀ {names:List (Str×NameKind)} {h:Heap} {acc:List (Str×Addr)} {x:Str} {c:Addr},(x,c)∈cellsFrom h.objs.size names acc ->
  (x,c)∈acc∨((x,.cell)∈names∧h.objs.size≤c∧CellAt (pushCells h names) c none)
 | [],_,_,_,_,h=>.inl h
 | (n,k)::r,h,acc,x,c,hm=>by
  unfold cellsFrom at hm
  unfold pushCells
  split at hm
  ·rename_i hk
   rw [if_pos hk]
   have hk:k=.cell:=by simpa using hk
   rw [←Heap.size_push h { cls:=.type "cell",data:=.cell none }] at hm
   rcases cells_mem hm with hm | ⟨h1,h2,h3⟩
   ·rcases List.mem_cons.mp hm with e | hm
    ·cases e
     exact .inr ⟨hk▸List.mem_cons_self,Nat.le_refl _,_,pushCells_keeps r _ _ _ (Heap.get?_push_size _ rfl),rfl⟩
    ·exact .inl hm
   ·rw [Heap.size_push] at h2
    exact .inr ⟨List.mem_cons_of_mem _ h1,Nat.le_of_succ_le h2,h3⟩
  ·rename_i hk
   rw [if_neg hk]
   rcases cells_mem hm with hm | ⟨h1,h2,h3⟩
   ·exact .inl hm
   ·exact .inr ⟨List.mem_cons_of_mem _ h1,h2,h3⟩
theorem cells_acc:∀ {names:List (Str×NameKind)} {n:Nat} {acc:List (Str×Addr)} {p:Str×Addr},p∈acc->p∈cellsFrom n names acc
 | [],_,_,_,h=>h
 | (m,k)::r,n,acc,p,h=>by
  unfold cellsFrom
  split
  ·exact cells_acc (List.mem_cons_of_mem _ h)
  ·exact cells_acc h
theorem cells_has:∀ {names:List (Str×NameKind)} {n:Nat} {acc:List (Str×Addr)} {x:Str},(x,.cell)∈names->∃ c,(x,c)∈cellsFrom n names acc
 | (m,k)::r,n,acc,x,h=>by
  unfold cellsFrom
  rcases List.mem_cons.mp h with e | h
  ·cases e
   exact ⟨n,cells_acc List.mem_cons_self⟩
  ·split
   ·exact cells_has h
   ·exact cells_has h
theorem cells_inj:∀ {names:List (Str×NameKind)} {h:Heap} {acc:List (Str×Addr)} {x y:Str} {c:Addr},(∀ p∈acc,p.2 < h.objs.size)->(∀ x y c,(x,c)∈acc->(y,c)∈acc->x=y) ->
  (x,c)∈cellsFrom h.objs.size names acc->(y,c)∈cellsFrom h.objs.size names acc->x=y
 | [],_,_,_,_,_,_,hi,h1,h2=>hi _ _ _ h1 h2
 | (n,k)::r,h,acc,x,y,c,hl,hi,h1,h2=>by
  unfold cellsFrom at h1 h2
  split at h1
  ·rename_i hk
   rw [if_pos hk] at h2
   rw [←Heap.size_push h { cls:=.type "cell",data:=.cell none }] at h1 h2
   refine cells_inj (h:=h.push _) (fun p hp=>?_) (fun x y c a b=>?_) h1 h2
   ·rw [Heap.size_push]
    rcases List.mem_cons.mp hp with rfl | hp
    ·exact Nat.lt_succ_self _
    ·exact Nat.lt_succ_of_lt (hl p hp)
   ·rcases List.mem_cons.mp a with e | a<;>rcases List.mem_cons.mp b with e' | b
    ·cases e; cases e'; rfl
    ·cases e; exact absurd (hl _ b) (Nat.lt_irrefl _)
    ·cases e'; exact absurd (hl _ a) (Nat.lt_irrefl _)
    ·exact hi _ _ _ a b
  ·rename_i hk
   rw [if_neg hk] at h2
   exact cells_inj hl hi h1 h2
theorem newEnv_comp{M:Model}{A:Around}{E:Value->Shared->Prop}{s:Shared}{scope:Scope}{globals:Addr}{closure:List (Str×Addr)}{qual:Str}{func:Option Addr}{code:Value}{around:Env}{builtins:Addr}{Q:Env->Shared->Prop}
  (h:Q (newEnv scope s.heap.objs.size globals (cellsFrom (s.heap.objs.size+1) scope.names closure) qual func code (some around) builtins)
   { s with heap:=pushCells (s.heap.push { cls:=.type "dict",data:=.dict #[] }) scope.names }) :
  wpAny M A (newFunctionEnv scope globals closure [] qual func code (some around) builtins) Q E s:=by
 simp only [newFunctionEnv,Option.isSome_some,if_true]
 refine wpAny_bind (wpAny_alloc ?_)
 refine wpAny_bind (wpAny_layCells _ (fun n k c=>rfl) scope.names closure _ _ ?_)
 rw [show ({ s with heap:=s.heap.push { cls:=.type "dict",data:=.dict #[] } }:Shared).heap.objs.size=s.heap.objs.size+1 from Heap.size_push ..]
 rw [List.forIn_nil]
 exact wpAny_bind (wpAny_pure (wpAny_pure h))
theorem lookup_relS{sc:Scope}:∀ {names:List (Str×NameKind)} {x:Str} {k:NameKind},
  (names.map fun (n,k)=>if (k==NameKind.free&&sc.kind==.function&&sc.names.lookup n==some .cell) then (n,NameKind.cell) else (n,k)).lookup x=some k ->
  ∃ k',names.lookup x=some k'∧(k=k'∨(k'=.free∧k=.cell))
 | [],_,_,h=>by simp at h
 | (n,k₀)::r,x,k,h=>by
  have ih:=@lookup_relS sc r x k
  have h':List.lookup x ((if (k₀==NameKind.free&&sc.kind==.function&&sc.names.lookup n==some .cell)=true then (n,NameKind.cell) else (n,k₀))::(r.map _))=some k:=h
  cases hx:x==n with
  | true =>
   simp only [List.lookup_cons,hx]
   by_cases hc:(k₀==NameKind.free&&sc.kind==.function&&sc.names.lookup n==some .cell)=true
   ·rw [if_pos hc] at h'
    simp only [List.lookup_cons,hx] at h'
    cases h'
    simp only [Bool.and_eq_true,beq_iff_eq] at hc
    exact ⟨k₀,rfl,.inr ⟨hc.1.1,rfl⟩⟩
   ·rw [if_neg hc] at h'
    simp only [List.lookup_cons,hx] at h'
    cases h'
    exact ⟨_,rfl,.inl rfl⟩
  | false =>
   simp only [List.lookup_cons,hx]
   by_cases hc:(k₀==NameKind.free&&sc.kind==.function&&sc.names.lookup n==some .cell)=true
   ·rw [if_pos hc] at h'
    simp only [List.lookup_cons,hx] at h'
    exact ih h'
   ·rw [if_neg hc] at h'
    simp only [List.lookup_cons,hx] at h'
    exact ih h'
structure BlkOk(N:List Str)(sc scope:Scope)(own:List (Str×Nat)):Prop where
 kind:scope.kind=.function
 uniq:∀ y∈scope.names,scope.names.lookup y.1=some y.2
 ix:∀ p∈own,N[p.2]?=some p.1
 free:∀ y∈scope.names,y.2=.free->sc.names.lookup y.1=some .cell∨sc.names.lookup y.1=some .free
 own:∀ y∈scope.names,y.2=.local∨y.2=.cell->y.1∈own.map (·.1)∨y.1∉N
def wipe(σ:St):List Nat->St
 | []=>σ
 | v::vs=>(wipe σ vs).set v none
theorem wipe_length(σ:St):∀ vs:List Nat,(wipe σ vs).length=σ.length
 | []=>rfl
 | v::vs=>by unfold wipe; rw [List.length_set,wipe_length σ vs]
theorem wipe_some{σ:St}{i:Nat}{x:V}:∀ {vs:List Nat},(wipe σ vs)[i]?=some (some x)->σ[i]?=some (some x)∧i∉vs
 | [],h=>⟨h,by simp⟩
 | v::vs,h=>by
  unfold wipe at h
  by_cases hi:v=i
  ·subst hi
   by_cases hv:v < (wipe σ vs).length
   ·rw [List.getElem?_set_self hv] at h; cases h
   ·rw [List.getElem?_eq_none (by simpa using hv)] at h; cases h
  ·rw [List.getElem?_set_ne hi] at h
   obtain ⟨h1,h2⟩:=wipe_some h
   exact ⟨h1,by simp only [List.mem_cons,not_or]; exact ⟨fun e=>hi e.symm,h2⟩⟩
abbrev Cx.blk(X:Cx)(s:Shared)(H:Hp)(scope:Scope)(cenv:Env)(fp:List Addr):Cx:={ X with s_0:=s,H_0:=H,env:=cenv,outer:=X.stack,ex:=fp,fn:=fun x=>scope.names.lookup x==some .cell,pn:=[],xe:=fun _ _=>False }
section
variable {X:Cx} {pins:List (Addr×Obj)} {σ:St} {H:Hp} {s:Shared}
theorem block_start{scope:Scope}{own:List (Str×Nat)}{fp:List Addr}(I:Inv X pins σ H s)(ok:BlkOk X.N X.env.scope scope own)(hN:X.N.Nodup)(hfp:∀ b∈fp,FpOk X pins H b∧b < s.heap.objs.size) :
  Inv (X.blk s H scope (compEnvC scope (cellsFrom (s.heap.objs.size+1) scope.names (cloFrom X.env.cells scope.names [])) s.heap.objs.size X.env) fp) [] (wipe σ (own.map (·.2))) H { s with heap:=pushCells (s.heap.push { cls:=.type "dict",data:=.dict #[] }) scope.names }:=by
 have hfree:∀ y∈scope.names,y.2=.free->∃ c,X.env.cells.lookup y.1=some c:=fun y hy e=>by
  rcases ok.free y hy e with k | k
  ·exact I.ok.has _ (.inl k)
  ·exact I.ok.has _ (.inr k)
 generalize hcenv:compEnvC scope (cellsFrom (s.heap.objs.size+1) scope.names (cloFrom X.env.cells scope.names [])) s.heap.objs.size X.env=cenv
 have kp:∀ b o,s.heap.get? b=some o->(pushCells (s.heap.push { cls:=.type "dict",data:=.dict #[] }) scope.names).get? b=some o:=fun b o e=>pushCells_keeps _ _ _ _ (Heap.get?_push_of_some _ e)
 have hL:cenv.locals=s.heap.objs.size:=by rw [←hcenv]; rfl
 have hcl:cenv.cells=cellsFrom (s.heap.objs.size+1) scope.names (cloFrom X.env.cells scope.names []):=by rw [←hcenv]; rfl
 have hsc:cenv.scope=relS scope X.env.scope:=by rw [←hcenv]; rfl
 rw [←Heap.size_push s.heap { cls:=.type "dict",data:=.dict #[] }] at hcl
 have cm:∀ {y c},(y,c)∈cloFrom X.env.cells scope.names []->X.env.cells.lookup y=some c∧c < s.heap.objs.size:=fun {y c} hm=>by
  rcases cloFrom_mem hm with hm | ⟨h1,rfl⟩
  ·cases hm
  ·obtain ⟨c,hc⟩:=hfree _ h1 rfl
   rw [hc]
   obtain ⟨w,z⟩:=I.cell _ _ hc
   exact ⟨rfl,z.lt⟩
 have mem:∀ {y c},cenv.cells.lookup y=some c->(X.env.cells.lookup y=some c∧c < s.heap.objs.size)∨(s.heap.objs.size+1≤c∧CellAt (pushCells (s.heap.push { cls:=.type "dict",data:=.dict #[] }) scope.names) c none):=fun {y c} e=>by
  rw [hcl] at e
  rcases cells_mem (PySem.mem_of_lookup e) with hm | ⟨_,h2,h3⟩
  ·exact .inl (cm hm)
  ·rw [Heap.size_push] at h2; exact .inr ⟨h2,h3⟩
 have look:∀ {y},scope.names.lookup y=some .free->∃ c,cenv.cells.lookup y=some c∧X.env.cells.lookup y=some c:=fun {y} hl=>by
  have hy:(y,NameKind.free)∈scope.names:=PySem.mem_of_lookup hl
  obtain ⟨c',e'⟩:=mem_lookup (cells_acc (names:=scope.names) (n:=(s.heap.push { cls:=.type "dict",data:=.dict #[] }).objs.size) (cloFrom_has (cells:=X.env.cells) (acc:=[]) hy))
  rw [←hcl] at e'
  refine ⟨c',e',?_⟩
  rw [hcl] at e'
  rcases cells_mem (PySem.mem_of_lookup e') with hm | ⟨h1,_,_⟩
  ·exact (cm hm).1
  ·have:=ok.uniq _ h1
   rw [hl] at this; cases this
 have okB:(X.blk s H scope cenv fp).Ok:=by
  refine ⟨I.ok.mod,by show cenv.scope.kind=_; rw [hsc]; exact ok.kind,by show cenv.globals=_; rw [←hcenv]; exact I.ok.glob,by show cenv.builtins=_; rw [←hcenv]; exact I.ok.blt,by show s.heap.objs.size≤cenv.locals; rw [hL]; exact Nat.le_refl _,
   fun y z c e1 e2=>?_,fun y hy=>?_,fun y c z e=>?_,I.ok.hd,I.ok.frames,.inl rfl,fun b hb=>⟨?_,fun y c e z=>?_⟩,I.bs,Nat.le_trans I.ok.bsz I.sz,fun b o e hb=>?_,fun b hb z=>?_,I.stack,I.stkFree⟩
  ·have e1:cenv.cells.lookup y=some c:=e1
   have e2:cenv.cells.lookup z=some c:=e2
   rw [hcl] at e1 e2
   refine cells_inj (fun p hp=>?_) (fun y z c a b=>I.ok.inj y z c (cm a).1 (cm b).1) (PySem.mem_of_lookup e1) (PySem.mem_of_lookup e2)
   rw [Heap.size_push]
   exact Nat.lt_succ_of_lt (cm (y:=p.1) (c:=p.2) hp).2
  ·show ∃ c,cenv.cells.lookup y=some c
   have key:∀ k,cenv.kindOf y=some k->(k=.cell∨k=.free)->∃ c,cenv.cells.lookup y=some c:=fun k hk hk'=>by
    unfold Env.kindOf at hk
    rw [hsc] at hk
    obtain ⟨k',e,r⟩:=lookup_relS hk
    have:k'=.cell∨k'=.free:=by
     rcases r with rfl | ⟨rfl,_⟩
     ·exact hk'
     ·exact .inr rfl
    rcases this with rfl | rfl
    ·obtain ⟨c,hm⟩:=cells_has (n:=(s.heap.push { cls:=.type "dict",data:=.dict #[] }).objs.size) (acc:=cloFrom X.env.cells scope.names []) (PySem.mem_of_lookup e)
     obtain ⟨c',e'⟩:=mem_lookup hm
     exact ⟨c',by rw [hcl]; exact e'⟩
    ·obtain ⟨c,h1,_⟩:=look e
     exact ⟨c,h1⟩
   rcases hy with hy | hy
   ·exact key _ hy (.inl rfl)
   ·exact key _ hy (.inr rfl)
  ·have z:(scope.names.lookup y==some NameKind.cell)=true:=z
   have z:scope.names.lookup y=some .cell:=by simpa using z
   have e:cenv.cells.lookup y=some c:=e
   rw [hcl] at e
   rcases cells_mem (PySem.mem_of_lookup e) with hm | ⟨_,h2,_⟩
   ·rcases cloFrom_mem hm with hm | ⟨h1,_⟩
    ·cases hm
    ·have q:=ok.uniq _ h1
     rw [z] at q; cases q
   ·rw [Heap.size_push] at h2
    exact Nat.le_of_succ_le h2
  ·show b≠cenv.locals
   rw [hL]; exact Nat.ne_of_lt (hfp b hb).2
  ·have e:cenv.cells.lookup y=some c:=e
   rcases mem e with ⟨h1,_⟩ | ⟨h1,_⟩
   ·exact (hfp b hb).1.2.2.2.2.1 y c h1 z
   ·have h2:s.heap.objs.size+1≤b:=by rw [←z]; exact h1
    exact absurd (Nat.lt_of_lt_of_le (hfp b hb).2 (Nat.le_of_succ_le h2)) (Nat.lt_irrefl _)
  ·rcases (hfp b hb).1.2.2.2.1 with z | z
   ·exact I.ok.noex b o e z
   ·exact absurd (Nat.lt_of_lt_of_le (Heap.lt_size e) (Nat.le_trans I.ok.bsz z)) (Nat.lt_irrefl _)
  ·rcases List.mem_cons.mp (I.stkSub b z) with z | z
   ·exact (hfp b hb).1.2.1 z
   ·exact (hfp b hb).1.2.2.1 z
 refine ⟨okB,rfl,I.bare,Un.kept kp,⟨fun _=>none,?_,fun i y av e1 e2 e3=>?_⟩,fun y c e=>?_,?_,fun y c e=>?_,fun p hp=>?_,I.hok.kept kp,by rw [wipe_length]; exact I.len⟩
 ·show Heap.Ns _ cenv.locals _
  rw [hL]
  exact Heap.Ns.keeps (Heap.Ns.new ..) fun b o e=>pushCells_keeps _ _ _ _ e
 ·obtain ⟨e2,hne⟩:=wipe_some e2
  have hfr:scope.names.lookup y=some .free∧(cenv.kindOf y=some .cell∨cenv.kindOf y=some .free):=by
   have key:∀ k,cenv.scope.names.lookup y=some k->k=.local∨k=.cell∨k=.free->scope.names.lookup y=some .free∧(cenv.kindOf y=some .cell∨cenv.kindOf y=some .free):=fun k hk hk'=>by
    have hk0:=hk
    rw [hsc] at hk
    obtain ⟨k',e,r⟩:=lookup_relS hk
    have no:¬ (k'=.local∨k'=.cell):=fun hh=>by
     rcases ok.own _ (PySem.mem_of_lookup e) hh with e' | e'
     ·obtain ⟨p,hp,hpy⟩:=List.mem_map.mp e'
      have e3:=ok.ix p hp
      have:p.1=y:=hpy
      rw [this] at e3
      exact hne (List.mem_map.mpr ⟨p,hp,nodup_ix hN e3 e1⟩)
     ·exact e' (List.mem_of_getElem? e1)
    rcases r with rfl | ⟨rfl,rfl⟩
    ·rcases hk' with rfl | rfl | rfl
     ·exact absurd (.inl rfl) no
     ·exact absurd (.inr rfl) no
     ·exact ⟨e,.inr hk0⟩
    ·exact ⟨e,.inl hk0⟩
   have e3:Vis cenv.scope y:=e3
   rcases e3 with e3 | e3 | e3
   ·exact key _ e3 (.inl rfl)
   ·exact key _ e3 (.inr (.inl rfl))
   ·exact key _ e3 (.inr (.inr rfl))
  obtain ⟨m,hn,hl⟩:=I.loc
  have hvis:Vis X.env.scope y:=(ok.free _ (PySem.mem_of_lookup hfr.1) rfl).elim (fun k=>.inr (.inl k)) (fun k=>.inr (.inr k))
  obtain ⟨w,r,q⟩:=hl i y av e1 e2 hvis
  refine ⟨w,r,.inr ⟨hfr.2,?_⟩⟩
  obtain ⟨c,h1,h2⟩:=look hfr.1
  rcases q with ⟨k,_⟩ | ⟨_,c',e',z⟩
  ·have k:X.env.scope.names.lookup y=some .local:=k
   rcases ok.free _ (PySem.mem_of_lookup hfr.1) rfl with k' | k'<;>rw [show X.env.scope.names.lookup y=_ from k'] at k<;>cases k
  ·rw [h2] at e'; cases e'
   exact ⟨c,h1,z.keeps kp⟩
 ·have e:cenv.cells.lookup y=some c:=e
  rcases mem e with ⟨h1,_⟩ | ⟨_,z⟩
  ·obtain ⟨w,z⟩:=I.cell y c h1
   exact ⟨w,z.keeps kp⟩
  ·exact ⟨_,z⟩
 ·show H cenv.locals=none
  rw [hL]; exact I.hok.fresh (Nat.le_refl _)
 ·have e:cenv.cells.lookup y=some c:=e
  rcases mem e with ⟨h1,_⟩ | ⟨h1,_⟩
  ·exact I.freeC y c h1
  ·exact I.hok.fresh (Nat.le_of_succ_le h1)
 ·exact absurd (show p∈([]:List (Addr×Obj))++[] from hp) (by simp)
theorem app_ok{E:Value->Shared->Prop}{D:Addr}{xs:List V}{y:V}{v:Value}{Q:Value->Shared->Prop}(I:Inv X pins σ H s)(hD:H D=some (.lst xs))(hz:xs.length < sizeLine)(r:RelV y v)
  (h:∀ s',Inv X pins σ (upd H D (.lst (xs++[y]))) s'->Q .none s'):wpAny (model X.prog X.w) X.A (call (.builtin "list.append") [.ref D,v]) Q E s:=by
 obtain ⟨hz',its,n,ri,e⟩:=I.hok D _ hD
 have hl:=ri.length
 refine append_at (hsz:=by rw [List.size_toArray]; omega) e fun h' sb ho'=>?_
 refine h { s with heap:=h' } (I.write (t':=s.toks) (by rw [hD]; trivial) (.inl rfl) (fun b u hb q=>(sb.2 b hb).trans q) ⟨_,ho'⟩ ⟨by rw [List.length_append]; exact hz,its++[v],n+1,ri.append (.cons r .nil),?_⟩)
 rw [ho']
 simp
def PTs(X:Cx)(ifs:List Expr)(t:TT):Prop :=
 ∀ (pins:List (Addr×Obj)) (s:Shared) (σ:St) (H:Hp) (Q:Bool->Hp->Prop),Inv X pins σ H s->t σ H Q ->
  wpAny (model X.prog X.w) X.A (forIn ifs true fun c r=>if r=true then do let ok←isTrue c X.env (eval c X.env); pure (ForInStep.yield ok) else pure (ForInStep.yield r)) (TP X pins σ Q) X.xe s
def tYes:TT:=fun _ H Q=>Q true H
theorem pts_nil:PTs X [] tYes:=fun _ _ _ H _ I h=>wpAny_tests_nil ⟨H,I,h⟩
theorem pts_one{c:Expr}{t:TT}(h:PT X c t):PTs X [c] t:=fun pins s σ H Q I hw=>wpAny_tests_one (h pins s σ H Q I hw)
end
theorem thnF{α:Type}{t:Sem α}{Q Q':α->Shared->Prop}{M:Model}{A:Around}{E:Value->Shared->Prop}{s:Shared}(h:wpAny M A t Q (fun _ _=>False) s)(hQ:∀ a s,Q a s->Q' a s):wpAny M A t Q' E s:=wpAny_mono h hQ fun _ _ z=>False.elim z
theorem compLoop_any{prog:Program}{w:World}{A:Around}{R:Result->Shared->Prop}{s:Shared}{elt target iter:Expr}{ifs:List Expr}{scope:Scope}{pos:Pos}{it acc:Value}{env:Env}(I:Nat->Shared->Prop)
  (turn:∀ n s,I n s->wpAny (model prog w) A (pyNext it) (fun r s₁=>match r with
   | none=>R (.ok .next) s₁
   | some v=>wpAny (model prog w) A (letOwnedTupleGo target it v) (fun _ s₁'=>wpAny (model prog w) A (assign target env v) (fun _ s₂ =>
     wpAny (model prog w) A (forIn ifs true fun c r=>if r=true then do let ok←isTrue c env (eval c env); pure (ForInStep.yield ok) else pure (ForInStep.yield r)) (fun ok s₃ =>
      if ok=true then wpAny (model prog w) A (eval elt env) (fun x s₄ =>
       wpAny (model prog w) A (call (.builtin "list.append") [acc,x]) (fun _ s₅=>∃ m,m < n∧I m s₅) (notedBy (model prog w) A env fun e s'=>R (.error e) s') s₄) (notedBy (model prog w) A env fun e s'=>R (.error e) s') s₃
      else ∃ m,m < n∧I m s₃) (notedBy (model prog w) A env fun e s'=>R (.error e) s') s₂) (notedBy (model prog w) A env fun e s'=>R (.error e) s') s₁') (notedBy (model prog w) A env fun e s'=>R (.error e) s') s₁) (notedBy (model prog w) A env fun e s'=>R (.error e) s') s)
  (n:Nat) (h:I n s) :
  codeAny (model prog w) A (.compLoop (.ListComp elt [⟨target,iter,ifs,0⟩] scope pos) 0 it acc env) R s:=by
 refine codeAny_loop rfl I (fun n s hI=>?_) n h
 show wpAny _ A ((compTurn (.ListComp elt [⟨target,iter,ifs,0⟩] scope pos) 0 it acc env).onRaise (fun x=>do noteFrame x env; theTreesLotGoes x)) _ _ s
 refine wpAny_noted ?_
 rw [compTurn_list]
 refine wpAny_bind (wpAny_standAt (wpAny_bind (wpAny_mono (turn n s hI) (fun r s₁ h₁=>?_) fun _ _ h'=>h')))
 cases r with
 | none=>exact wpAny_pure h₁
 | some v =>
  refine wpAny_bind (wpAny_mono h₁ (fun _ s₁' h₁'=>?_) fun _ _ h'=>h')
  refine wpAny_bind (wpAny_mono h₁' (fun _ s₂ h₂=>wpAny_bind (wpAny_mono h₂ (fun ok s₃ h₃=>?_) fun _ _ h'=>h')) fun _ _ h'=>h')
  cases ok with
  | false=>exact wpAny_pure ⟨rfl,h₃⟩
  | true =>
   exact wpAny_bind (wpAny_bind (wpAny_mono h₃ (fun x s₄ h₄=>wpAny_bind (wpAny_mono h₄ (fun _ s₅ h₅=>wpAny_pure (wpAny_pure ⟨rfl,h₅⟩)) fun _ _ h'=>h')) fun _ _ h'=>h'))
section
variable {X:Cx}
def tLc(wi:TI)(g:TG)(tt:TT)(te:TE)(vs:List Nat):TE:=fun σ H Q=>wi σ H fun J H1=>∀ D,H1 D=none->∃ W:Nat->Nat->Hp->Prop,(∃ m,W 0 m (upd H1 D (.lst [])))∧∀ i m H,W i m H ->
 (J.stop i H∧Q (.ref D) H)∨(J.go i H∧∃ Nx:Hp->Prop,(∀ H',Nx H'->∃ m',m' < m∧W (i+1) m' H')∧∀ x H',J.yld i H x H'->g x (wipe σ vs) H' fun σ2 H2=>wipe σ2 vs=wipe σ vs∧tt σ2 H2 fun b H3 =>
  if b=true then te σ2 H3 fun y H4=>∃ acc,H4 D=some (.lst acc)∧acc.length < sizeLine∧Nx (upd H4 D (.lst (acc++[y]))) else Nx H3)
theorem lc_core{pins:List (Addr×Obj)}{s:Shared}{σ:St}{H:Hp}{Q:VK}{elt tg iter:Expr}{ifs:List Expr}{scope:Scope}{own:List (Str×Nat)}{pos pos':Pos}{wi:TI}{g:TG}{tt:TT}{te:TE}{use:Option (Value->Sem Unit)}{Qf:Value->Shared->Prop}
  (hc:X.calm=true) (hN:X.N.Nodup) (I:Inv X pins σ H s) (hi:PI X tg iter wi) (ok:BlkOk X.N X.env.scope scope own)
  (hg:∀ (s:Shared) (H:Hp) (C:Addr) (cl:List (Str×Addr)) (fp:List Addr),PG (X.blk s H scope (compEnvC scope cl C X.env) fp) tg g) (ht:∀ (s:Shared) (H:Hp) (C:Addr) (cl:List (Str×Addr)) (fp:List Addr),PTs (X.blk s H scope (compEnvC scope cl C X.env) fp) ifs tt)
  (he:∀ (s:Shared) (H:Hp) (C:Addr) (cl:List (Str×Addr)) (fp:List Addr),PE (X.blk s H scope (compEnvC scope cl C X.env) fp) elt te) (hs:∀ x,foldedSetIterable iter X.env x=pure x)
  (h:tLc wi g tt te (own.map (·.2)) σ H Q)
  (hRR:∀ D C s' m H',Inv X pins σ H' s'->Q (.ref D) H'->s'.heap.Ns C m->FpOk X pins H' C->compPost (model X.prog X.w) X.A X.xe use Qf (.ref D) C (.ok .next) s') :
  wpAny (model X.prog X.w) X.A (comprehension (.ListComp elt [⟨tg,iter,ifs,0⟩] scope pos) scope X.env pos' (newList []) false (eval iter X.env) use) Qf X.xe s:=by
 have hfree:∀ y∈scope.names,y.2=.free->∃ c,X.env.cells.lookup y.1=some c:=fun y hy e=>by
  rcases ok.free y hy e with k | k
  ·exact I.ok.has _ (.inl k)
  ·exact I.ok.has _ (.inr k)
 refine wpAny_comprehension_free (use:=use) rfl hs (closure_ok hfree) ok.kind (fun y hy e=>by rw [ok.uniq y hy,e])
  (thn (hi pins s σ H _ I h) fun xv s1 hx=>thn hx fun itv s2 h2=>?_)
 obtain ⟨it,fp,tn,J,H2,e,I2,T,st2,f2,q⟩:=h2
 subst e
 refine wpAny_newObj_type (newEnv_comp ?_) (by show 0≤sizeLine; decide)
 generalize hD:s2.heap.objs.size=D
 have hDn:H2 D=none:=I2.hok.fresh (Nat.le_of_eq hD)
 obtain ⟨W,⟨m0,w0⟩,turn⟩:=q D hDn
 generalize hs3:({ s2 with heap:=s2.heap.push { cls:=.type "list",data:=.seq ([]:List Value).toArray } }:Shared)=s3
 have I3:Inv X pins σ (upd H2 D (.lst [])) s3:=by
  rw [←hs3]
  refine I2.laid (t':=s2.toks) (fun b o e=>Heap.get?_push_of_some _ e) (Nat.le_of_eq hD) ⟨Nat.zero_le _,[],0,.nil,?_⟩
  rw [←hD]
  exact Heap.get?_push_size _ rfl
 have h3:s3.heap=s2.heap.push { cls:=.type "list",data:=.seq ([]:List Value).toArray }:=by rw [←hs3]
 have sz:∀ b∈fp,b < s2.heap.objs.size:=fun b hb=>by
  obtain ⟨o,e,_⟩:=T.obj _ _ st2 b hb
  exact Heap.lt_size e
 have f3:∀ b∈fp,FpOk X pins (upd H2 D (.lst [])) b∧b < s3.heap.objs.size:=fun b hb=>by
  have hlt:=sz b hb
  refine ⟨⟨?_,(f2 b hb).2⟩,by rw [h3,Heap.size_push]; exact Nat.lt_succ_of_lt hlt⟩
  rw [upd_ne (by rw [←hD]; exact Nat.ne_of_lt hlt)]
  exact (f2 b hb).1
 have st3:tn 0 s3.heap:=T.keep _ _ _ st2 fun b _ o e=>by rw [h3]; exact Heap.get?_push_of_some _ e
 have I4:=block_start I3 ok hN f3
 have pg:=hg s3 (upd H2 D (.lst [])) s3.heap.objs.size (cellsFrom (s3.heap.objs.size+1) scope.names (cloFrom X.env.cells scope.names [])) fp
 have pt:=ht s3 (upd H2 D (.lst [])) s3.heap.objs.size (cellsFrom (s3.heap.objs.size+1) scope.names (cloFrom X.env.cells scope.names [])) fp
 have pe:=he s3 (upd H2 D (.lst [])) s3.heap.objs.size (cellsFrom (s3.heap.objs.size+1) scope.names (cloFrom X.env.cells scope.names [])) fp
 show codeAny _ _ (.compStart (.ListComp elt [⟨tg,iter,ifs,0⟩] scope pos) 0 (.ref it) (.ref D) (compEnvC scope (cellsFrom (s3.heap.objs.size+1) scope.names (cloFrom X.env.cells scope.names [])) s3.heap.objs.size X.env)) (compPost (model X.prog X.w) X.A X.xe use Qf (.ref D) s3.heap.objs.size) { s3 with heap:=pushCells (s3.heap.push { cls:=.type "dict",data:=.dict #[] }) scope.names }
 have nfp:∀ b∈fp,(upd H2 D (.lst [])) b=none:=fun b hb=>(f3 b hb).1.1
 generalize hce:compEnvC scope (cellsFrom (s3.heap.objs.size+1) scope.names (cloFrom X.env.cells scope.names [])) s3.heap.objs.size X.env=ce at I4 pg pt pe ⊢
 have cL:ce.locals=s3.heap.objs.size:=by subst hce; rfl
 generalize hH3:upd H2 D (.lst [])=H3 at I3 I4 pg pt pe w0 nfp f3
 generalize hs4:({ s3 with heap:=pushCells (s3.heap.push { cls:=.type "dict",data:=.dict #[] }) scope.names }:Shared)=s4 at I4 ⊢
 have st4:tn 0 s4.heap:=T.keep _ _ _ st3 fun b _ o e=>by rw [←hs4]; exact pushCells_keeps _ _ _ _ (Heap.get?_push_of_some _ e)
 have stat:∀ {σ':St} {H':Hp} {s':Shared},Inv (X.blk s3 H3 scope ce fp) [] σ' H' s'->(∀ b∈fp,H' b=none)->∀ b∈fp,FpOk (X.blk s3 H3 scope ce fp) [] H' b:=fun {σ' H' s'} I' hn b hb =>
  ⟨hn b hb,(I'.ok.exf b hb).1,I'.ok.exfs b hb,.inl hb,fun x c e=>(I'.ok.exf b hb).2 x c e,fun p hp=>absurd (show p∈([]:List (Addr×Obj))++[] from hp) (by simp)⟩
 have loop:codeAny (model X.prog X.w) X.A (.compLoop (.ListComp elt [⟨tg,iter,ifs,0⟩] scope pos) 0 (.ref it) (.ref D) ce) (compPost (model X.prog X.w) X.A X.xe use Qf (.ref D) s3.heap.objs.size) s4:=by
  refine compLoop_any (fun n s'=>∃ i H',Inv (X.blk s3 H3 scope ce fp) [] (wipe σ (own.map (·.2))) H' s'∧tn i s'.heap∧(∀ b∈fp,H' b=none)∧W i n H') ?_ m0 ⟨0,H3,I4,st4,nfp,w0⟩
  rintro n s5 ⟨i,H5,I5,st5,n5,w5⟩
  rcases turn i n H5 w5 with ⟨stop,qq⟩ | ⟨go,Nx,hNx,step⟩
  ·have td:=T.done (X.blk s3 H3 scope ce fp) rfl rfl rfl hc i [] s5 _ H5 (fun _ _=>False) I5 (stat I5 n5) st5 stop
   refine thnF td fun r s6 ⟨hr,I6⟩=>?_
   subst hr
   have I7:Inv X pins σ H5 s6:=I3.call' (ch:=fp) I6.os I6.base I6.hok I6.bare fun b hb=>⟨(f3 b hb).1.2.2.2.1,(f3 b hb).1.2.1,(f3 b hb).1.2.2.2.2.1,(f3 b hb).1.2.2.2.2.2⟩
   have nC:H5 s3.heap.objs.size=none:=by
    have z:H5 ce.locals=none:=I6.free
    rw [cL] at z
    exact z
   obtain ⟨m,hn,_⟩:=I6.loc
   have hn:s6.heap.Ns ce.locals m:=hn
   rw [cL] at hn
   exact hRR D s3.heap.objs.size s6 m H5 I7 qq hn (I3.fpOk (Nat.le_refl _) nC)
  ·have ti:=T.item (X.blk s3 H3 scope ce fp) rfl rfl rfl hc i [] s5 _ H5 (fun _ _=>False) I5 (stat I5 n5) st5 go
   refine thnF ti fun r s6 ⟨u,hr,h6⟩=>?_
   subst hr
   refine thnF h6 fun _ s7 ⟨x,H7,I7,r7,y7,st7,n7⟩=>?_
   have I7':=I7.pinned (stat I7 n7) (T.obj _ _ st7)
   refine thnF (pg _ s7 _ H7 x u _ I7' r7 (step x H7 y7)) fun _ s8 ⟨σ8,H8,I8,hw8,q8⟩=>?_
   refine thnF (pt _ s8 σ8 H8 _ I8 q8) fun b s9 ⟨H9,I9,q9⟩=>?_
   have fin:∀ {s':Shared} {H':Hp},Inv (X.blk s3 H3 scope ce fp) ([]++pinsAt fp s7.heap) σ8 H' s'->Nx H'->∃ m,m < n∧∃ i H',Inv (X.blk s3 H3 scope ce fp) [] (wipe σ (own.map (·.2))) H' s'∧tn i s'.heap∧(∀ b∈fp,H' b=none)∧W i m H':=fun {s' H'} I' nx=>by
    obtain ⟨m',hm,w'⟩:=hNx H' nx
    have pin':∀ b∈fp,∀ o,s7.heap.get? b=some o->s'.heap.get? b=some o∧H' b=none:=fun b hb o e =>
     let z:=I'.pin (b,o) (List.mem_append_right _ (List.mem_append_right _ (mem_pinsAt hb e)))
     ⟨z.1,z.2.1⟩
    have hl:(wipe σ (own.map (·.2))).length=σ8.length:=by rw [←hw8,wipe_length]
    refine ⟨m',hm,i+1,H',(I'.unpinned (pins:=[])).weak hl (fun j v e=>?_),T.keep _ _ _ st7 fun b hb o e=>(pin' b hb o e).1,fun b hb=>?_,w'⟩
    ·rw [←hw8] at e
     exact (wipe_some e).1
    ·obtain ⟨o,e,_⟩:=T.obj _ _ st7 b hb
     exact (pin' b hb o e).2
   cases b with
   | false =>
    simp only [Bool.false_eq_true,if_false] at q9 ⊢
    exact fin I9 q9
   | true =>
    simp only [if_true] at q9 ⊢
    refine thnF (pe _ s9 σ8 H9 _ I9 q9) fun z s10 ⟨yv,H10,I10,r10,acc,hD10,hz10,nx⟩=>?_
    exact app_ok (X:=X.blk s3 H3 scope ce fp) I10 hD10 hz10 r10 fun s11 I11=>fin I11 nx
 exact codeAny_compStart_list loop (T.self X.A 0 _ _ _ st4 loop)
theorem pe_lc{elt tg iter:Expr}{ifs:List Expr}{scope:Scope}{own:List (Str×Nat)}{pos:Pos}{wi:TI}{g:TG}{tt:TT}{te:TE}(hc:X.calm=true)(hN:X.N.Nodup)(hi:PI X tg iter wi)(ok:BlkOk X.N X.env.scope scope own)
  (hg:∀ (s:Shared) (H:Hp) (C:Addr) (cl:List (Str×Addr)) (fp:List Addr),PG (X.blk s H scope (compEnvC scope cl C X.env) fp) tg g) (ht:∀ (s:Shared) (H:Hp) (C:Addr) (cl:List (Str×Addr)) (fp:List Addr),PTs (X.blk s H scope (compEnvC scope cl C X.env) fp) ifs tt)
  (he:∀ (s:Shared) (H:Hp) (C:Addr) (cl:List (Str×Addr)) (fp:List Addr),PE (X.blk s H scope (compEnvC scope cl C X.env) fp) elt te) (hs:∀ x,foldedSetIterable iter X.env x=pure x:=by intro _; rfl) :
  PE X (.ListComp elt [⟨tg,iter,ifs,0⟩] scope pos) (tLc wi g tt te (own.map (·.2))):=by
 intro pins s σ H Q I h
 rw [eval_ListComp]
 refine lc_core hc hN I hi ok hg ht he hs h fun D C s' m H' I' q hn f=>⟨m,hn,fun h'' sb=>?_⟩
 obtain ⟨f0,f1,f2,f3,f4,f5⟩:=f
 exact ⟨.ref D,H',I'.turned (t':=s'.toks) (fun b o hb e=>(sb.2 b hb).trans e) f0 f1 f3 f4 f5,rfl,q⟩
theorem ps_setLc{i:Nat}{y:Str}{py:Pos}{elt tg iter:Expr}{ifs:List Expr}{scope:Scope}{own:List (Str×Nat)}{pos spos:Pos}{wi:TI}{g:TG}{tt:TT}{te:TE}(hc:X.calm=true)(hN:X.N.Nodup)(hy:X.N[i]?=some y)(hyl:X.env.scope.names.lookup y=some .local)
  (hsw:swapsWith (.ListComp elt [⟨tg,iter,ifs,0⟩] scope pos) (some (.Name y py)) spos.line X.env=pure true) (hi:PI X tg iter wi) (ok:BlkOk X.N X.env.scope scope own)
  (hg:∀ (s:Shared) (H:Hp) (C:Addr) (cl:List (Str×Addr)) (fp:List Addr),PG (X.blk s H scope (compEnvC scope cl C X.env) fp) tg g) (ht:∀ (s:Shared) (H:Hp) (C:Addr) (cl:List (Str×Addr)) (fp:List Addr),PTs (X.blk s H scope (compEnvC scope cl C X.env) fp) ifs tt)
  (he:∀ (s:Shared) (H:Hp) (C:Addr) (cl:List (Str×Addr)) (fp:List Addr),PE (X.blk s H scope (compEnvC scope cl C X.env) fp) elt te) (hs:∀ x,foldedSetIterable iter X.env x=pure x:=by intro _; rfl) :
  PS X (.Assign [.Name y py] (.ListComp elt [⟨tg,iter,ifs,0⟩] scope pos) spos) (tAsg (tLc wi g tt te (own.map (·.2))) (gName i)):=by
 intro pins s σ H D I h
 rw [exec_Assign_Name_used _ _ _ _ hsw]
 refine wpAny_bind (wpAny_standAt (wpAny_bind ?_))
 show wpAny _ X.A (do let _←comprehension (.ListComp elt [⟨tg,iter,ifs,0⟩] scope pos) scope X.env (firstIterPos [⟨tg,iter,ifs,0⟩] pos) (newList []) false (eval iter X.env) (some (assign (.Name y py) X.env))) _ _ s
 have h:tLc wi g tt te (own.map (·.2)) σ H (fun x H1=>gName i x σ H1 D.nx):=h
 refine wpAny_bind (thn (lc_core (Qf:=fun _ s'=>SP X pins D .next s') hc hN I hi ok hg ht he hs h fun L C s' m H' I' q hn f=>?_) fun _ s' hq=>wpAny_pure (wpAny_pure hq))
 show wpAny _ _ (assign (.Name y py) X.env (.ref L)) _ _ _
 refine wpAny_assign_Name (store_ok2 (v:=V.ref L) I' hN hy (.inl hyl) rfl (fun s2 I2 ⟨a,sb,ha⟩=>?_) (.inr hyl))
 obtain ⟨f0,f1,f2,f3,f4,f5⟩:=f
 have haC:C≠a:=by
  rcases ha with z | z
  ·rw [z]; exact f1
  ·exact fun e=>f4 y a z e.symm
 refine ⟨m,hn.sameBut sb haC,fun h3 sb3=>?_⟩
 exact ⟨_,H',I2.turned (t':=s2.toks) (fun b o hb e=>(sb3.2 b hb).trans e) f0 f1 f3 f4 f5,q⟩
theorem sw_true{elt:Expr}{gs:List Comprehension}{scope:Scope}{pos py:Pos}{y:Str}{l:Nat}{env:Env}(hk:env.scope.kind=.function)(hy:env.scope.names.lookup y=some .local)(hl:(py.line==pos.line)=true)
  (ha:(scope.names.any fun (n,k)=>n==y&&(k==.local||k==.cell))=false):swapsWith (.ListComp elt gs scope pos) (some (.Name y py)) l env=pure true:=by
 have ky:env.kindOf y=some .local:=hy
 have hb:env.blockKind=.function:=by unfold Env.blockKind; rw [hk]; rfl
 unfold swapsWith
 simp only [hb,ky,ha,Expr.pos,hl]
 rfl
end
theorem lc_range{lo:Int}{n:Nat}{g:TG}{tt:TT}{te:TE}{vs:List Nat}{σ:St}{H1:Hp}{D:Addr}{Qd:Hp->Prop}(Pv:Nat->Hp->Prop)(h0:Pv 0 (upd H1 D (.lst [])))
  (hs:∀ i H,i < n->Pv i H->g (.int (lo+i)) (wipe σ vs) H fun σ2 H2=>wipe σ2 vs=wipe σ vs∧tt σ2 H2 fun b H3 =>
   if b=true then te σ2 H3 fun y H4=>∃ acc,H4 D=some (.lst acc)∧acc.length < sizeLine∧Pv (i+1) (upd H4 D (.lst (acc++[y]))) else Pv (i+1) H3) (hd:∀ H,Pv n H->Qd H) :
  ∃ W:Nat->Nat->Hp->Prop,(∃ m,W 0 m (upd H1 D (.lst [])))∧∀ i m H,W i m H ->
   ((Itr lo n).stop i H∧Qd H)∨((Itr lo n).go i H∧∃ Nx:Hp->Prop,(∀ H',Nx H'->∃ m',m' < m∧W (i+1) m' H')∧∀ x H',(Itr lo n).yld i H x H'->g x (wipe σ vs) H' fun σ2 H2=>wipe σ2 vs=wipe σ vs∧tt σ2 H2 fun b H3 =>
    if b=true then te σ2 H3 fun y H4=>∃ acc,H4 D=some (.lst acc)∧acc.length < sizeLine∧Nx (upd H4 D (.lst (acc++[y]))) else Nx H3):=by
 refine ⟨fun i m H=>m=n - i∧i≤n∧Pv i H,⟨n,by simp,Nat.zero_le _,h0⟩,?_⟩
 rintro i m H ⟨rfl,hi,p⟩
 by_cases hlt:i < n
 ·refine .inr ⟨hlt,Pv (i+1),fun H' p'=>⟨n - (i+1),by omega,rfl,hlt,p'⟩,fun x H' y=>?_⟩
  obtain ⟨e,y⟩:=y
  subst e y
  exact hs i _ hlt p
 ·have e:i=n:=by omega
  subst e
  exact .inl ⟨Nat.le_refl _,hd H p⟩
theorem lc_list{K:PySem.W.Frag}{a:Addr}{xs:List V}{g:TG}{tt:TT}{te:TE}{vs:List Nat}{σ:St}{H1:Hp}{D:Addr}{Qd:Hp->Prop}(Pv:Nat->Hp->Prop)(h0:Pv 0 (upd H1 D (.lst [])))(hl:∀ i H,i≤xs.length->Pv i H->SqL K H a xs)
  (hs:∀ i x H,xs[i]?=some x->Pv i H->g x (wipe σ vs) H fun σ2 H2=>wipe σ2 vs=wipe σ vs∧tt σ2 H2 fun b H3 =>
   if b=true then te σ2 H3 fun y H4=>∃ acc,H4 D=some (.lst acc)∧acc.length < sizeLine∧Pv (i+1) (upd H4 D (.lst (acc++[y]))) else Pv (i+1) H3) (hd:∀ H,Pv xs.length H->Qd H) :
  ∃ W:Nat->Nat->Hp->Prop,(∃ m,W 0 m (upd H1 D (.lst [])))∧∀ i m H,W i m H ->
   ((Itl K a).stop i H∧Qd H)∨((Itl K a).go i H∧∃ Nx:Hp->Prop,(∀ H',Nx H'->∃ m',m' < m∧W (i+1) m' H')∧∀ x H',(Itl K a).yld i H x H'->g x (wipe σ vs) H' fun σ2 H2=>wipe σ2 vs=wipe σ vs∧tt σ2 H2 fun b H3 =>
    if b=true then te σ2 H3 fun y H4=>∃ acc,H4 D=some (.lst acc)∧acc.length < sizeLine∧Nx (upd H4 D (.lst (acc++[y]))) else Nx H3):=by
 refine ⟨fun i m H=>m=xs.length - i∧i≤xs.length∧Pv i H,⟨xs.length,by simp,Nat.zero_le _,h0⟩,?_⟩
 rintro i m H ⟨rfl,hi,p⟩
 have q:=hl i H hi p
 by_cases hlt:i < xs.length
 ·refine .inr ⟨⟨xs,xs[i],q,by simp [hlt]⟩,Pv (i+1),fun H' p'=>⟨xs.length - (i+1),by omega,rfl,hlt,p'⟩,fun x H' y=>?_⟩
  obtain ⟨e,y⟩:=y
  subst e
  exact hs i x _ (y xs q) p
 ·have e:i=xs.length:=by omega
  subst e
  exact .inl ⟨⟨xs,q,Nat.le_refl _⟩,hd H p⟩
def blkC(N:List Str)(sc scope:Scope)(own:List (Str×Nat)):Bool :=
 (match scope.kind with | .function=>true | _=>false)&&(scope.names.all fun y=>decide (scope.names.lookup y.1=some y.2))&&(own.all fun p=>decide (N[p.2]?=some p.1)) &&
  (scope.names.all fun y=>match y.2 with
   | .free=>(match sc.names.lookup y.1 with | some .cell=>true | some .free=>true | _=>false)
   | .local=>decide (y.1∈own.map (·.1))||decide (y.1∉N)
   | .cell=>decide (y.1∈own.map (·.1))||decide (y.1∉N)
   | _=>true)
theorem blkOk_by{N:List Str}{sc scope:Scope}{own:List (Str×Nat)}(h:blkC N sc scope own=true):BlkOk N sc scope own:=by
 unfold blkC at h
 simp only [Bool.and_eq_true,List.all_eq_true,decide_eq_true_eq] at h
 obtain ⟨⟨⟨h1,h2⟩,h3⟩,h4⟩:=h
 refine ⟨?_,h2,h3,fun y hy e=>?_,fun y hy e=>?_⟩
 ·split at h1
  ·assumption
  ·cases h1
 ·have q:=h4 y hy
  simp only [e] at q
  split at q<;>first | exact .inl (by assumption) | exact .inr (by assumption) | cases q
 ·have q:=h4 y hy
  rcases e with e | e<;>(simp only [e,Bool.or_eq_true,decide_eq_true_eq] at q; exact q)
end L2
namespace L2
open PySem PySem.Spec PyProof.Rows
section
variable {κ:Type} [DecidableEq κ]
def valV(kvs:List (κ×V))(k:κ):Option V:=(kvs.find? fun kv=>decide (kv.1=k)).map (·.2)
def putK(kvs:List (κ×V))(k:κ)(v:V):List (κ×V) :=
 if (kvs.any fun kv=>decide (kv.1=k))=true then kvs.map (fun kv=>if kv.1=k then (kv.1,v) else kv) else kvs++[(k,v)]
theorem valV_pos{p:κ×V}{r:List (κ×V)}{k:κ}(e:p.1=k):valV (p::r) k=some p.2:=by simp [valV,List.find?_cons,e]
theorem valV_neg{p:κ×V}{r:List (κ×V)}{k:κ}(e:¬ p.1=k):valV (p::r) k=valV r k:=by simp [valV,List.find?_cons,e]
theorem valV_any(k:κ):∀ kvs:List (κ×V),(kvs.any fun kv=>decide (kv.1=k))=(valV kvs k).isSome
 | []=>rfl
 | p::r=>by
  rw [List.any_cons]
  by_cases e:p.1=k
  ·simp only [valV_pos e,decide_eq_true e,Bool.true_or,Option.isSome_some]
  ·rw [valV_neg e,decide_eq_false e,Bool.false_or]; exact valV_any k r
theorem valV_map(k j:κ)(y:V):∀ kvs:List (κ×V),valV (kvs.map fun kv=>if kv.1=k then (kv.1,y) else kv) j=(valV kvs j).map fun x=>if j=k then y else x
 | []=>rfl
 | p::r=>by
  have ih:=valV_map k j y r
  rw [List.map_cons]
  by_cases h:p.1=k
  ·rw [if_pos h]
   by_cases e:p.1=j
   ·rw [valV_pos (p:=(p.1,y)) e,valV_pos e,Option.map_some,if_pos (e.symm.trans h)]
   ·rw [valV_neg (p:=(p.1,y)) e,valV_neg e,ih]
  ·rw [if_neg h]
   by_cases e:p.1=j
   ·rw [valV_pos (p:=p) e,valV_pos e,Option.map_some,if_neg (fun z=>h (e.trans z))]
   ·rw [valV_neg (p:=p) e,valV_neg e,ih]
theorem valV_snoc(k j:κ)(y:V):∀ kvs:List (κ×V),valV kvs k=none->valV (kvs++[(k,y)]) j=if j=k then some y else valV kvs j
 | [],_=>by
  by_cases e:k=j
  ·rw [if_pos e.symm]; exact valV_pos (p:=(k,y)) e
  ·rw [if_neg (fun z=>e z.symm)]; exact valV_neg (p:=(k,y)) e
 | p::r,hn=>by
  rw [List.cons_append]
  have hk:¬ p.1=k:=fun z=>by rw [valV_pos z] at hn; cases hn
  rw [valV_neg hk] at hn
  have ih:=valV_snoc k j y r hn
  by_cases e:p.1=j
  ·rw [valV_pos e,valV_pos e,if_neg (fun z=>hk (e.trans z))]
  ·rw [valV_neg e,valV_neg e,ih]
theorem valV_put(kvs:List (κ×V))(k j:κ)(y:V):valV (putK kvs k y) j=if j=k then some y else valV kvs j:=by
 unfold putK
 by_cases a:(kvs.any fun kv=>decide (kv.1=k))=true
 ·rw [if_pos a,valV_map]
  rw [valV_any] at a
  by_cases e:j=k
  ·obtain ⟨x,hx⟩:=Option.isSome_iff_exists.mp a
   rw [if_pos e,e,hx,Option.map_some,if_pos rfl]
  ·rw [if_neg e]
   cases valV kvs j with
   | none=>rfl
   | some x=>rw [Option.map_some,if_neg e]
 ·rw [if_neg a]
  refine valV_snoc k j y kvs ?_
  rw [valV_any] at a
  cases q:valV kvs k with
  | none=>rfl
  | some x=>rw [q] at a; exact (a rfl).elim
theorem length_putK(kvs:List (κ×V))(k:κ)(v:V):(putK kvs k v).length≤kvs.length+1:=by
 unfold putK
 split
 ·rw [List.length_map]; omega
 ·rw [List.length_append,List.length_cons,List.length_nil]; omega
theorem putK_new{kvs:List (κ×V)}{k:κ}(v:V)(h:valV kvs k=none):putK kvs k v=kvs++[(k,v)]:=by
 unfold putK
 rw [valV_any,h]
 exact if_neg (by decide)
theorem RelO.isSome_eq{o:Option V}{u:Option Value}(r:RelO o u):o.isSome=u.isSome:=by
 cases o with
 | none=>cases u with
  | none=>rfl
  | some _=>exact (show False from r).elim
 | some _=>cases u with
  | none=>exact (show False from r).elim
  | some _=>rfl
theorem KV.val{kvs:List (κ×V)}{vs:List (κ×Value)}(r:KV kvs vs)(k:κ):RelO (valV kvs k) (valueAt vs k):=by
 unfold KV at r
 induction r with
 | nil=>exact True.intro
 | @cons p q ps qs h t ih =>
  obtain ⟨h1,h2⟩:=h
  by_cases e:p.1=k
  ·have e':q.1=k:=h1.symm.trans e
   have b:valueAt (q::qs) k=some q.2:=by simp [valueAt,List.find?_cons,e']
   rw [valV_pos e,b]; exact h2
  ·have e':¬ q.1=k:=fun z=>e (h1.trans z)
   have b:valueAt (q::qs) k=valueAt qs k:=by simp [valueAt,List.find?_cons,e']
   rw [valV_neg e,b]; exact ih
theorem KV.any{kvs:List (κ×V)}{vs:List (κ×Value)}(r:KV kvs vs)(k:κ):(kvs.any fun kv=>decide (kv.1=k))=vs.any fun kv=>decide (kv.1=k):=by
 unfold KV at r
 induction r with
 | nil=>rfl
 | cons h t ih=>rw [List.any_cons,List.any_cons,ih,h.1]
theorem KV.repl{kvs:List (κ×V)}{vs:List (κ×Value)}(r:KV kvs vs)(k:κ){y:V}{u:Value}(ry:RelV y u) :
  KV (kvs.map fun kv=>if kv.1=k then (kv.1,y) else kv) (vs.map fun kv=>if kv.1=k then (kv.1,u) else kv):=by
 unfold KV at r ⊢
 induction r with
 | nil=>exact .nil
 | @cons p q ps qs h t ih =>
  rw [List.map_cons,List.map_cons]
  refine .cons ?_ ih
  obtain ⟨h1,h2⟩:=h
  by_cases e:p.1=k
  ·rw [if_pos e,if_pos (h1.symm.trans e)]; exact ⟨h1,ry⟩
  ·rw [if_neg e,if_neg (fun z=>e (h1.trans z))]; exact ⟨h1,h2⟩
theorem KV.put{kvs:List (κ×V)}{vs:List (κ×Value)}(r:KV kvs vs)(k:κ){y:V}{u:Value}(ry:RelV y u):KV (putK kvs k y) (stored vs k u):=by
 unfold putK stored
 rw [r.any k]
 by_cases e:(vs.any fun kv=>decide (kv.1=k))=true
 ·rw [if_pos e,if_pos e]; exact r.repl k ry
 ·rw [if_neg e,if_neg e]; exact Paired.snoc r ⟨rfl,ry⟩
theorem KV.length{kvs:List (κ×V)}{vs:List (κ×Value)}(r:KV kvs vs):kvs.length=vs.length:=Paired.length r
end
theorem kV_is{P:Program}{w:World}{k:Key}{u:Value}(r:RelV (kV k) u):(mixKind P w).is k u=true:=by
 cases k with
 | inl i=>obtain ⟨t,e⟩:=(show ∃ t,u=Value.int i t from r); subst e; exact mixKind_int P w i t
 | inr x=>obtain ⟨t,e⟩:=(show ∃ t,u=Value.str x t from r); subst e; exact mixKind_str P w x t
theorem items_are{P:Program}{w:World}:∀ {ks:List Key} {us:List Value},Vals (ks.map kV) us->ItemsAre (mixKind P w) ks us
 | [],_,r=>by rw [List.map_nil] at r; cases r; exact .nil
 | k::ks,_,r=>by
  rw [List.map_cons] at r
  cases r with
  | cons h t=>exact .cons (kV_is h) (items_are t)
abbrev KT(H:Hp):List (List Key×V)->List (List Key×Addr×Value)->Prop:=Paired fun p q=>p.1=q.1∧H q.2.1=some (.tup (p.1.map kV))∧RelV p.2 q.2.2
theorem KT.val{H:Hp}{kvs:List (List Key×V)}{xs:List (List Key×Addr×Value)}(r:KT H kvs xs)(k:List Key):RelO (valV kvs k) ((atKey xs k).map (·.2)):=by
 induction r with
 | nil=>exact True.intro
 | @cons p q ps qs h t ih =>
  obtain ⟨h1,_,h2⟩:=h
  by_cases e:p.1=k
  ·have e':q.1=k:=h1.symm.trans e
   have b:atKey (q::qs) k=some q.2:=by simp [atKey,List.find?_cons,e']
   rw [valV_pos e,b]; exact h2
  ·have e':¬ q.1=k:=fun z=>e (h1.trans z)
   have b:atKey (q::qs) k=atKey qs k:=by simp [atKey,List.find?_cons,e']
   rw [valV_neg e,b]; exact ih
theorem KT.repl{H:Hp}{kvs:List (List Key×V)}{xs:List (List Key×Addr×Value)}(r:KT H kvs xs)(k:List Key){y:V}{u:Value}(ry:RelV y u) :
  KT H (kvs.map fun kv=>if kv.1=k then (kv.1,y) else kv) (xs.map (putAt k u)):=by
 induction r with
 | nil=>exact .nil
 | @cons p q ps qs h t ih =>
  rw [List.map_cons,List.map_cons]
  refine .cons ?_ ih
  obtain ⟨h1,h2,h3⟩:=h
  unfold putAt
  by_cases e:p.1=k
  ·rw [if_pos e,if_pos (h1.symm.trans e)]; exact ⟨h1,h2,ry⟩
  ·rw [if_neg e,if_neg (fun z=>e (h1.trans z))]; exact ⟨h1,h2,h3⟩
theorem KT.put{H:Hp}{kvs:List (List Key×V)}{xs:List (List Key×Addr×Value)}(r:KT H kvs xs)(k:List Key){b:Addr}{y:V}{u:Value}(hb:H b=some (.tup (k.map kV)))(ry:RelV y u) :
  KT H (putK kvs k y) (storedH xs k b u):=by
 have e:(kvs.any fun kv=>decide (kv.1=k))=(atKey xs k).isSome:=by
  rw [valV_any,(r.val k).isSome_eq,Option.isSome_map]
 unfold putK storedH
 rw [e]
 by_cases q:(atKey xs k).isSome=true
 ·rw [if_pos q,if_pos q]; exact r.repl k ry
 ·rw [if_neg q,if_neg q]; exact Paired.snoc r ⟨rfl,hb,ry⟩
theorem KT.keeps{H H':Hp}{kvs:List (List Key×V)}{xs:List (List Key×Addr×Value)}(r:KT H kvs xs)(ht:∀ b ys,H b=some (.tup ys)->H' b=some (.tup ys)):KT H' kvs xs :=
 Paired.mapP r fun _ _ z=>⟨z.1,ht _ _ z.2.1,z.2.2⟩
section
variable {P:Program} {w:World} {H:Hp} {h:Heap} {a:Addr}
theorem rd_of{u:HO}(ok:HOk P w H h)(e:Rd H a u):ObjOk P w H h a u:=e.ok ok
theorem dk_rd{kvs:List (Key×V)}(ok:HOk P w H h)(e:Rd H a (.dK kvs)):kvs.length≤sizeLine∧(a==sysModules)=false∧∃ vs,KV kvs vs∧h.DictOf (mixKind P w) a vs :=
 show ObjOk P w H h a (.dK kvs) from rd_of ok e
theorem dk_of{kvs:List (Key×V)}(ok:HOk P w H h)(e:H a=some (.dK kvs)):kvs.length≤sizeLine∧(a==sysModules)=false∧∃ vs,KV kvs vs∧h.DictOf (mixKind P w) a vs:=dk_rd ok (.inl e)
theorem key_of{ks:List Key}(ok:HOk P w H h)(e:H a=some (.tup (ks.map kV))):(tupleKind (mixKind P w)).is h ks a:=by
 obtain ⟨_,its,r,o,h1,h2,n,h3⟩:=(show ObjOk P w H h a (.tup (ks.map kV)) from ok a _ e)
 exact ⟨o,its.toArray,n,h1,h2,h3,by simpa using items_are r⟩
theorem dt_rd{kvs:List (List Key×V)}(ok:HOk P w H h)(e:Rd H a (.dT kvs)):kvs.length≤sizeLine∧(a==sysModules)=false ∧
  ∃ xs,KT H kvs xs∧h.DictOfH (tupleKind (mixKind P w)) a xs:=by
 obtain ⟨z,y,xs,r,o,es,ep,h1,h2,h3,h4,h5⟩:=(show ObjOk P w H h a (.dT kvs) from rd_of ok e)
 refine ⟨z,y,xs,r,o,es,ep,h1,h2,h3,h4,fun x hx=>?_,h5⟩
 have all:∀ {l:List (List Key×V)} {m:List (List Key×Addr×Value)},KT H l m->∀ x∈m,(tupleKind (mixKind P w)).is h x.1 x.2.1:=by
  intro l m q
  induction q with
  | nil=>intro x hx; exact nomatch hx
  | @cons p q ps qs hq t ih =>
   intro x hx
   rcases List.mem_cons.mp hx with e | hx
   ·subst e
    exact key_of ok (by rw [←hq.1]; exact hq.2.1)
   ·exact ih x hx
 exact all r x hx
theorem dt_of{kvs:List (List Key×V)}(ok:HOk P w H h)(e:H a=some (.dT kvs)):kvs.length≤sizeLine∧(a==sysModules)=false ∧
  ∃ xs,KT H kvs xs∧h.DictOfH (tupleKind (mixKind P w)) a xs:=dt_rd ok (.inl e)
end
def DGet(H:Hp)(a:Addr)(y:V)(r:Option V):Prop :=
 (∃ kvs k,Rd H a (.dK kvs)∧y=kV k∧r=valV kvs k)∨∃ kvs k b,Rd H a (.dT kvs)∧y=.ref b∧H b=some (.tup (k.map kV))∧r=valV kvs k
def DPut(H:Hp)(a:Addr)(y v:V)(H':Hp):Prop :=
 (∃ kvs k,H a=some (.dK kvs)∧y=kV k∧kvs.length < sizeLine∧H'=upd H a (.dK (putK kvs k v))) ∨
 ∃ kvs k b,H a=some (.dT kvs)∧y=.ref b∧H b=some (.tup (k.map kV))∧kvs.length < sizeLine∧H'=upd H a (.dT (putK kvs k v))
theorem DGet.k{H:Hp}{a:Addr}{kvs:List (Key×V)}{k:Key}(e:H a=some (.dK kvs)):DGet H a (kV k) (valV kvs k):=.inl ⟨kvs,k,.inl e,rfl,rfl⟩
theorem DGet.t{H:Hp}{a b:Addr}{kvs:List (List Key×V)}{k:List Key}(e:H a=some (.dT kvs))(eb:H b=some (.tup (k.map kV))):DGet H a (.ref b) (valV kvs k):=.inr ⟨kvs,k,b,.inl e,rfl,eb,rfl⟩
theorem DPut.k{H:Hp}{a:Addr}{kvs:List (Key×V)}{k:Key}{v:V}(e:H a=some (.dK kvs))(hl:kvs.length < sizeLine):DPut H a (kV k) v (upd H a (.dK (putK kvs k v))):=.inl ⟨kvs,k,e,rfl,hl,rfl⟩
theorem DPut.t{H:Hp}{a b:Addr}{kvs:List (List Key×V)}{k:List Key}{v:V}(e:H a=some (.dT kvs))(eb:H b=some (.tup (k.map kV)))(hl:kvs.length < sizeLine) :
  DPut H a (.ref b) v (upd H a (.dT (putK kvs k v))):=.inr ⟨kvs,k,b,e,rfl,eb,hl,rfl⟩
section
variable {X:Cx} {pins:List (Addr×Obj)} {σ:St} {H:Hp} {s:Shared} {a:Addr} {y v:V} {u r:Value} {o:Option V} {A:Around} {E:Value->Shared->Prop}
theorem Inv.big(I:Inv X pins σ H s):sysModules < s.heap.objs.size:=by
 have h:mainGlobals < s.heap.objs.size:=(I.mod.glob.keeps I.bk).lt
 exact Nat.lt_trans (by decide) h
theorem d_getItem{Q:Value->Shared->Prop}(hu:A.units+1 < cLine)(I:Inv X pins σ H s)(g:DGet H a y (some v))(ry:RelV y u)(h:∀ w' s',Inv X pins σ H s'->RelV v w'->Q w' s') :
  wpAny (model X.prog X.w) A (getItem (.ref a) u) Q E s:=by
 rcases g with ⟨kvs,k,e,ey,l⟩ | ⟨kvs,k,b,e,ey,eb,l⟩
 ·subst ey
  obtain ⟨z,hd,vs,rel,dd⟩:=dk_rd I.hok e
  obtain ⟨w',hw,rw'⟩:=RelO.some_of (v:=v) (o:=valueAt vs k) (by rw [l]; exact rel.val k)
  exact wpAny_getItem_of (kV_is ry) dd.mapOf hw (h w' _ (I.tok _) rw')
 ·subst ey
  cases (show u=Value.ref b from ry)
  obtain ⟨z,hd,xs,rel,dd⟩:=dt_rd I.hok e
  obtain ⟨w',hw,rw'⟩:=RelO.some_of (v:=v) (o:=(atKey xs k).map (·.2)) (by rw [l]; exact rel.val k)
  obtain ⟨p,hp,hp2⟩:=Option.map_eq_some_iff.mp hw
  refine wpAny_getItem_heap (tupleKind_room_in1 hu) (key_of I.hok eb) dd hp ?_
  rw [hp2]
  exact h w' _ (I.tok _) rw'
theorem d_in{Q:Value->Shared->Prop}(hu:A.units+1 < cLine)(I:Inv X pins σ H s)(g:DGet H a y o)(ry:RelV y u)(h:∀ s',Inv X pins σ H s'->Q (.bool o.isSome) s') :
  wpAny (model X.prog X.w) A (compareOp .In u (.ref a)) Q E s:=by
 rcases g with ⟨kvs,k,e,ey,l⟩ | ⟨kvs,k,b,e,ey,eb,l⟩
 ·subst ey
  obtain ⟨z,hd,vs,rel,dd⟩:=dk_rd I.hok e
  refine wpAny_in_of (kV_is ry) hd dd.mapOf ?_
  rw [←(rel.val k).isSome_eq,←l]
  exact h _ (I.tok _)
 ·subst ey
  cases (show u=Value.ref b from ry)
  obtain ⟨z,hd,xs,rel,dd⟩:=dt_rd I.hok e
  refine wpAny_in_heap (tupleKind_room_in1 hu) (key_of I.hok eb) hd dd ?_
  have q:=(rel.val k).isSome_eq
  rw [Option.isSome_map] at q
  rw [←q,←l]
  exact h _ (I.tok _)
theorem d_notIn{Q:Value->Shared->Prop}(hu:A.units+1 < cLine)(I:Inv X pins σ H s)(g:DGet H a y o)(ry:RelV y u)(h:∀ s',Inv X pins σ H s'->Q (.bool (!o.isSome)) s') :
  wpAny (model X.prog X.w) A (compareOp .NotIn u (.ref a)) Q E s:=by
 rcases g with ⟨kvs,k,e,ey,l⟩ | ⟨kvs,k,b,e,ey,eb,l⟩
 ·subst ey
  obtain ⟨z,hd,vs,rel,dd⟩:=dk_rd I.hok e
  refine wpAny_notIn_of (kV_is ry) hd dd.mapOf ?_
  rw [←(rel.val k).isSome_eq,←l]
  exact h _ (I.tok _)
 ·subst ey
  cases (show u=Value.ref b from ry)
  obtain ⟨z,hd,xs,rel,dd⟩:=dt_rd I.hok e
  refine wpAny_notIn_heap (tupleKind_room_in1 hu) (key_of I.hok eb) hd dd ?_
  have q:=(rel.val k).isSome_eq
  rw [Option.isSome_map] at q
  rw [←q,←l]
  exact h _ (I.tok _)
theorem d_write{h':Heap}{t':Nat}{ob:HO}(I:Inv X pins σ H s)(mu:Mut (H a))(hs:Heap.SameBut a s.heap h')(he:∃ q,h'.get? a=some q)(new:ObjOk X.prog X.w (upd H a ob) h' a ob) :
  Inv X pins σ (upd H a ob) { s with heap:=h',toks:=t' } :=
 I.write (x:=a) (e:=a) mu (.inl rfl) (fun b q hb z=>(hs.2 b hb).trans z) he new
theorem dk_new{P:Program}{w:World}{H':Hp}{h':Heap}{kvs:List (Key×V)}{vs:List (Key×Value)}(z:kvs.length≤sizeLine)(hd:(a==sysModules)=false)(rel:KV kvs vs)(dd:h'.DictOf (mixKind P w) a vs) :
  ObjOk P w H' h' a (.dK kvs):=⟨z,hd,vs,rel,dd⟩
theorem d_setItem{H':Hp}{Q:Unit->Shared->Prop}(hu:A.units+1 < cLine)(I:Inv X pins σ H s)(g:DPut H a y v H')(ry:RelV y u)(rv:RelV v r)(h:∀ s',Inv X pins σ H' s'->Q () s') :
  wpAny (model X.prog X.w) A (setItem (.ref a) u r) Q E s:=by
 rcases g with ⟨kvs,k,e,ey,l,eH⟩ | ⟨kvs,k,b,e,ey,eb,l,eH⟩
 ·subst ey eH
  obtain ⟨z,hd,vs,rel,dd⟩:=dk_of I.hok e
  have hz:vs.length≤sizeLine:=by rw [←rel.length]; exact z
  have hl:(putK kvs k v).length≤sizeLine:=by have:=length_putK kvs k v; omega
  refine wpAny_setItem_pairs (hsz:=hz) (kV_is ry) dd fun h' dd' hs=>h _ ?_
  have he:∃ q,h'.get? a=some q:=let ⟨q,_,_,hq,_⟩:=dd'; ⟨q,hq⟩
  exact d_write I (by rw [e]; exact True.intro) hs he (dk_new hl hd (rel.put k rv) dd')
 ·subst ey eH
  cases (show u=Value.ref b from ry)
  obtain ⟨z,hd,xs,rel,dd⟩:=dt_of I.hok e
  have hz:xs.length≤sizeLine:=by rw [←Paired.length rel]; exact z
  have hl:(putK kvs k v).length≤sizeLine:=by have:=length_putK kvs k v; omega
  refine wpAny_setItem_heap (hsz:=hz) (tupleKind_room_in1 hu) (key_of I.hok eb) dd fun h' dd' hs=>h _ ?_
  obtain ⟨q,es,ep,hq,h2,h3,h4,_,h5⟩:=dd'
  refine d_write I (by rw [e]; exact True.intro) hs ⟨q,hq⟩ ⟨hl,hd,_,(rel.put k eb rv).keeps fun c ys ec=>?_,q,es,ep,hq,h2,h3,h4,h5⟩
  rw [upd_ne (ne_of ec e (fun z=>nomatch z))]
  exact ec
end
def NoSl(i:Expr):Prop:=∀ ov iv,subscripted i false ov iv=operate [ov,iv] (getItem ov iv)
theorem subD_of{prog:Program}{w:World}{A:Around}{E:Value->Shared->Prop}{s:Shared}{env:Env}{value slice:Expr}{pos:Pos}{T id:String}{Q:Value->Shared->Prop}
  (hl:typeLookup (.type T) "__getitem__"=pure (some (.builtin id))) (hs:NoSl slice)
  (h:wpAny (model prog w) A (eval value env) (fun o s₁=>wpAny (model prog w) A (eval slice env) (fun i s₂=>s₂.TypeIs o T∧wpAny (model prog w) A (getItem o i) Q E s₂) E s₁) E s) :
  wpAny (model prog w) A (eval (.Subscript value slice pos) env) Q E s:=by
 refine Subscript_ (wpAny_mono h (fun o s₁ h₁=>wpAny_mono h₁ (fun i s₂ h₂=>?_) fun _ _ x=>x) fun _ _ x=>x)
 obtain ⟨hT,h₂⟩:=h₂
 unfold subscriptTail
 refine wpAny_bind ?_
 rw [getitemInPython_of_ne hT.not_modules]
 refine wpAny_bind (wpAny_specialOf hT hl ?_)
 have fin:wpAny (model prog w) A (subscripted slice false o i) (fun r s₃=>wpAny (model prog w) A (letTemporaryGo value o r >>= fun _=>pure r) Q E s₃) E s₂:=by
  rw [hs o i]
  exact wpAny_operating (wpAny_mono h₂ (fun r s₃ h₃=>wpAny_bind (wpAny_letTemporaryGo (wpAny_pure h₃))) fun _ _ x=>x)
 first
  | exact wpAny_pure (wpAny_bind fin)
  | exact wpAny_bind (wpAny_pure (wpAny_bind fin))
  | exact wpAny_bind fin
theorem dict_typeIs{X:Cx}{pins:List (Addr×Obj)}{σ:St}{H:Hp}{s:Shared}{a:Addr}{y:V}{o:Option V}(I:Inv X pins σ H s)(g:DGet H a y o):s.TypeIs (.ref a) "dict":=by
 rcases g with ⟨kvs,k,e,_,_⟩ | ⟨kvs,k,b,e,_,_,_⟩
 ·obtain ⟨_,_,vs,_,dd⟩:=dk_rd I.hok e
  exact dd.typeIs
 ·obtain ⟨_,_,xs,_,dd⟩:=dt_rd I.hok e
  exact dd.typeIs
def tDGet(td ty:TE):TE:=fun σ H Q=>td σ H fun x H1=>ty σ H1 fun y H2=>∃ a v,x=.ref a∧DGet H2 a y (some v)∧Q v H2
def tDIn(ty td:TE):TE:=fun σ H Q=>ty σ H fun y H1=>td σ H1 fun x H2=>∃ a o,x=.ref a∧DGet H2 a y o∧Q (.bl o.isSome) H2
def tDNotIn(ty td:TE):TE:=fun σ H Q=>ty σ H fun y H1=>td σ H1 fun x H2=>∃ a o,x=.ref a∧DGet H2 a y o∧Q (.bl (!o.isSome)) H2
def sDPut(td ty tv:TE):TS:=fun D σ H=>tv σ H fun v H1=>td σ H1 fun x H2=>ty σ H2 fun y H3=>∃ a H4,x=.ref a∧DPut H3 a y v H4∧D.nx σ H4
section
variable {X:Cx} {o i e value:Expr} {pos pos' tpos:Pos} {td ty tv:TE}
theorem pe_dget(hu:X.A.units+1 < cLine)(ho:PE X o td)(hi:PE X i ty)(hs:NoSl i):PE X (.Subscript o i pos) (tDGet td ty):=by
 intro pins s σ H Q I h
 refine subD_of PySem.F.slot_dict_getitem.lookup hs (thn (ho pins s σ H _ I h) fun u s1 ⟨x,H1,I1,rx,q1⟩=>thn (hi pins s1 σ H1 _ I1 q1) fun iv s2 ⟨y,H2,I2,ry,a,v,ex,g,q2⟩=>?_)
 subst ex
 obtain rfl:u=Value.ref a:=rx
 exact ⟨dict_typeIs I2 g,d_getItem hu I2 g ry fun w' s3 I3 rw'=>⟨v,H2,I3,rw',q2⟩⟩
theorem pc_din(hu:X.A.units+1 < cLine)(hi:PE X i ty)(ho:PE X o td):PC X .In i o (tDIn ty td):=by
 intro pins s σ H Q I h
 refine thn (hi pins s σ H _ I h) fun iv s1 ⟨y,H1,I1,ry,q1⟩=>thn (ho pins s1 σ H1 _ I1 q1) fun u s2 ⟨x,H2,I2,rx,a,ov,ex,g,q2⟩=>?_
 subst ex
 obtain rfl:u=Value.ref a:=rx
 exact d_in hu I2 g ry fun s3 I3=>⟨.bl ov.isSome,H2,I3,rfl,q2⟩
theorem pc_dnotin(hu:X.A.units+1 < cLine)(hi:PE X i ty)(ho:PE X o td):PC X .NotIn i o (tDNotIn ty td):=by
 intro pins s σ H Q I h
 refine thn (hi pins s σ H _ I h) fun iv s1 ⟨y,H1,I1,ry,q1⟩=>thn (ho pins s1 σ H1 _ I1 q1) fun u s2 ⟨x,H2,I2,rx,a,ov,ex,g,q2⟩=>?_
 subst ex
 obtain rfl:u=Value.ref a:=rx
 exact d_notIn hu I2 g ry fun s3 I3=>⟨.bl (!ov.isSome),H2,I3,rfl,q2⟩
theorem ps_dput(hu:X.A.units+1 < cLine)(ho:PE X o td)(hi:PE X i ty)(hv:PE X value tv)(hs:swapsWith value (some (.Subscript o i pos')) pos.line X.env=pure false) :
  PS X (.Assign [.Subscript o i pos'] value pos) (sDPut td ty tv):=by
 intro pins s σ H D I h
 refine wpAny_Assign_Subscript (thn (hv pins s σ H _ I h) fun r s1 ⟨v,H1,I1,rv,q1⟩=>thn (ho pins s1 σ H1 _ I1 q1) fun u s2 ⟨x,H2,I2,rx,q2⟩=>thn (hi pins s2 σ H2 _ I2 q2) fun iv s3 ⟨y,H3,I3,ry,a,H4,ex,g,q3⟩=>?_) hs
 subst ex
 obtain rfl:u=Value.ref a:=rx
 exact d_setItem hu I3 g ry rv fun s4 I4=>⟨σ,H4,I4,q3⟩
end
theorem dk_empty{P:Program}{w:World}{H:Hp}(h:Heap)(hb:sysModules < h.objs.size):ObjOk P w H (h.push { cls:=.type "dict",data:=.dict #[] }) h.objs.size (.dK []) :=
 ⟨Nat.zero_le _,beq_eq_false_iff_ne.mpr (Ne.symm (Nat.ne_of_lt hb)),[],.nil,Heap.DictOf.new h⟩
theorem dt_empty{P:Program}{w:World}{H:Hp}(h:Heap)(hb:sysModules < h.objs.size):ObjOk P w H (h.push { cls:=.type "dict",data:=.dict #[] }) h.objs.size (.dT []) :=
 ⟨Nat.zero_le _,beq_eq_false_iff_ne.mpr (Ne.symm (Nat.ne_of_lt hb)),[],.nil,_,#[],0,Heap.get?_push_size _ rfl,⟨rfl,rfl,rfl⟩,rfl,rfl,List.nodup_nil⟩
def tDNewK:TE:=fun _ H Q=>∀ p,H p=none->Q (.ref p) (upd H p (.dK []))
def tDNewT:TE:=fun _ H Q=>∀ p,H p=none->Q (.ref p) (upd H p (.dT []))
section
variable {X:Cx} {pos:Pos}
theorem pe_dnewK:PE X (.Dict [] [] pos) tDNewK:=fun pins s σ H Q I h =>
 wpAny_Dict_empty ⟨.ref s.heap.objs.size,_,I.laid (a:=s.heap.objs.size) (o:=.dK []) (t':=s.toks) (fun _ _ q=>Heap.get?_push_of_some _ q) (Nat.le_refl _) (dk_empty s.heap I.big),rfl,h _ (I.hok.fresh (Nat.le_refl _))⟩
theorem pe_dnewT:PE X (.Dict [] [] pos) tDNewT:=fun pins s σ H Q I h =>
 wpAny_Dict_empty ⟨.ref s.heap.objs.size,_,I.laid (a:=s.heap.objs.size) (o:=.dT []) (t':=s.toks) (fun _ _ q=>Heap.get?_push_of_some _ q) (Nat.le_refl _) (dt_empty s.heap I.big),rfl,h _ (I.hok.fresh (Nat.le_refl _))⟩
end
end L2
namespace L2
open PySem PySem.Spec PyProof.Rows
section
variable {X:Cx} {pins:List (Addr×Obj)} {σ:St} {H:Hp} {s:Shared} {h':Heap}
theorem Inv.turnedNew{t':Nat}{ch:List Addr}{T:Addr}{ob:HO}(I:Inv X pins σ H s)(k:∀ b o,b∉ch->s.heap.get? b=some o->h'.get? b=some o)(hf:∀ b∈ch,FpOk X pins H b)(hT:s.heap.objs.size≤T)
  (new:ObjOk X.prog X.w (upd H T ob) h' T ob):Inv X pins σ (upd H T ob) { s with heap:=h',toks:=t' }:=by
 have hn:H T=none:=I.hok.fresh hT
 have nit:∀ b u,H b=some u->b∉ch:=fun b u e z=>by
  have q:=(hf b z).1
  rw [q] at e; cases e
 refine I.step (g':=s.gens) (d':=s.drawn) (ch:=ch) (fun b hb=>⟨(hf b hb).2.2.2.1,(hf b hb).2.1,(hf b hb).2.2.2.2.1,(hf b hb).2.2.2.2.2⟩) (fun b o _ _ hc e _=>k b o hc e) (fun b o _ _ hc e _=>⟨o.slots,k b o hc e⟩)
  (fun b o _ e n=>?_) (fun b o hc e=>⟨o,k b o hc e⟩) (fun b xs e=>?_) (fun b o u e=>?_) (fun b ps e=>⟨#[],?_⟩) (fun m hm=>?_) (fun b u e=>?_) I.bare
 ·rw [upd_ne (Nat.ne_of_lt (Nat.lt_of_lt_of_le (Heap.lt_size e) hT))]; exact n
 ·rw [upd_ne (ne_of_none e hn)]; exact e
 ·rw [upd_ne (ne_of_none e hn)]; exact e
 ·rw [upd_ne (ne_of_none e hn),e]; simp
 ·obtain ⟨o,es,ep,ho,r⟩:=hm
  exact ⟨o,es,ep,k _ o (fun z=>(hf _ z).2.1 rfl) ho,r⟩
 ·by_cases hb:b=T
  ·subst hb
   rw [upd_same] at e
   cases e
   exact new
  ·rw [upd_ne hb] at e
   refine (I.hok b u e).stay (fun c v hc q=>k c v ?_ q) (fun c q=>by rw [upd_ne (ne_of_none q hn)]; exact q) fun c xs q=>by rw [upd_ne (ne_of_none q hn)]; exact q
   rcases hc with z | z
   ·rw [z]; exact nit b u e
   ·exact nit c _ z
theorem Inv.lock{d:Addr}{u:HO}(I:Inv X pins σ H s)(h:H d=some u)(mu:Mut (some u)):∃ od,Inv X pins σ (upd H d (.frz od u)) s:=by
 have x:=I.hok d u h
 have ex:∃ od,s.heap.get? d=some od:=by
  cases u with
  | lst xs=>obtain ⟨_,_,_,_,e⟩:=x; exact ⟨_,e⟩
  | dK kvs=>obtain ⟨_,_,_,_,o,_,_,e,_⟩:=x; exact ⟨o,e⟩
  | dT kvs=>obtain ⟨_,_,_,_,o,_,_,e,_⟩:=x; exact ⟨o,e⟩
  | set S n=>obtain ⟨o,_,_,_,e,_⟩:=x; exact ⟨o,e⟩
  | ins C dx fs=>obtain ⟨_,_,_,e,_⟩:=x; exact ⟨_,e⟩
  | ext φ=>obtain ⟨_,⟨_,e⟩,_⟩:=x; exact ⟨_,e⟩
  | _=>exact False.elim mu
 obtain ⟨od,e⟩:=ex
 have new:ObjOk X.prog X.w (upd H d (.frz od u)) s.heap d (.frz od u):=by
  refine ⟨e,x.stay (fun b v _ q=>q) (fun b q=>?_) fun b xs q=>?_⟩
  ·rw [upd_ne (fun z=>by rw [z,h] at q; cases q; exact mu)]; exact q
  ·rw [upd_ne (fun z=>by rw [z,h] at q; cases q; exact mu)]; exact q
 exact ⟨od,I.write (x:=d) (e:=d) (t':=s.toks) (h':=s.heap) (by rw [h]; exact mu) (.inl rfl) (fun b v _ q=>q) ⟨od,e⟩ new⟩
theorem Inv.nofrz{d:Addr}{u:HO}(I:Inv X pins σ H s)(h:H d=some u)(mu:Mut (some u)):∀ o' u',X.H_0 d≠some (.frz o' u'):=fun o' u' e=>by
 have q:=I.base.frzs d o' u' e
 rw [h] at q
 cases q
 exact mu
theorem Inv.unlock{d:Addr}{od:Obj}{u:HO}(I:Inv X pins σ H s)(h:H d=some (.frz od u))(hn:∀ o' u',X.H_0 d≠some (.frz o' u')):Inv X pins σ (upd H d u) s:=by
 have neH:∀ b o,H b=some o->(∀ o' u',o≠.frz o' u')->b≠d:=fun b o e hne z=>by
  rw [z,h] at e
  cases e
  exact hne _ _ rfl
 have neN:∀ b,H b=none->b≠d:=fun b e z=>by rw [z,h] at e; cases e
 refine ⟨I.ok,I.os,I.bare,⟨I.base.keep,I.base.slot,fun b o e n hx=>?_,I.base.there,fun b xs e=>?_,fun b o x e=>?_,fun b ps e=>?_⟩,I.loc,I.cell,?_,fun x c e=>?_,fun p hp=>?_,fun b o e=>?_,I.len⟩
 ·rw [upd_ne (neN b (I.base.free b o e n hx))]; exact I.base.free b o e n hx
 ·have q:=I.base.tups b xs e
  rw [upd_ne (neH b _ q (fun _ _ z=>nomatch z))]; exact q
 ·have q:=I.base.frzs b o x e
  rw [upd_ne (fun z=>by rw [z] at e; exact hn _ _ e)]; exact q
 ·obtain ⟨m,q⟩:=I.base.tbls b ps e
  exact ⟨m,by rw [upd_ne (neH b _ q (fun _ _ z=>nomatch z))]; exact q⟩
 ·rw [upd_ne (neN _ I.free)]; exact I.free
 ·rw [upd_ne (neN c (I.freeC x c e))]; exact I.freeC x c e
 ·obtain ⟨e,n,r⟩:=I.pin p hp
  exact ⟨e,by rw [upd_ne (neN _ n)]; exact n,r⟩
 ·by_cases hb:b=d
  ·rw [hb,upd_same] at e
   cases e
   rw [hb]
   obtain ⟨_,x⟩:=I.hok d _ h
   exact x.stay (fun c v _ q=>q) (fun c q=>by rw [upd_ne (neH c _ q (fun _ _ z=>nomatch z))]; exact q) fun c xs q=>by rw [upd_ne (neH c _ q (fun _ _ z=>nomatch z))]; exact q
  ·rw [upd_ne hb] at e
   exact (I.hok b o e).stay (fun c v _ q=>q) (fun c q=>by rw [upd_ne (neH c _ q (fun _ _ z=>nomatch z))]; exact q) fun c xs q=>by rw [upd_ne (neH c _ q (fun _ _ z=>nomatch z))]; exact q
end
def tLock(t:TS):TS:=fun D σ H=>∃ d u,H d=some u∧Mut (some u)∧∀ od,t ⟨fun σ' H'=>H' d=some (.frz od u)∧D.nx σ' (upd H' d u),fun v H'=>H' d=some (.frz od u)∧D.rt v (upd H' d u),fun σ' H'=>H' d=some (.frz od u)∧D.bk σ' (upd H' d u),fun σ' H'=>H' d=some (.frz od u)∧D.ct σ' (upd H' d u)⟩ σ (upd H d (.frz od u))
section
variable {X:Cx}
theorem ps_lock{st:Stmt}{t:TS}(h:PS X st t):PS X st (tLock t):=by
 intro pins s σ H D I hw
 obtain ⟨d,u,hd,mu,hw⟩:=hw
 obtain ⟨od,I1⟩:=I.lock hd mu
 refine thn (h pins s σ _ _ I1 (hw od)) fun f s1 q=>?_
 cases f with
 | next=>obtain ⟨σ',H',I2,e,q⟩:=q; exact ⟨σ',_,I2.unlock e (I.nofrz hd mu),q⟩
 | brk=>obtain ⟨σ',H',I2,e,q⟩:=q; exact ⟨σ',_,I2.unlock e (I.nofrz hd mu),q⟩
 | cont=>obtain ⟨σ',H',I2,e,q⟩:=q; exact ⟨σ',_,I2.unlock e (I.nofrz hd mu),q⟩
 | ret v=>obtain ⟨x,σ',H',I2,r,e,q⟩:=q; exact ⟨x,σ',_,I2.unlock e (I.nofrz hd mu),r,q⟩
theorem pi_one{tg:Expr}{pins:List (Addr×Obj)}{σ:St}{H:Hp}{s:Shared}{R:It->Hp->Prop}{J:It}{tn:Nat->Heap->Prop}{tk:Nat}(I:Inv X pins σ H s)(o:Obj)
  (T:Turn X.prog X.w X.K tg J [s.heap.objs.size] s.heap.objs.size tn) (st:tn 0 (s.heap.push o)) (q:R J H):PIE X pins σ tg R (.ref s.heap.objs.size) { s with heap:=s.heap.push o,toks:=tk }:=by
 refine ⟨s.heap.objs.size,[s.heap.objs.size],tn,J,H,rfl,I.kept fun b ob e=>Heap.get?_push_of_some _ e,T,st,fun b hb=>?_,q⟩
 have e:b=s.heap.objs.size:=by simpa using hb
 subst e
 exact I.fpOk (Nat.le_refl _) (I.hok.fresh (Nat.le_refl _))
end
def Its(x:Str):It:=⟨fun i _=>i < x.cps.size,fun i H v H'=>H'=H∧∃ c,x.cps[i]?=some c∧v=.str ⟨#[c]⟩,fun i _=>x.cps.size≤i⟩
theorem turn_str{P:Program}{w:World}{K:PySem.W.Frag}{tg:Expr}(it:Addr)(x:Str)(t:Tok)(ty:String)(hty:ty="str_ascii_iterator"∨ty="str_iterator") :
  Turn P w K tg (Its x) [it] it (fun i h=>h.IsStrIter it ty x t i) where
 mem:=by simp
 obj:=fun i h st b hb=>by
  have e:b=it:=by simpa using hb
  subst e
  obtain ⟨o,e,c,d⟩:=st
  exact ⟨o,e,fun v z=>by rw [d] at z; cases z⟩
 keep:=fun i h h' st k=>let ⟨o,ho,r⟩:=st; ⟨o,k it (by simp) o ho,r⟩
 item:=by
  intro X hP hw hK hc i pins s σ H E I hf st hg
  subst hP hw hK
  obtain ⟨f0,f1,f2,f3,f4,f5⟩:=hf it (by simp)
  have W:Walks X.prog X.w X.A it [it] [it] x.cps.size (SignAt x) (fun i h=>h.IsStrIter it ty x t i):=by
   rcases hty with e | e
   ·rw [e]; exact Walks.strAscii (I.ok.hd hc) it x t
   ·rw [e]; exact Walks.strWide (I.ok.hd hc) it x t
  have hno:["enumerate","zip","dict_itemiterator","dict_reverseitemiterator","odict_iterator","itertools.zip_longest","itertools.pairwise"].contains ty=false:=by
   rcases hty with e | e
   ·rw [e]; decide
   ·rw [e]; decide
  refine W.item i s _ _ hg st fun v h' tk hv st' kk=>?_
  obtain ⟨c,u,hcx,rfl⟩:=hv
  have I1:Inv X pins σ H { s with heap:=h',toks:=tk }:=I.turned (fun b o hb e=>kk b o (by simpa using hb) e) f0 f1 f3 f4 f5
  obtain ⟨oi,e,cc,dd⟩:=id st'
  exact ⟨_,rfl,go_of (s:={ s with heap:=h',toks:=tk }) e cc dd hno ⟨.str ⟨#[c]⟩,H,I1,⟨u,rfl⟩,⟨rfl,c,hcx,rfl⟩,st',fun b hb=>(hf b hb).1⟩⟩
 done:=by
  intro X hP hw hK hc i pins s σ H E I hf st hg
  subst hP hw hK
  obtain ⟨f0,f1,f2,f3,f4,f5⟩:=hf it (by simp)
  have hx:x.cps[i]?=none:=Array.getElem?_eq_none hg
  rcases hty with e | e
  ·rw [e] at st
   exact wpAny_pyNext_ascii_end (I.ok.hd hc) st hx fun h' eb=>⟨rfl,I.turned (t':=s.toks) (fun b o hb e=>eb b o hb e) f0 f1 f3 f4 f5⟩
  ·rw [e] at st
   exact wpAny_pyNext_wide_end (I.ok.hd hc) st hx fun h' eb=>⟨rfl,I.turned (t':=s.toks) (fun b o hb e=>eb b o hb e) f0 f1 f3 f4 f5⟩
 self:=fun A i s Q E st h=>by
  rcases hty with e | e
  ·rw [e] at st; exact wpAny_pyIter_striter_ascii st h
  ·rw [e] at st; exact wpAny_pyIter_striter_wide st h
def iStr(te:TE):TI:=fun σ H R=>te σ H fun v H1=>∃ x,v=.str x∧R (Its x) H1
theorem pi_str{X:Cx}{tg e:Expr}{te:TE}(he:PE X e te):PI X tg e (iStr te):=by
 intro pins s σ H R I h
 refine thn (he pins s σ H _ I h) fun v s1 ⟨y,H1,I1,r1,x,ex,q⟩=>?_
 subst ex
 obtain ⟨t,rfl⟩:=r1
 cases ha:x.cps.all (· < 128)
 ·exact wpAny_pyIter_wide ha (pi_one (tk:=s1.toks) I1 _ (turn_str _ x t "str_iterator" (.inr rfl)) ⟨_,Heap.get?_push_size _ rfl,rfl,rfl⟩ q)
 ·exact wpAny_pyIter_ascii ha (pi_one (tk:=s1.toks) I1 _ (turn_str _ x t "str_ascii_iterator" (.inl rfl)) ⟨_,Heap.get?_push_size _ rfl,rfl,rfl⟩ q)
theorem kv_get{κ:Type}{kvs:List (κ×V)}{vs:List (κ×Value)}(h:KV kvs vs):∀ {i:Nat} {k:κ} {v:V},kvs[i]?=some (k,v)->∃ u,vs[i]?=some (k,u)∧RelV v u:=by
 unfold KV at h
 induction h with
 | nil=>intro i k v e; simp at e
 | @cons a b l₁ l₂ r t ih =>
  intro i k v e
  cases i with
  | zero =>
   simp only [List.getElem?_cons_zero,Option.some.injEq] at e
   subst e
   refine ⟨b.2,?_,r.2⟩
   simp only [List.getElem?_cons_zero]
   exact congrArg some (Prod.ext r.1.symm rfl)
  | succ j =>
   simp only [List.getElem?_cons_succ] at e ⊢
   exact ih e
theorem relV_key{k:Key}{u:Value}(h:keyIs k u=true):RelV (kV k) u:=by
 rcases keyIs_shape h with ⟨i,t,rfl,rfl⟩ | ⟨x,t,rfl,rfl⟩
 ·exact ⟨t,rfl⟩
 ·exact ⟨t,rfl⟩
section
variable {X:Cx} {pins:List (Addr×Obj)} {σ:St} {H:Hp} {s:Shared} {d:Addr} {o:Obj}
theorem Inv.frzK{kvs:List (Key×V)}(I:Inv X pins σ H s)(h:H d=some (.frz o (.dK kvs))) :
  (d==sysModules)=false∧s.heap.get? d=some o∧o.ExactDict∧∃ (es:Array DictEntry) (ep:Nat) (vs:List (Key×Value)),o.data=.dict es ep∧es.size=kvs.length∧KV kvs vs∧s.heap.DictAt (mixKind X.prog X.w) d vs ep:=by
 obtain ⟨hd,z,hs,vs,kv,o',es,ep,ho,hx,hdt,r⟩:=I.hok d _ h
 rw [hd] at ho
 cases ho
 refine ⟨hs,hd,hx,es,ep,vs,hdt,?_,kv,o,es,hd,hx,hdt,r⟩
 have l1:=r.2.1.length
 have l2:kvs.length=vs.length:=Paired.length kv
 rw [Array.length_toList] at l1
 omega
end
def Itd(d:Addr)(o:Obj)(kvs:List (Key×V)):It :=
 ⟨fun i H=>H d=some (.frz o (.dK kvs))∧i < kvs.length,fun i H x H'=>H'=H∧∃ k,kvs[i]?=some (k,x),fun i H=>H d=some (.frz o (.dK kvs))∧kvs.length≤i⟩
def Iti(d:Addr)(o:Obj)(kvs:List (Key×V)):It :=
 ⟨fun i H=>H d=some (.frz o (.dK kvs))∧i < kvs.length,fun i H x H'=>∃ T k v,kvs[i]?=some (k,v)∧x=.ref T∧H T=none∧H'=upd H T (.tup [kV k,v]),fun i H=>H d=some (.frz o (.dK kvs))∧kvs.length≤i⟩
theorem dict_ep{o:Obj}{es es':Array DictEntry}{ep ep':Nat}(h:o.data=.dict es ep)(h':o.data=.dict es' ep'):es'=es∧ep'=ep:=by
 rw [h] at h'
 cases h'
 exact ⟨rfl,rfl⟩
section
variable {P:Program} {w:World} {K:PySem.W.Frag} {tg:Expr} {d:Addr} {o:Obj} {es:Array DictEntry} {ep:Nat}
theorem turn_vals{kvs:List (Key×V)}(it:Addr)(hod:o.data=.dict es ep):Turn P w K tg (Itd d o kvs) [it] it (fun i h=>h.IsValIter it d i kvs.length ep) where
 mem:=by simp
 obj:=fun i h st b hb=>by
  have e:b=it:=by simpa using hb
  subst e
  obtain ⟨oi,e,c,dd⟩:=st
  exact ⟨oi,e,fun v z=>by rw [dd] at z; cases z⟩
 keep:=fun i h h' st k=>st.at fun oi e=>k it (by simp) oi e
 item:=by
  intro X hP hw hK hc i pins s σ H E I hf st hg
  subst hP hw hK
  obtain ⟨hd,hi⟩:=hg
  obtain ⟨f0,f1,f2,f3,f4,f5⟩:=hf it (by simp)
  obtain ⟨hs,hgd,hx,es',ep',vs,hdt,hsz,kv,hm⟩:=I.frzK hd
  obtain ⟨rfl,rfl⟩:=dict_ep hod hdt
  obtain ⟨⟨k,v⟩,hkv⟩:∃ p,kvs[i]?=some p:=⟨kvs[i],List.getElem?_eq_getElem hi⟩
  obtain ⟨u,hu,ru⟩:=kv_get kv hkv
  have hl:kvs.length=vs.length:=Paired.length kv
  rw [hl] at st
  refine wpAny_pyNext_values_item st hm hu fun h' st' sb=>?_
  have I1:Inv X pins σ H { s with heap:=h' }:=I.turned (t':=s.toks) (fun b ob hb e=>(sb.2 b hb).trans e) f0 f1 f3 f4 f5
  obtain ⟨oi,e,c,dd⟩:=id st'
  refine ⟨u,rfl,go_of (s:={ s with heap:=h' }) e c dd (by decide) ⟨v,H,I1,ru,⟨rfl,k,hkv⟩,?_,fun b hb=>(hf b hb).1⟩⟩
  show h'.IsValIter it d (i+1) kvs.length _
  rw [hl]
  exact st'
 done:=by
  intro X hP hw hK hc i pins s σ H E I hf st hg
  subst hP hw hK
  obtain ⟨hd,hi⟩:=hg
  obtain ⟨f0,f1,f2,f3,f4,f5⟩:=hf it (by simp)
  obtain ⟨hs,hgd,hx,es',ep',vs,hdt,hsz,kv,hm⟩:=I.frzK hd
  obtain ⟨rfl,rfl⟩:=dict_ep hod hdt
  have hl:kvs.length=vs.length:=Paired.length kv
  rw [hl] at st
  exact wpAny_pyNext_values_end (I.ok.hd hc) st hm (List.getElem?_eq_none (by omega)) fun h' eb=>⟨rfl,I.turned (t':=s.toks) (fun b ob hb e=>eb b ob hb e) f0 f1 f3 f4 f5⟩
 self:=fun A i s Q E st h=>wpAny_pyIter_valiter st h
theorem turn_items{kvs:List (Key×V)}{elts:List Expr}{kk:Nat}{tpos:Pos}(it:Addr)(hod:o.data=.dict es ep) :
  Turn P w K (.Tuple elts kk tpos) (Iti d o kvs) [it] it (fun i h=>∃ ok ov,IsItemIter h it d i kvs.length ep ok ov) where
 mem:=by simp
 obj:=fun i h st b hb=>by
  have e:b=it:=by simpa using hb
  subst e
  obtain ⟨ok,ov,e⟩:=st
  exact ⟨_,e,fun v z=>nomatch z⟩
 keep:=fun i h h' st k=>let ⟨ok,ov,e⟩:=st; ⟨ok,ov,k it (by simp) _ e⟩
 item:=by
  intro X hP hw hK hc i pins s σ H E I hf st hg
  subst hP hw hK
  obtain ⟨hd,hi⟩:=hg
  obtain ⟨hs,hgd,hx,es',ep',vs,hdt,hsz,kv,hm⟩:=I.frzK hd
  obtain ⟨rfl,rfl⟩:=dict_ep hod hdt
  obtain ⟨⟨k,v⟩,hkv⟩:∃ p,kvs[i]?=some p:=⟨kvs[i],List.getElem?_eq_getElem hi⟩
  obtain ⟨u,hu,ru⟩:=kv_get kv hkv
  have hl:kvs.length=vs.length:=Paired.length kv
  obtain ⟨ok,ov,he⟩:=st
  rw [hl] at he
  have hlt:it < s.heap.objs.size:=Heap.lt_size he
  refine wpAny_pyNext_items_item he hm hu fun key h' hkey ho hT hz hk=>?_
  refine ⟨_,rfl,wpAny_letOwnedTupleGo_items (s:={ s with heap:=h' }) ho fun h'' he' sb=>?_⟩
  have hT2:h''.get? s.heap.objs.size=some { cls:=.type "tuple",data:=.seq #[key,u] }:=(sb.2 _ (Nat.ne_of_gt hlt)).trans hT
  have new:ObjOk X.prog X.w (upd H s.heap.objs.size (.tup [kV k,v])) h'' s.heap.objs.size (.tup [kV k,v]) :=
   ⟨by show 2≤sizeLine; decide,[key,u],.cons (relV_key (show keyIs k key=true from hkey)) (.cons ru .nil),⟨_,hT2,rfl,_,rfl⟩⟩
  have I1:Inv X pins σ (upd H s.heap.objs.size (.tup [kV k,v])) { s with heap:=h'' } :=
   I.turnedNew (t':=s.toks) (ch:=[it]) (fun b ob hb e=>(sb.2 b (by simpa using hb)).trans (hk b ob (by simpa using hb) e)) hf (Nat.le_refl _) new
  refine ⟨.ref s.heap.objs.size,_,I1,rfl,⟨_,k,v,hkv,rfl,I.hok.fresh (Nat.le_refl _),rfl⟩,⟨key,u,?_⟩,fun b hb=>?_⟩
  ·rw [hl]; exact he'
  ·have e:b=it:=by simpa using hb
   rw [e,upd_ne (Nat.ne_of_lt hlt)]
   exact (hf it (by simp)).1
 done:=by
  intro X hP hw hK hc i pins s σ H E I hf st hg
  subst hP hw hK
  obtain ⟨hd,hi⟩:=hg
  obtain ⟨f0,f1,f2,f3,f4,f5⟩:=hf it (by simp)
  obtain ⟨hs,hgd,hx,es',ep',vs,hdt,hsz,kv,hm⟩:=I.frzK hd
  obtain ⟨rfl,rfl⟩:=dict_ep hod hdt
  have hl:kvs.length=vs.length:=Paired.length kv
  obtain ⟨ok,ov,he⟩:=st
  rw [hl] at he
  exact wpAny_pyNext_items_end (I.ok.hd hc) he hm (List.getElem?_eq_none (by omega)) fun h' eb=>⟨rfl,I.turned (t':=s.toks) (fun b ob hb e=>eb b ob hb e) f0 f1 f3 f4 f5⟩
 self:=fun A i s Q E st h=>let ⟨_,_,e⟩:=st; PySem.W.kcp_self e h
end
def iVals(td:TE):TI:=fun σ H R=>td σ H fun x H1=>∃ d o kvs,x=.ref d∧H1 d=some (.frz o (.dK kvs))∧R (Itd d o kvs) H1
def iItems(td:TE):TI:=fun σ H R=>td σ H fun x H1=>∃ d o kvs,x=.ref d∧H1 d=some (.frz o (.dK kvs))∧R (Iti d o kvs) H1
section
variable {X:Cx} {tg e:Expr} {td:TE} {apos cpos:Pos}
theorem pi_values(he:PE X e td)(hbase:attributeBase e "values" X.env (eval e X.env)=eval e X.env:=by rfl)(hline:(apos.endLine==cpos.line)=true:=by rfl):PI X tg (.Call (.Attribute e "values" apos) [] [] cpos) (iVals td):=by
 intro pins s σ H R I h
 refine wpAny_Call_method (T:="dict") (id:="dict.values") hbase rfl hline F.plainAttrs_dict F.slot_dict_values F.type_dict_values (thn (he pins s σ H _ I h) fun u s1 ⟨x,H1,I1,rx,d,o,kvs,ex,hd,q⟩=>?_)
 subst ex
 obtain rfl:u=Value.ref d:=rx
 obtain ⟨hs,hgd,hx,es,ep,vs,hdt,hsz,kv,hm⟩:=I1.frzK hd
 have hl:kvs.length=vs.length:=Paired.length kv
 refine ⟨hm.dictOf.typeIs,hm.dictOf.mapOf.noDict,?_⟩
 have I2:Inv X pins σ H1 { s1 with heap:=s1.heap.push { cls:=.type "dict_values",data:=.fields #[.ref d] } }:=I1.kept (t':=s1.toks) fun b ob q=>Heap.get?_push_of_some _ q
 have fin:wpAny (model X.prog X.w) X.A (pyIter (.ref s1.heap.objs.size)) (PIE X pins σ tg R) X.xe { s1 with heap:=s1.heap.push { cls:=.type "dict_values",data:=.fields #[.ref d] } }:=by
  refine wpAny_pyIter_values (d:=d) (knd:=mixKind X.prog X.w) ⟨_,Heap.get?_push_size _ rfl,rfl,rfl⟩ (hm.push _) (pi_one (tk:=s1.toks) I2 _ (turn_vals _ hdt) ⟨_,Heap.get?_push_size _ rfl,rfl,?_⟩ q)
  rw [hl]<;>rfl
 show wpAny _ _ (callWith cpos (.builtin "dict.values") [.ref d] [] []) _ X.xe s1
 exact method_meetsIn F.slot_dict_values F.entry_dict_values rfl (PySem.evalArgs_none ⟨rfl,hm.dictOf.typeIs,F.args_dict_values_1 _,_,meets_dict_values (mixKind X.prog X.w) d hs,⟨vs,hm.dictOf⟩,fin⟩)
theorem pi_items{elts:List Expr}{kk:Nat}{tpos:Pos}(he:PE X e td)(hbase:attributeBase e "items" X.env (eval e X.env)=eval e X.env:=by rfl)(hline:(apos.endLine==cpos.line)=true:=by rfl) :
  PI X (.Tuple elts kk tpos) (.Call (.Attribute e "items" apos) [] [] cpos) (iItems td):=by
 intro pins s σ H R I h
 refine wpAny_Call_method (T:="dict") (id:="dict.items") hbase rfl hline F.plainAttrs_dict F.slot_dict_items F.type_dict_items (thn (he pins s σ H _ I h) fun u s1 ⟨x,H1,I1,rx,d,o,kvs,ex,hd,q⟩=>?_)
 subst ex
 obtain rfl:u=Value.ref d:=rx
 obtain ⟨hs,hgd,hx,es,ep,vs,hdt,hsz,kv,hm⟩:=I1.frzK hd
 have hl:kvs.length=vs.length:=Paired.length kv
 refine ⟨hm.dictOf.typeIs,hm.dictOf.mapOf.noDict,?_⟩
 have I2:Inv X pins σ H1 { s1 with heap:=s1.heap.push { cls:=.type "dict_items",data:=.fields #[.ref d] } }:=I1.kept (t':=s1.toks) fun b ob q=>Heap.get?_push_of_some _ q
 have fin:wpAny (model X.prog X.w) X.A (pyIter (.ref s1.heap.objs.size)) (PIE X pins σ (.Tuple elts kk tpos) R) X.xe { s1 with heap:=s1.heap.push { cls:=.type "dict_items",data:=.fields #[.ref d] } }:=by
  refine wpAny_pyIter_items (d:=d) (knd:=mixKind X.prog X.w) ⟨_,Heap.get?_push_size _ rfl,rfl,rfl⟩ (hm.push _) (pi_one (tk:=s1.toks) I2 _ (turn_items _ hdt) ⟨.none,.none,?_⟩ q)
  rw [hl]
  exact Heap.get?_push_size _ rfl
 show wpAny _ _ (callWith cpos (.builtin "dict.items") [.ref d] [] []) _ X.xe s1
 exact method_meetsIn F.slot_dict_items F.entry_dict_items rfl (PySem.evalArgs_none ⟨rfl,hm.dictOf.typeIs,F.args_dict_items_1 _,_,meets_dict_items (mixKind X.prog X.w) d hs,⟨vs,hm.dictOf⟩,fin⟩)
end
def Ite(K:PySem.W.Frag)(a:Addr):It :=
 ⟨fun i H=>∃ (xs:List V) (x:V),SqL K H a xs∧xs[i]?=some x,fun i H v H'=>∃ T x,v=.ref T∧H T=none∧H'=upd H T (.tup [.int (i:Nat),x])∧∀ xs,SqL K H a xs->xs[i]?=some x,fun i H=>∃ xs:List V,SqL K H a xs∧xs.length≤i⟩
theorem turn_enum{P:Program}{w:World}{K:PySem.W.Frag}{elts:List Expr}{kk:Nat}{tpos:Pos}(a e it:Addr) :
  Turn P w K (.Tuple elts kk tpos) (Ite K a) [e,it] e (fun i h=>(∃ old,IsEnum h e it ((i:Nat):Int) old)∧h.IsListIter it a i∧e≠it) where
 mem:=by simp
 obj:=fun i h st b hb=>by
  obtain ⟨⟨old,he⟩,⟨o,ho,hc,hd⟩,_⟩:=st
  have e':b=e∨b=it:=by simpa using hb
  rcases e' with z | z
  ·rw [z]; exact ⟨_,he,fun v q=>nomatch q⟩
  ·rw [z]; exact ⟨o,ho,fun v q=>by rw [hd] at q; cases q⟩
 keep:=fun i h h' st k=>let ⟨⟨old,he⟩,hi,hne⟩:=st; ⟨⟨old,k e (by simp) _ he⟩,hi.at fun o q=>k it (by simp) o q,hne⟩
 item:=by
  intro X hP hw hK hc i pins s σ H E I hf st hg
  subst hP hw hK
  obtain ⟨⟨old,he⟩,hit,hne⟩:=st
  obtain ⟨xs,x,hq,hx⟩:=hg
  obtain ⟨its,rv,p,hz⟩:=I.list hq
  obtain ⟨u,hu,ru⟩:=rv.get hx
  have hel:e < s.heap.objs.size:=Heap.lt_size he
  have hil:it < s.heap.objs.size:=by obtain ⟨_,q,_⟩:=hit; exact Heap.lt_size q
  refine wpAny_pyNext_enum_item he hit p.isList (x:=u) (by simpa using hu) hne fun h' ho hit' hT hsz hk=>?_
  refine ⟨_,rfl,wpAny_letOwnedTupleGo_enum (s:={ s with heap:=h',toks:=s.toks+1 }) ho fun h'' he' sb=>?_⟩
  have hT2:h''.get? s.heap.objs.size=some { cls:=.type "tuple",data:=.seq #[.int i s.toks,u] }:=(sb.2 _ (Nat.ne_of_gt hel)).trans hT
  have new:ObjOk X.prog X.w (upd H s.heap.objs.size (.tup [.int (i:Nat),x])) h'' s.heap.objs.size (.tup [.int (i:Nat),x]) :=
   ⟨by show 2≤sizeLine; decide,[.int i s.toks,u],.cons ⟨_,rfl⟩ (.cons ru .nil),⟨_,hT2,rfl,_,rfl⟩⟩
  have I1:Inv X pins σ (upd H s.heap.objs.size (.tup [.int (i:Nat),x])) { s with heap:=h'',toks:=s.toks+1 } :=
   I.turnedNew (ch:=[e,it]) (fun b ob hb q=>(sb.2 b (fun z=>hb (by simp [z]))).trans (hk b ob (fun z=>hb (by simp [z])) (fun z=>hb (by simp [z])) q)) hf (Nat.le_refl _) new
  refine ⟨.ref s.heap.objs.size,_,I1,rfl,⟨_,x,rfl,I.hok.fresh (Nat.le_refl _),rfl,fun ys hy=>by rw [I.list_inj hy hq]; exact hx⟩,⟨⟨u,?_⟩,hit'.at fun o q=>(sb.2 it (Ne.symm hne)).trans q,hne⟩,fun b hb=>?_⟩
  ·have e1:((i+1:Nat):Int)=(i:Int)+1:=by omega
   rw [e1]; exact he'
  ·have hb':b < s.heap.objs.size:=by
    have e':b=e∨b=it:=by simpa using hb
    rcases e' with z | z
    ·rw [z]; exact hel
    ·rw [z]; exact hil
   rw [upd_ne (Nat.ne_of_lt hb')]
   exact (hf b hb).1
 done:=by
  intro X hP hw hK hc i pins s σ H E I hf st hg
  subst hP hw hK
  obtain ⟨⟨old,he⟩,hit,hne⟩:=st
  obtain ⟨xs,hq,hx⟩:=hg
  obtain ⟨its,rv,p,hz⟩:=I.list hq
  obtain ⟨f0,f1,f2,f3,f4,f5⟩:=hf it (by simp)
  have hl:=rv.length
  exact wpAny_pyNext_enum_end (I.ok.hd hc) he hit p.isList (by simp; omega) fun h' eb=>⟨rfl,I.turned (t':=s.toks) (fun b o hb q=>eb b o hb q) f0 f1 f3 f4 f5⟩
 self:=fun A i s Q E st h=>let ⟨⟨_,he⟩,_⟩:=st; wpAny_pyIter_enum he h
def iEnum(K:PySem.W.Frag)(ta:TA):TI:=fun σ H R=>ta σ H fun vs H1=>∃ a xs,vs=[.ref a]∧SqL K H1 a xs∧R (Ite K a) H1
theorem pi_enum{X:Cx}{e:Expr}{ta:TA}{p pos tpos:Pos}{elts:List Expr}{kk:Nat}(hg:Gl X "enumerate")(hm:X.mg "enumerate"=none)(ha:PA X [e] ta)(hs:starEach [e] X.env=[(false,eval e X.env)]:=by rfl) :
  PI X (.Tuple elts kk tpos) (.Call (.Name "enumerate" p) [e] [] pos) (iEnum X.K ta):=by
 intro pins s σ H R I h
 refine Call_ (ld_blt I hg hm boot_enumerate (PyProof.Rows.callWith_type1 (thn (ha pos pins s σ H _ I h) fun us s1 ⟨vs,H1,I1,r1,q1⟩=>?_) hs rfl))
 obtain ⟨a,xs,ex,hq,q⟩:=q1
 subst ex
 cases r1 with
 | cons r rr =>
  cases rr
  cases r
  obtain ⟨its,rv,p',hz⟩:=I1.list hq
  refine call_enumerate_list p'.isList fun h' he hit hsz hk=>wpAny_pyIter_enum he ?_
  have I2:Inv X pins σ H1 { s1 with heap:=h' }:=I1.kept (t':=s1.toks) hk
  refine ⟨s1.heap.objs.size+1,[s1.heap.objs.size+1,s1.heap.objs.size],_,_,H1,rfl,I2,turn_enum a (s1.heap.objs.size+1) s1.heap.objs.size,⟨⟨.none,he⟩,hit,Nat.succ_ne_self _⟩,fun b hb=>?_,q⟩
  have e':b=s1.heap.objs.size+1∨b=s1.heap.objs.size:=by simpa using hb
  have hle:s1.heap.objs.size≤b:=by
   rcases e' with z | z
   ·rw [z]; exact Nat.le_add_right _ _
   ·rw [z]; exact Nat.le_refl _
  exact I1.fpOk hle (I1.hok.fresh hle)
end L2
section
namespace TL
open PySem PySem.Builtin PySem.Builtin.Str PySem.StrLaws
abbrev tl(x:Str):List Nat:=x.cps.toList
theorem len_tl(x:Str):x.length=(tl x).length:=by simp [tl,Str.length]
theorem ext_tl{x y:Str}(h:tl x=tl y):x=y:=Str.ext' (Array.toList_inj.mp h)
theorem tl_append(x y:Str):tl (x++y)=tl x++tl y:=by
 show (x++y).cps.toList=_
 rw [Str.cps_append,Array.toList_append]
theorem tl_ofString(s:String):tl (Str.ofString s)=s.toList.map Char.toNat:=PyProof.Rows.signs_ofString s
def pre(S l:List Nat):Bool:=l.take S.length==S
def spl(S:List Nat):Nat->List Nat->List Nat->List (List Nat)
 | _,acc,[]=>[acc]
 | 0,acc,c::r=>if pre S (c::r)=true then acc::spl S (S.length - 1) [] r else spl S 0 (acc++[c]) r
 | k+1,acc,_::r=>spl S k acc r
theorem spl_nil(S:List Nat)(k:Nat)(acc:List Nat):spl S k acc []=[acc]:=by cases k<;>rfl
theorem spl_hit{S acc r:List Nat}{c:Nat}(h:pre S (c::r)=true):spl S 0 acc (c::r)=acc::spl S (S.length - 1) [] r:=by
 show (if pre S (c::r)=true then acc::spl S (S.length - 1) [] r else spl S 0 (acc++[c]) r)=_
 rw [if_pos h]
theorem spl_miss{S acc r:List Nat}{c:Nat}(h:pre S (c::r)=false):spl S 0 acc (c::r)=spl S 0 (acc++[c]) r:=by
 show (if pre S (c::r)=true then acc::spl S (S.length - 1) [] r else spl S 0 (acc++[c]) r)=_
 rw [if_neg (by rw [h]; exact Bool.false_ne_true)]
theorem spl_pass(S:List Nat):∀ (k:Nat) (acc l:List Nat),spl S k acc l=spl S 0 acc (l.drop k)
 | 0,_,_=>by rw [List.drop_zero]
 | k+1,acc,[]=>by rw [List.drop_nil,spl_nil,spl_nil]
 | k+1,acc,c::r=>by
  show spl S k acc r=spl S 0 acc (r.drop k)
  exact spl_pass S k acc r
theorem pre_nil{S:List Nat}(hS:S≠[]):pre S []=false:=by
 cases S with
 | nil=>exact absurd rfl hS
 | cons s S=>rfl
theorem getElem_drop_cons{L:List Nat}{a:Nat}(h:a < L.length):∃ c,L.drop a=c::L.drop (a+1):=⟨L[a],List.drop_eq_getElem_cons h⟩
theorem spl_run(S L:List Nat):∀ (m a:Nat) (acc:List Nat),a+m≤L.length->(∀ k,a≤k->k < a+m->pre S (L.drop k)=false) ->
  spl S 0 acc (L.drop a)=spl S 0 (acc++(L.drop a).take m) (L.drop (a+m))
 | 0,a,acc,_,_=>by rw [List.take_zero,List.append_nil,Nat.add_zero]
 | m+1,a,acc,h,hn=>by
  have hlt:a < L.length:=by omega
  obtain ⟨c,e⟩:=getElem_drop_cons hlt
  have h0:=hn a (Nat.le_refl _) (by omega)
  have ih:=spl_run S L m (a+1) (acc++[c]) (by omega) (fun k h1 h2=>hn k (by omega) (by omega))
  have e2:a+1+m=a+(m+1):=by omega
  rw [e2] at ih
  rw [e] at h0
  rw [e,spl_miss h0,ih,List.take_succ_cons,List.append_assoc]<;>rfl
theorem drop_two(L:List Nat)(a b:Nat):(L.drop a).drop b=L.drop (a+b):=by
 first
  | rw [List.drop_drop]
  | rw [List.drop_drop,Nat.add_comm]
theorem spl_at{S L:List Nat}(hS:S≠[]){c:Nat}{acc:List Nat}(h:pre S (L.drop c)=true):spl S 0 acc (L.drop c)=acc::spl S 0 [] (L.drop (c+S.length)):=by
 rw [←drop_two]
 cases e:L.drop c with
 | nil=>rw [e,pre_nil hS] at h; cases h
 | cons d r =>
  rw [e] at h
  rw [spl_hit h,spl_pass]
  cases S with
  | nil=>exact absurd rfl hS
  | cons s S=>rfl
theorem at_iff{x y:Str}(hy:tl y≠[])(i:Nat):At x y x.length i↔pre (tl y) ((tl x).drop i)=true:=by
 have hx:=len_tl x
 have hl:=len_tl y
 constructor
 ·intro h
  have h2:=h.2
  rw [subAt_eq,hl] at h2
  exact h2
 ·intro h
  have e:((tl x).drop i).take (tl y).length=tl y:=eq_of_beq h
  have e1:=congrArg List.length e
  rw [List.length_take,List.length_drop] at e1
  have e2:0 < (tl y).length:=List.length_pos_iff.mpr hy
  refine ⟨by omega,?_⟩
  rw [subAt_eq,hl]
  exact h
theorem no_at{x y:Str}(hy:tl y≠[]){i:Nat}(h:¬ At x y x.length i):pre (tl y) ((tl x).drop i)=false:=by
 cases hp:pre (tl y) ((tl x).drop i) with
 | false=>rfl
 | true=>exact absurd ((at_iff hy i).mpr hp) h
theorem len1{y:Str}(hy:tl y≠[]):1≤y.length:=by
 have e2:0 < (tl y).length:=List.length_pos_iff.mpr hy
 rw [len_tl y]
 exact e2
theorem tl_strSub(x:Str)(i j:Nat):tl (strSub x i j)=((tl x).drop i).take (j - i):=strSub_toList x i j
theorem tl_strSub_end(x:Str)(i:Nat):tl (strSub x i x.length)=(tl x).drop i:=by
 rw [tl_strSub,len_tl x]
 exact List.take_of_length_le (by rw [List.length_drop]<;>omega)
theorem parts_spl{x y:Str}(hy:tl y≠[]):∀ (cuts:List Nat) (a f:Nat),a≤(tl x).length->ChainG x y x.length a cuts f->(∀ k,f≤k->¬ At x y x.length k) ->
  (partsFrom x y.length a cuts).map tl=spl (tl y) 0 [] ((tl x).drop a)
 | [],a,f,ha,h,hn=>by
  have e:f=a:=h
  subst e
  show [tl (strSub x f x.length)]=_
  have run:=spl_run (tl y) (tl x) ((tl x).length - f) f [] (by omega) (fun k h1 _=>no_at hy (hn k h1))
  have e2:f+((tl x).length - f)=(tl x).length:=by omega
  rw [e2,List.drop_length,spl_nil,List.nil_append,List.take_of_length_le (by rw [List.length_drop]<;>omega)] at run
  rw [run,tl_strSub_end]
 | c::r,a,f,ha,h,hn=>by
  obtain ⟨h1,h2,h3,h4⟩:=h
  have hc:c+y.length≤x.length:=h2.1
  have hx:=len_tl x
  have hl:=len_tl y
  have ih:=parts_spl hy r (c+y.length) f (by omega) h4 hn
  show tl (strSub x a c)::(partsFrom x y.length (c+y.length) r).map tl=_
  have run:=spl_run (tl y) (tl x) (c - a) a [] (by omega) (fun k k1 k2=>no_at hy (h3 k k1 (by omega)))
  have e2:a+(c - a)=c:=by omega
  rw [e2,List.nil_append,spl_at hy ((at_iff hy c).mp h2)] at run
  rw [run,ih,tl_strSub,hl]
theorem split_spl(x y:Str)(hy:tl y≠[])(hk:¬ Builtin.Str.strKind x < Builtin.Str.strKind y):(Txt.split x y).map tl=spl (tl y) 0 [] (tl x):=by
 obtain ⟨f,g,hn⟩:=occ_tight x y (len1 hy)
 have key:=parts_spl hy _ 0 f (Nat.zero_le _) g hn
 rw [List.drop_zero] at key
 have none_case:occurrences x y 0 x.length (x.length+1)=[]->[x].map tl=spl (tl y) 0 [] (tl x):=fun ho=>by
  rw [ho] at key
  rw [←key]
  show [tl x]=[tl (strSub x 0 x.length)]
  rw [sub_whole]
 unfold Txt.split
 by_cases h1:(decide (x.length < y.length)||decide (Builtin.Str.strKind x < Builtin.Str.strKind y))=true
 ·rw [if_pos h1]
  have hlt:x.length < y.length:=by
   simp only [Bool.or_eq_true,decide_eq_true_eq] at h1
   rcases h1 with h | h
   ·exact h
   ·exact absurd h hk
  refine none_case ?_
  cases ho:occurrences x y 0 x.length (x.length+1) with
  | nil=>rfl
  | cons c r =>
   rw [ho] at g
   have hc:c+y.length≤x.length:=g.2.1.1
   omega
 ·rw [if_neg h1]
  by_cases h2:(occurrences x y 0 x.length (x.length+1)).isEmpty=true
  ·rw [if_pos h2]
   exact none_case (List.isEmpty_iff.mp h2)
  ·rw [if_neg h2,partsBetween_eq]
   exact key
theorem kind_ok{x y:Str}(h:y.cps.all (· < 256)=true):¬ Builtin.Str.strKind x < Builtin.Str.strKind y:=by
 have e:Builtin.Str.strKind y=1:=by unfold PySem.Builtin.Str.strKind; rw [if_pos h]
 rw [e]
 unfold PySem.Builtin.Str.strKind
 split
 ·omega
 ·split<;>omega
def joinL(S:List Nat):List (List Nat)->List Nat
 | []=>[]
 | [p]=>p
 | p::q::r=>p++(S++joinL S (q::r))
theorem tl_join(y:Str):∀ parts:List Str,tl (Str.join y parts)=joinL (tl y) (parts.map tl)
 | []=>rfl
 | [_]=>rfl
 | x::z::r=>by
  show tl (x++y++Str.join y (z::r))=tl x++(tl y++joinL (tl y) ((z::r).map tl))
  rw [tl_append,tl_append,tl_join y (z::r),List.append_assoc]
theorem join_eq(y:Str)(parts:List Str):Txt.join y parts=Str.join y parts:=glued_eq_join y parts
end TL
end
namespace L2
open PySem PySem.Spec PyProof.Rows
theorem vals_strs:∀ l:List (Str×Tok),Vals ((l.map (·.1)).map V.str) (strValues l)
 | []=>.nil
 | p::r=>.cons ⟨p.2,rfl⟩ (vals_strs r)
theorem strs_of_vals:∀ {ys:List Str} {us:List Value},Vals (ys.map V.str) us->StrsAre us ys
 | [],_,.nil=>.nil
 | y::ys,_,.cons r t=>by
  obtain ⟨k,rfl⟩:=r
  exact .cons y k (strs_of_vals t)
def rNewStrs(ys:List Str):Hp->VK->Prop:=fun H Q=>∀ p,H p=none->Q (.ref p) (upd H p (.lst (ys.map V.str)))
section
variable {X:Cx} {pins:List (Addr×Obj)} {σ:St} {H:Hp} {s:Shared} {Q:VK}
theorem laid_strs{l:List (Str×Tok)}{ys:List Str}{k:Nat}(I:Inv X pins σ H s)(e:l.map (·.1)=ys)(hz:ys.length≤sizeLine)(h:rNewStrs ys H Q) :
  EP X pins σ Q (.ref s.heap.objs.size) { s with toks:=k,heap:=s.heap.push { cls:=.type "list",data:=.seq (strValues l).toArray } }:=by
 have hp:=I.hok.fresh (Nat.le_refl _)
 refine ⟨.ref s.heap.objs.size,upd H s.heap.objs.size (.lst (ys.map V.str)),I.laid (fun b u q=>Heap.get?_push_of_some _ q) (Nat.le_refl _) ⟨by rw [List.length_map]; exact hz,strValues l,_,?_,Heap.get?_push_size _ rfl⟩,rfl,h _ hp⟩
 rw [←e]
 exact vals_strs l
end
section
variable {X:Cx}
theorem mt_split:MtR X "str.split" (fun x xs H Q=>∃ a b,x=.str a∧xs=[.str b]∧(b.length==0)=false∧a.length+2≤sizeLine∧rNewStrs (Txt.split a b) H Q):=by
 intro pins s σ H x xs v us Q I rx rs h
 obtain ⟨a,b,rfl,rfl,hb,hz,h⟩:=h
 obtain ⟨t,rfl⟩:=rx
 cases rs with
 | cons r1 rs =>
  cases rs
  obtain ⟨u,rfl⟩:=r1
  have hl:(Txt.split a b).length≤sizeLine:=Nat.le_trans (PyProof.Rows.split_le a b) hz
  have hn:(Builtin.Str.partsBetween a (Builtin.Str.occurrences a b 0 a.length (a.length+1)) b.length).length≤sizeLine:=by
   have e1:=StrLaws.occ_length_le a b 0 a.length (a.length+1)
   rw [length_partsBetween]; omega
  cases h1:(decide (a.length < b.length)||decide (Builtin.Str.strKind a < Builtin.Str.strKind b))
  ·cases hf:(Builtin.Str.occurrences a b 0 a.length (a.length+1)).isEmpty
   ·refine call_meets F.slot_str_split (typeIs_str _ _ _) F.entry_str_split (F.args_str_split_2 _ _) (meets_str_split_sep a b t u h1 hb hf (by omega) hn) ?_
    show EP X pins σ Q (.ref s.heap.objs.size) { s with toks:=_,heap:=s.heap.push { cls:=.type "list",data:=.seq (strsFrom s.toks (Builtin.Str.partsBetween a (Builtin.Str.occurrences a b 0 a.length (a.length+1)) b.length)).toArray } }
    rw [strsFrom_eq]
    exact laid_strs (ys:=Txt.split a b) I ((numbered_texts _ _).trans ((if_neg (ne_true_of_eq_false h1)).trans (if_neg (ne_true_of_eq_false hf))).symm) hl h
   ·refine call_meets F.slot_str_split (typeIs_str _ _ _) F.entry_str_split (F.args_str_split_2 _ _) (meets_str_split_not_found a b t u h1 hb hf) ?_
    exact laid_strs (l:=[(a,t)]) (ys:=Txt.split a b) (k:=s.toks) I ((if_neg (ne_true_of_eq_false h1)).trans (if_pos hf)).symm hl h
  ·refine call_meets F.slot_str_split (typeIs_str _ _ _) F.entry_str_split (F.args_str_split_2 _ _) (meets_str_split_cannot_occur a b t u h1) ?_
   exact laid_strs (l:=[(a,t)]) (ys:=Txt.split a b) (k:=s.toks) I (if_pos h1).symm hl h
theorem mt_join:MtR X "str.join" (fun x xs H Q=>∃ a p,∃ ys:List Str,x=.str a∧xs=[.ref p]∧(SqL X.K H p (ys.map V.str)∨SqT X.K H p (ys.map V.str)) ∧
  (ys.map (·.length)).sum+ys.length*a.length≤16777216∧Q (.str (Txt.join a ys)) H):=by
 intro pins s σ H x xs v us Q I rx rs h
 obtain ⟨a,p,ys,rfl,rfl,hp,hz,h⟩:=h
 obtain ⟨t,rfl⟩:=rx
 cases rs with
 | cons r1 rs =>
  cases rs
  cases r1
  rcases hp with hp | hp
  ·obtain ⟨its,r,⟨o,n,ho,hc,_,hd⟩,_⟩:=I.list hp
   exact PyProof.Rows.join_list (items:=its.toArray) ⟨o,ho,hc,n,hd⟩ (by rw [List.toList_toArray]; exact strs_of_vals r) hz fun t' k=>⟨.str _,H,I.tok k,⟨t',rfl⟩,h⟩
  ·obtain ⟨its,r,ht,_⟩:=I.tuple hp
   exact PyProof.Rows.join_tuple (items:=its.toArray) ht (by rw [List.toList_toArray]; exact strs_of_vals r) hz fun t' k=>⟨.str _,H,I.tok k,⟨t',rfl⟩,h⟩
theorem call_int_str:CallR X (.type "int") (fun xs H Q=>∃ a n,xs=[.str a]∧PySem.intText? a=some n∧a.length≤640∧Q (.int n) H):=by
 intro pins s σ H xs us Q I rs h
 obtain ⟨a,n,rfl,hn,hl,h⟩:=h
 cases rs with
 | cons r1 rs =>
  cases rs
  obtain ⟨t,rfl⟩:=r1
  exact PySem.W.KIN.call_text hn hl ⟨.int n,H,I.tok _,⟨_,rfl⟩,h⟩
end
section
variable {X:Cx} {o e:Expr} {to te:TE}
def tM1(r:V->List V->Hp->VK->Prop)(to te:TE):TE:=fun σ H Q=>to σ H fun x H1=>(∃ a,x=.str a)∧te σ H1 fun y H2=>r x [y] H2 Q
theorem pe_m1{id:String}{name:Str}{apos pos:Pos}{r:V->List V->Hp->VK->Prop}(slot:Slot "str" name id)(ty:typeOf (.builtin id)=pure (.type "method_descriptor"))(rule:MtR X id r)(ho:PE X o to)(he:PE X e te)
  (hs:starEach [e] X.env=[(false,eval e X.env)]:=by rfl) (hbase:attributeBase o name X.env (eval o X.env)=eval o X.env:=by rfl) (hline:(apos.endLine==pos.line)=true:=by rfl) :
  PE X (.Call (.Attribute o name apos) [e] [] pos) (tM1 r to te):=by
 intro pins s σ H Q I h
 refine PySem.Call_method1 hbase hs hline (thn (ho pins s σ H _ I h) fun v s1 ⟨x,H1,I1,r1,q1⟩=>?_)
 obtain ⟨⟨a,rfl⟩,q1⟩:=q1
 obtain ⟨t,rfl⟩:=_root_.id r1
 refine ⟨"str",_,F.plainAttrs_str,slot,ty,typeIs_str _ _ _,(fun _ e=>nomatch e),Calls.callWith_builtin rfl (Calls.evalArgs_plain (Calls.spliced_cons ?_))⟩
 exact thn (he pins s1 σ H1 _ I1 q1) fun u s2 ⟨y,H2,I2,r2,q2⟩=>Calls.spliced_nil (rule pins s2 σ H2 _ [y] _ [u] Q I2 r1 (.cons r2 .nil) q2)
theorem pe_split{apos pos:Pos}(ho:PE X o to)(he:PE X e te)(hs:starEach [e] X.env=[(false,eval e X.env)]:=by rfl)(hbase:attributeBase o "split" X.env (eval o X.env)=eval o X.env:=by rfl)(hline:(apos.endLine==pos.line)=true:=by rfl) :
  PE X (.Call (.Attribute o "split" apos) [e] [] pos) (tM1 (fun x xs H Q=>∃ a b,x=.str a∧xs=[.str b]∧(b.length==0)=false∧a.length+2≤sizeLine∧rNewStrs (Txt.split a b) H Q) to te) :=
 pe_m1 F.slot_str_split F.type_str_split mt_split ho he hs hbase hline
theorem pe_join{apos pos:Pos}(ho:PE X o to)(he:PE X e te)(hs:starEach [e] X.env=[(false,eval e X.env)]:=by rfl)(hbase:attributeBase o "join" X.env (eval o X.env)=eval o X.env:=by rfl)(hline:(apos.endLine==pos.line)=true:=by rfl) :
  PE X (.Call (.Attribute o "join" apos) [e] [] pos) (tM1 (fun x xs H Q=>∃ a p,∃ ys:List Str,x=.str a∧xs=[.ref p]∧(SqL X.K H p (ys.map V.str)∨SqT X.K H p (ys.map V.str)) ∧
   (ys.map (·.length)).sum+ys.length*a.length≤16777216∧Q (.str (Txt.join a ys)) H) to te) :=
 pe_m1 F.slot_str_join F.type_str_join mt_join ho he hs hbase hline
end
end L2
namespace L2
open PySem PySem.Spec PyProof.Rows
section
variable {X:Cx}
theorem op_in_sign:OpR X (compareOp .In) (fun x y H Q=>∃ (c:Nat) (z:Str),x=.str ⟨#[c]⟩∧y=.str z∧Q (.bl (decide (c∈z.cps.toList))) H):=by
 intro pins s σ H x y v u Q I rx ry h
 obtain ⟨c,z,rfl,rfl,q⟩:=h
 obtain ⟨t,rfl⟩:=rx
 obtain ⟨t',rfl⟩:=ry
 exact PyProof.Rows.in_str (fin_bl I q (PySem.StrLaws.found_one z c).symm)
end
end L2
namespace L2
open PySem PySem.Spec PyProof.Rows
def inClass(s:Stmt)(j:Nat):Stmt:=match s with
 | .ClassDef _ _ _ body _ _ _ _ _ _ _=>body.getD j (.Pass ⟨0,0,0,0⟩)
 | _=>.Pass ⟨0,0,0,0⟩
def defArgs(s:Stmt):Arguments:=match s with
 | .FunctionDef _ a _ _ _ _ _ _ _ _=>a
 | _=>{ posonlyargs:=[],args:=[],vararg:=none,kwonlyargs:=[],kw_defaults:=[],kwarg:=none,defaults:=[] }
def defBody(s:Stmt):List Stmt:=match s with
 | .FunctionDef _ _ b _ _ _ _ _ _ _=>b
 | _=>[]
def defScope(s:Stmt):Scope:=match s with
 | .FunctionDef _ _ _ _ _ _ sc _ _ _=>sc
 | _=>{ kind:=.function,names:=[],isGenerator:=false,isCoroutine:=false }
abbrev CX0:CXT:=fun _ _ _ _ _ _=>False
abbrev E0:XK:=fun _ _ _=>False
theorem pass0{X:Cx}:Passes CX0 X E0:=fun _ _ _ _ _ _ _ h=>h.elim
structure Fun(K:PySem.W.Frag)(x qual:Str)(st:Stmt)(f:Addr)(fd:FuncData):Prop where
 ex:∃ (oc:Value) (od:Option Addr) (kV doc pm:Value) (an:Option Addr) (cdv ct:Value) (osl:Array (Option Value)),
  fd=PySem.W.fnOf x qual (defArgs st) (defBody st) (defScope st) .none kV doc pm an cdv ct∧K.lookup f=some ⟨oc,od,.func fd,osl⟩∧PySem.W.codeIn K cdv qual=true
 kp:PySem.W.keepIn K (.ref f)=true
section
variable {P:Program} {w:World} {K:PySem.W.Frag} {mg:Str->Option Value} {base:Heap}
theorem Fun.ok{x qual:Str}{st:Stmt}{f:Addr}{fd:FuncData}{N ps:List Str}{k:Nat}{sp:Sp}(F:Fun K x qual st f fd)(S:FnScope N ps (defScope st))(len:∀ vs H Q E,sp vs H Q E->vs.length=ps.length)
  (hbody:∀ (cdv:Value) (A:Around) (outer:List Env) (s:Shared) (H:Hp) (vs:List V) (Q:VK) (E:XK),Room k (A.deeper (envOfC qual (defScope st) s.heap.objs.size f cdv))->sp vs H Q E ->
   ∃ t,PSs (cxOf CX0 P w K mg base N qual (defScope st) f cdv A outer s H E).nox (defBody st) t∧t { nx:=fun _ H'=>Q .non H',rt:=Q } (start N vs) H):FnOk P w K mg base CX0 (k+1) f fd ps sp:=by
 obtain ⟨oc,od,kV,doc,pm,an,cdv,ct,osl,rfl,lk,hcd⟩:=F.ex
 refine fn_of lk hcd S len fun A outer s H vs Q E hr hsp=>?_
 obtain ⟨t,h,q⟩:=hbody cdv A outer s H vs Q E hr hsp
 exact ⟨t,h.nox,q⟩
theorem Fun.binds{x qual:Str}{st:Stmt}{f:Addr}{fd:FuncData}{ps:List Str}(F:Fun K x qual st f fd)
  (h:∀ (kV doc pm:Value) (an:Option Addr) (cdv ct:Value) (us:List Value),us.length=ps.length->bindArgs (PySem.W.fnOf x qual (defArgs st) (defBody st) (defScope st) .none kV doc pm an cdv ct) ⟨us,[]⟩=pure (ps.zip us)):Binds K fd ps []:=by
 obtain ⟨oc,od,kV,doc,pm,an,cdv,ct,osl,rfl,lk,hcd⟩:=F.ex
 exact .all (h kV doc pm an cdv ct)
theorem fun_mk{x qual:Str}{st:Stmt}{f:Addr}{oc:Value}{od an:Option Addr}{osl:Array (Option Value)}{kV doc pm cdv ct:Value}(l:K.lookup f=some ⟨oc,od,.func (PySem.W.fnOf x qual (defArgs st) (defBody st) (defScope st) .none kV doc pm an cdv ct),osl⟩)
  (c:PySem.W.codeIn K cdv qual=true) (k:PySem.W.keepIn K (.ref f)=true):Fun K x qual st f (PySem.W.fnOf x qual (defArgs st) (defBody st) (defScope st) .none kV doc pm an cdv ct):=⟨⟨oc,od,kV,doc,pm,an,cdv,ct,osl,rfl,l,c⟩,k⟩
end
theorem hu_of{A:Around}{k:Nat}(hr:Room k A):A.units+1 < cLine:=Nat.lt_of_le_of_lt (Nat.add_le_add_left (by decide:1≤64) _) hr.units
theorem small1000{n:Nat}(h:n≤1000):n < sizeLine:=Nat.lt_of_le_of_lt h (by decide)
section
variable {X:Cx}
theorem pv(i:Nat){x:Str}{pos:Pos}(hN:X.N[i]?=some x:=by rfl)(hv:Vis X.env.scope x:=by first | exact Or.inl rfl | exact Or.inr (Or.inl rfl) | exact Or.inr (Or.inr rfl))(hd:(x==("__debug__":Str))=false:=by decide)
  (hcd:(x==("__classdict__":Str))=false:=by decide):PE X (.Name x pos) (tVar i):=pe_var hN hv hd hcd
end
theorem iteF{A B:Prop}(h:B):if false=true then A else B:=by
 rw [if_neg Bool.false_ne_true]
 exact h
theorem iteT{A B:Prop}(h:A):if true=true then A else B:=by
 rw [if_pos rfl]
 exact h
def Same(H H':Hp):Prop:=∀ b o,H b=some o->H' b=some o
theorem Same.refl(H:Hp):Same H H:=fun _ _ h=>h
theorem Same.trans{H H1 H2:Hp}(a:Same H H1)(b:Same H1 H2):Same H H2:=fun c o h=>b c o (a c o h)
theorem Same.free{H H':Hp}(e:Same H H'){l:Addr}(h:H' l=Option.none):H l=Option.none:=by
 cases q:H l with
 | none=>rfl
 | some o =>
  rw [e l o q] at h
  cases h
theorem at_of{xs:List V}{z:Int}{j:Nat}{v:V}(e:z=(j:Int))(h:xs[j]?=some v):atI xs z=some v:=by
 rw [e]
 exact atI_nat h
theorem nd_ix{α:Type}{l:List α}(hN:l.Nodup){i j:Nat}{x:α}(a:l[i]?=some x)(b:l[j]?=some x):i=j:=by
 obtain ⟨h1,e1⟩:=List.getElem?_eq_some_iff.mp a
 obtain ⟨h2,e2⟩:=List.getElem?_eq_some_iff.mp b
 exact (List.getElem_inj hN).mp (e1.trans e2.symm)
theorem Same.made{H H1:Hp}{x dx C:Addr}(nx:H x=Option.none)(nd:H dx=Option.none)(k:∀ b o,(upd (upd H dx (.own x)) x (.ins C dx [])) b=some o->b≠x->H1 b=some o):Same H H1:=fun b o e =>
 k b o (by rw [upd_ne (ne_of_none e nx),upd_ne (ne_of_none e nd)]; exact e) (ne_of_none e nx)
end L2
namespace CwG
open Rung
def Joins(cs:List Contact)(p:Contact->Bool)(n u v:Nat):Prop :=
 ∃ c,cs[n]?=some c∧p c=true∧((c.a=u∧c.b=v)∨(c.b=u∧c.a=v))
theorem Joins.symm{cs p n u v}(h:Joins cs p n u v):Joins cs p n v u:=by
 obtain ⟨c,h1,h2,h3⟩:=h
 exact ⟨c,h1,h2,h3.elim (fun q=>.inr ⟨q.2,q.1⟩) fun q=>.inl ⟨q.2,q.1⟩⟩
inductive Way(cs:List Contact)(p:Contact->Bool):Nat->List Nat->Nat->Prop
 | nil (u:Nat):Way cs p u [] u
 | cons {n u v w:Nat} {l:List Nat}:Joins cs p n u v->Way cs p v l w->Way cs p u (n::l) w
def Okc(cs:List Contact):Prop:=∀ c∈cs,c.a < c.b∧c.b < 64
section
variable {cs:List Contact} {p:Contact->Bool}
theorem Way.snoc{u v w n:Nat}{l:List Nat}(h:Way cs p u l v)(j:Joins cs p n v w):Way cs p u (l++[n]) w:=by
 induction h with
 | nil u=>exact .cons j (.nil w)
 | cons j' _ ih=>exact .cons j' (ih j)
theorem Way.unsnoc:∀ {l:List Nat} {u w n:Nat},Way cs p u (l++[n]) w->∃ v,Way cs p u l v∧Joins cs p n v w
 | [],u,w,n,h=>by
  cases h with
  | cons j h'=>cases h'; exact ⟨u,.nil u,j⟩
 | a::l,u,w,n,h=>by
  cases h with
  | cons j h' =>
   obtain ⟨v,h1,h2⟩:=Way.unsnoc (l:=l) h'
   exact ⟨v,.cons j h1,h2⟩
theorem Way.rev{u v:Nat}{l:List Nat}(h:Way cs p u l v):Way cs p v l.reverse u:=by
 induction h with
 | nil u=>exact .nil u
 | cons j _ ih =>
  rw [List.reverse_cons]
  exact ih.snoc j.symm
theorem Way.nil_eq{u v:Nat}(h:Way cs p u [] v):u=v:=by cases h; rfl
theorem joins_ne(ok:Okc cs){n u v:Nat}(h:Joins cs p n u v):u≠v∧u < 64∧v < 64:=by
 obtain ⟨c,h1,_,h3⟩:=h
 have:=ok c (List.mem_of_getElem? h1)
 omega
theorem joins_fun{n u v v':Nat}(ok:Okc cs)(h:Joins cs p n u v)(h':Joins cs p n u v'):v=v':=by
 obtain ⟨c,h1,_,h3⟩:=h
 obtain ⟨c',h1',_,h3'⟩:=h'
 rw [h1] at h1'
 cases h1'
 have:=ok c (List.mem_of_getElem? h1)
 omega
theorem lex_irrefl:∀ l:List Nat,lexBefore l l=false
 | []=>rfl
 | a::l=>by simp [lexBefore,lex_irrefl l]
theorem lex_total:∀ {l m:List Nat},l.length=m.length->lexBefore l m=false->lexBefore m l=false->l=m
 | [],[],_,_,_=>rfl
 | a::l,b::m,e,h1,h2=>by
  simp only [lexBefore,Bool.or_eq_false_iff,Bool.and_eq_false_iff,decide_eq_false_iff_not] at h1 h2
  have:a=b:=by omega
  subst this
  have e1:lexBefore l m=false:=by
   rcases h1.2 with z | z
   ·simp at z
   ·exact z
  have e2:lexBefore m l=false:=by
   rcases h2.2 with z | z
   ·simp at z
   ·exact z
  rw [lex_total (by simpa using e) e1 e2]
theorem lex_trans:∀ {l m k:List Nat},l.length=m.length->m.length=k.length->lexBefore m l=false->lexBefore k m=false->lexBefore k l=false
 | [],[],[],_,_,_,_=>rfl
 | a::l,b::m,c::k,e,e',h1,h2=>by
  simp only [lexBefore,Bool.or_eq_false_iff,Bool.and_eq_false_iff,decide_eq_false_iff_not,beq_eq_false_iff_ne] at h1 h2 ⊢
  refine ⟨by omega,?_⟩
  by_cases q:c=a
  ·right
   have e1:b=a:=by omega
   have e2:c=b:=by omega
   exact lex_trans (by simpa using e) (by simpa using e') (h1.2.resolve_left (fun z=>z e1)) (h2.2.resolve_left (fun z=>z e2))
  ·exact .inl q
theorem lex_snoc:∀ {l m:List Nat} (c:Nat),l.length=m.length->lexBefore l m=false->lexBefore (l++[c]) (m++[c])=false
 | [],[],c,_,_=>by simp [lexBefore]
 | a::l,b::m,c,e,h=>by
  simp only [List.cons_append,lexBefore,Bool.or_eq_false_iff,Bool.and_eq_false_iff,decide_eq_false_iff_not,beq_eq_false_iff_ne] at h ⊢
  exact ⟨h.1,h.2.imp id (lex_snoc c (by simpa using e))⟩
theorem lexFirst_nil:∀ {ls:List (List Nat)},lexFirst ls=none->ls=[]
 | [],_=>rfl
 | l::r,h=>by
  unfold lexFirst at h
  split at h
  ·cases h
  ·split at h<;>cases h
theorem lexFirst_some:∀ {ls:List (List Nat)} {l:List Nat} {n:Nat},(∀ m∈ls,m.length=n)->lexFirst ls=some l->l∈ls∧∀ m∈ls,lexBefore m l=false
 | [],_,_,_,h=>by cases h
 | x::r,l,n,hn,h=>by
  unfold lexFirst at h
  cases e:lexFirst r with
  | none =>
   rw [e] at h
   cases h
   rw [lexFirst_nil e]
   exact ⟨List.mem_singleton.mpr rfl,fun m hm=>by rw [List.mem_singleton.mp hm]; exact lex_irrefl _⟩
  | some y =>
   rw [e] at h
   have hr:∀ m∈r,m.length=n:=fun m hm=>hn m (List.mem_cons_of_mem _ hm)
   obtain ⟨i1,i2⟩:=lexFirst_some hr e
   simp only at h
   by_cases q:lexBefore y x=true
   ·rw [if_pos q] at h
    cases h
    refine ⟨List.mem_cons_of_mem _ i1,fun m hm=>?_⟩
    rcases List.mem_cons.mp hm with z | z
    ·rw [z]
     cases e2:lexBefore x l with
     | false=>rfl
     | true =>
      have:=lex_asymm q e2
      exact this.elim
    ·exact i2 m z
   ·rw [if_neg q] at h
    cases h
    have q:lexBefore y x=false:=by simpa using q
    refine ⟨List.mem_cons_self ..,fun m hm=>?_⟩
    rcases List.mem_cons.mp hm with z | z
    ·rw [z]; exact lex_irrefl _
    ·have lx:=hn x (List.mem_cons_self ..)
     exact lex_trans (by rw [lx,hr y i1]) (by rw [hr y i1,hr m z]) q (i2 m z)
where
 lex_asymm:∀ {l m:List Nat},lexBefore l m=true->lexBefore m l=true->False
  | [],_,h,_=>by simp [lexBefore] at h
  | _::_,[],h,_=>by simp [lexBefore] at h
  | a::l,b::m,h,h'=>by
   simp only [lexBefore,Bool.or_eq_true,Bool.and_eq_true,decide_eq_true_eq,beq_iff_eq] at h h'
   rcases h with h | h
   ·omega
   ·rcases h' with h' | h'
    ·omega
    ·exact lex_asymm h.2 h'.2
def D(cs:List Contact)(p:Contact->Bool)(n k:Nat):Prop:=(∃ l,Way cs p 0 l k∧l.length=n)∧∀ l,Way cs p 0 l k->n≤l.length
def Best(cs:List Contact)(p:Contact->Bool)(k:Nat)(l:List Nat):Prop :=
 Way cs p 0 l k∧(∀ l',Way cs p 0 l' k->l.length≤l'.length)∧∀ l',Way cs p 0 l' k->l'.length=l.length->lexBefore l' l=false
theorem Best.d{k:Nat}{l:List Nat}(b:Best cs p k l):D cs p l.length k:=⟨⟨l,b.1,rfl⟩,b.2.1⟩
theorem D.inj{m n k:Nat}(h:D cs p m k)(h':D cs p n k):m=n:=by
 obtain ⟨⟨l,w,e⟩,h⟩:=h
 obtain ⟨⟨l',w',e'⟩,h'⟩:=h'
 have:=h _ w'
 have:=h' _ w
 omega
theorem Best.inj{k:Nat}{l m:List Nat}(b:Best cs p k l)(b':Best cs p k m):l=m:=by
 have e:l.length=m.length:=b.d.inj b'.d
 exact lex_total e (b'.2.2 l b.1 e) (b.2.2 m b'.1 e.symm)
theorem d_ex{k:Nat}:∀ (n:Nat) (l:List Nat),l.length=n->Way cs p 0 l k->∃ m,m≤n∧D cs p m k:=by
 intro n
 induction n using Nat.strongRecOn with
 | ind n ih =>
  intro l e w
  by_cases q:∃ l',Way cs p 0 l' k∧l'.length < n
  ·obtain ⟨l',w',h⟩:=q
   obtain ⟨m,hm,d⟩:=ih _ h l' rfl w'
   exact ⟨m,by omega,d⟩
  ·refine ⟨n,Nat.le_refl _,⟨l,w,e⟩,fun l' w'=>?_⟩
   by_cases h:l'.length < n
   ·exact (q ⟨l',w',h⟩).elim
   ·omega
theorem snoc_of{l:List Nat}{n:Nat}(h:l.length=n+1):∃ m c,l=m++[c]∧m.length=n:=by
 have ne:l≠[]:=by intro e; rw [e] at h; simp at h
 refine ⟨l.dropLast,l.getLast ne,(List.dropLast_concat_getLast ne).symm,?_⟩
 rw [List.length_dropLast,h]
 omega
theorem D.pred{n k:Nat}{l:List Nat}{c:Nat}(h:D cs p (n+1) k)(w:Way cs p 0 (l++[c]) k)(e:l.length=n):∃ u,Way cs p 0 l u∧Joins cs p c u k∧D cs p n u:=by
 obtain ⟨u,h1,j⟩:=w.unsnoc
 refine ⟨u,h1,j,⟨l,h1,e⟩,fun l' w'=>?_⟩
 have:=h.2 _ (w'.snoc j)
 rw [List.length_append] at this
 simp at this
 omega
theorem D.before{n k:Nat}(h:D cs p (n+1) k):∃ c u,Joins cs p c u k∧D cs p n u:=by
 obtain ⟨l,w,e⟩:=h.1
 obtain ⟨m,c,rfl,em⟩:=snoc_of e
 obtain ⟨u,_,j,d⟩:=h.pred w em
 exact ⟨c,u,j,d⟩
theorem d_lt(ok:Okc cs){n k:Nat}(h:D cs p n k):k < 64:=by
 cases n with
 | zero =>
  obtain ⟨l,w,e⟩:=h.1
  have:l=[]:=List.eq_nil_of_length_eq_zero e
  subst this
  have:=w.nil_eq
  omega
 | succ n =>
  obtain ⟨c,u,j,_⟩:=h.before
  exact (joins_ne ok j).2.2
theorem nodup_le:∀ (n:Nat) (l:List Nat),l.Nodup->(∀ v∈l,v < n)->l.length≤n
 | 0,l,_,h=>by
  cases l with
  | nil=>simp
  | cons a l=>exact absurd (h a (List.mem_cons_self ..)) (Nat.not_lt_zero _)
 | n+1,l,hn,h=>by
  have h1:(l.filter fun v=>decide (v≠n)).length≤n:=nodup_le n _ (hn.sublist List.filter_sublist) fun v hv=>by
   obtain ⟨m,q⟩:=List.mem_filter.mp hv
   have:=h v m
   have:v≠n:=of_decide_eq_true q
   omega
  have h2:l.length≤(l.filter fun v=>decide (v≠n)).length+1:=by
   clear h h1
   induction l with
   | nil=>simp
   | cons a l ih =>
    obtain ⟨ha,hl⟩:=List.nodup_cons.mp hn
    by_cases e:a=n
    ·subst e
     have:(l.filter fun v=>decide (v≠a))=l:=by
      apply List.filter_eq_self.mpr
      intro v hv
      apply decide_eq_true
      rintro rfl
      exact ha hv
     rw [List.filter_cons,if_neg (by simp),this]
     simp
    ·rw [List.filter_cons,if_pos (by simp [e])]
     have:=ih hl
     simp only [List.length_cons]
     omega
  omega
theorem d_small(ok:Okc cs){n k:Nat}(h:D cs p n k):n < 64:=by
 have:∀ (n k:Nat),D cs p n k->∃ l:List Nat,l.Nodup∧l.length=n+1∧∀ v∈l,∃ i,i≤n∧D cs p i v:=by
  intro n
  induction n with
  | zero =>
   intro k h
   exact ⟨[k],by simp,rfl,fun v hv=>⟨0,Nat.le_refl _,by rw [List.mem_singleton.mp hv]; exact h⟩⟩
  | succ n ih =>
   intro k h
   obtain ⟨c,u,_,d⟩:=h.before
   obtain ⟨l,h1,h2,h3⟩:=ih u d
   refine ⟨k::l,List.nodup_cons.mpr ⟨fun m=>?_,h1⟩,by simp [h2],fun v hv=>?_⟩
   ·obtain ⟨i,hi,di⟩:=h3 k m
    have:=h.inj di
    omega
   ·rcases List.mem_cons.mp hv with z | z
    ·rw [z]; exact ⟨n+1,Nat.le_refl _,h⟩
    ·obtain ⟨i,hi,di⟩:=h3 v z
     exact ⟨i,by omega,di⟩
 obtain ⟨l,h1,h2,h3⟩:=this n k h
 have:=nodup_le 64 l h1 fun v hv=>let ⟨i,_,d⟩:=h3 v hv; d_lt ok d
 omega
end
end CwG
namespace CwG
open Rung
section
variable {cs:List Contact} {p:Contact->Bool}
def spreadG(p:Contact->Bool)(cs:List Contact)(m:Nat):Nat:=cs.foldl (fun (m:Nat) (c:Contact)=>if p c=true∧(m.testBit c.a=true∨m.testBit c.b=true) then m|||2 ^ c.a|||2 ^ c.b else m) m
def roundsG(p:Contact->Bool)(cs:List Contact):Nat->Nat->Nat
 | 0,m=>m
 | k+1,m=>roundsG p cs k (spreadG p cs m)
theorem rounds_eq(s:Scheme)(x:Rung.State):∀ n m,rounds s x n m=roundsG (fun c=>c.closed x) s.contacts n m
 | 0,_=>rfl
 | n+1,m=>rounds_eq s x n _
theorem roundsBy_eq(s:Scheme)(z:Conds):∀ n m,roundsBy s z n m=roundsG (fun c=>c.by_ z) s.contacts n m
 | 0,_=>rfl
 | n+1,m=>roundsBy_eq s z n _
theorem bit3(m a b k:Nat):(m|||2 ^ a|||2 ^ b).testBit k=(m.testBit k||decide (a=k)||decide (b=k)):=by
 rw [Nat.testBit_or,Nat.testBit_or,Nat.testBit_two_pow,Nat.testBit_two_pow]
theorem spread_mono:∀ (ds:List Contact) (m k:Nat),m.testBit k=true->(spreadG p ds m).testBit k=true
 | [],_,_,h=>h
 | c::ds,m,k,h=>by
  show (spreadG p ds (if p c=true∧(m.testBit c.a=true∨m.testBit c.b=true) then m|||2 ^ c.a|||2 ^ c.b else m)).testBit k=true
  apply spread_mono
  split
  ·rw [bit3,h]; rfl
  ·exact h
theorem rounds_mono:∀ (n m k:Nat),m.testBit k=true->(roundsG p cs n m).testBit k=true
 | 0,_,_,h=>h
 | n+1,m,k,h=>rounds_mono n _ k (spread_mono cs m k h)
theorem spread_sound(L:Nat->Prop):∀ (ds:List Contact) (m:Nat),(∀ c∈ds,p c=true->(L c.a↔L c.b))->(∀ k,m.testBit k=true->L k)->∀ k,(spreadG p ds m).testBit k=true->L k
 | [],_,_,h=>h
 | c::ds,m,hL,h=>by
  show ∀ k,(spreadG p ds (if p c=true∧(m.testBit c.a=true∨m.testBit c.b=true) then m|||2 ^ c.a|||2 ^ c.b else m)).testBit k=true->L k
  apply spread_sound L ds _ fun d hd=>hL d (List.mem_cons_of_mem _ hd)
  intro k hk
  split at hk
  ·rename_i q
   have e:=hL c (List.mem_cons_self ..) q.1
   have la:L c.a:=q.2.elim (fun z=>h _ z) fun z=>e.mpr (h _ z)
   rw [bit3] at hk
   simp only [Bool.or_eq_true,decide_eq_true_eq] at hk
   rcases hk with (hk | hk) | hk
   ·exact h k hk
   ·exact hk▸la
   ·exact hk▸e.mp la
  ·exact h k hk
theorem rounds_sound(L:Nat->Prop)(hL:∀ c∈cs,p c=true->(L c.a↔L c.b)):∀ (n m:Nat),(∀ k,m.testBit k=true->L k)->∀ k,(roundsG p cs n m).testBit k=true->L k
 | 0,_,h=>h
 | n+1,m,h=>rounds_sound L hL n _ (spread_sound L cs m hL h)
theorem spread_step:∀ (ds:List Contact) (m:Nat) {c:Contact} {u v:Nat},c∈ds->p c=true->((c.a=u∧c.b=v)∨(c.b=u∧c.a=v))->m.testBit u=true->(spreadG p ds m).testBit v=true
 | [],_,_,_,_,h,_,_,_=>by simp at h
 | d::ds,m,c,u,v,h,hp,hj,hu=>by
  show (spreadG p ds (if p d=true∧(m.testBit d.a=true∨m.testBit d.b=true) then m|||2 ^ d.a|||2 ^ d.b else m)).testBit v=true
  rcases List.mem_cons.mp h with e | e
  ·subst e
   apply spread_mono
   rw [if_pos ⟨hp,hj.elim (fun q=>.inl (by rw [q.1]; exact hu)) fun q=>.inr (by rw [q.1]; exact hu)⟩,bit3]
   simp only [Bool.or_eq_true,decide_eq_true_eq]
   rcases hj with q | q
   ·exact .inr q.2
   ·exact .inl (.inr q.2)
  ·refine spread_step ds _ e hp hj ?_
   split
   ·rw [bit3,hu]; rfl
   ·exact hu
theorem rounds_reach{n k:Nat}:∀ {m:Nat} (l:List Nat) {u:Nat},Way cs p u l k->l.length≤n->m.testBit u=true->(roundsG p cs n m).testBit k=true:=by
 induction n with
 | zero =>
  intro m l u w h hu
  have:l=[]:=List.eq_nil_of_length_eq_zero (by omega)
  subst this
  rw [←w.nil_eq]
  exact hu
 | succ n ih =>
  intro m l u w h hu
  cases w with
  | nil=>exact rounds_mono _ _ _ hu
  | cons j w' =>
   obtain ⟨c,h1,h2,h3⟩:=j
   refine ih _ w' (by simp at h; omega) ?_
   exact spread_step cs m (List.mem_of_getElem? h1) h2 h3 hu
theorem live_iff(ok:Okc cs)(k:Nat):(roundsG p cs 64 1).testBit k=true↔∃ l,Way cs p 0 l k:=by
 constructor
 ·refine rounds_sound (fun k=>∃ l,Way cs p 0 l k) (fun c hc hp=>?_) 64 1 (fun k hk=>?_) k
  ·obtain ⟨n,hn⟩:=List.getElem?_of_mem hc
   exact ⟨fun ⟨l,w⟩=>⟨_,w.snoc ⟨c,hn,hp,.inl ⟨rfl,rfl⟩⟩⟩,fun ⟨l,w⟩=>⟨_,w.snoc ⟨c,hn,hp,.inr ⟨rfl,rfl⟩⟩⟩⟩
  ·have:(2 ^ 0).testBit k=true:=hk
   rw [Nat.testBit_two_pow] at this
   have:0=k:=of_decide_eq_true this
   subst this
   exact ⟨[],.nil 0⟩
 ·rintro ⟨l,w⟩
  obtain ⟨m,_,d⟩:=d_ex _ l rfl w
  obtain ⟨⟨l',w',e⟩,_⟩:=id d
  have:=d_small ok d
  exact rounds_reach l' w' (by omega) (by decide)
theorem mem_longer{s:Scheme}{x:Rung.State}{last:List (Nat×List Nat)}{k:Nat}{l:List Nat}:l∈longer s x last k↔∃ u m c,(u,m)∈last∧Joins s.contacts (fun c=>c.closed x) c u k∧l=m++[c]:=by
 unfold longer
 rw [List.mem_flatMap]
 constructor
 ·rintro ⟨⟨u,m⟩,h1,h2⟩
  rw [List.mem_filterMap] at h2
  obtain ⟨⟨c,i⟩,h3,h4⟩:=h2
  split at h4
  ·rename_i q
   cases h4
   exact ⟨u,m,i,h1,⟨c,List.mem_zipIdx_iff_getElem?.mp h3,q.1,q.2⟩,rfl⟩
  ·cases h4
 ·rintro ⟨u,m,i,h1,⟨c,h2,h3,h4⟩,rfl⟩
  refine ⟨(u,m),h1,List.mem_filterMap.mpr ⟨(c,i),List.mem_zipIdx_iff_getElem?.mpr h2,?_⟩⟩
  exact if_pos ⟨h3,h4⟩
structure Told(cs:List Contact)(p:Contact->Bool)(n:Nat)(had last:List (Nat×List Nat)):Prop where
 best:∀ k l,(k,l)∈had->Best cs p k l∧l.length≤n
 all:∀ m k,D cs p m k->m≤n->∃ l,(k,l)∈had
 lst:∀ k l,(k,l)∈last->Best cs p k l∧l.length=n
 lall:∀ k,D cs p n k->∃ l,(k,l)∈last
theorem told0:Told cs p 0 [(0,[])] [(0,[])]:=by
 have b:Best cs p 0 []:=⟨.nil 0,fun _ _=>Nat.zero_le _,fun l' _ e=>by rw [List.eq_nil_of_length_eq_zero e]; rfl⟩
 have z:∀ m k,D cs p m k->m≤0->k=0:=fun m k d h=>by
  obtain ⟨l,w,e⟩:=d.1
  have:l=[]:=List.eq_nil_of_length_eq_zero (by omega)
  subst this
  exact w.nil_eq.symm
 refine ⟨fun k l h=>?_,fun m k d h=>⟨[],by rw [z m k d h]; simp⟩,fun k l h=>?_,fun k d=>⟨[],by rw [z 0 k d (Nat.le_refl _)]; simp⟩⟩
 ·simp at h; rw [h.1,h.2]; exact ⟨b,Nat.le_refl _⟩
 ·simp at h; rw [h.1,h.2]; exact ⟨b,rfl⟩
variable {s:Scheme} {x:Rung.State}
theorem new_iff(ok:Okc s.contacts){n:Nat}{had last:List (Nat×List Nat)}(T:Told s.contacts (fun c=>c.closed x) n had last){k:Nat}{l:List Nat} :
  (k,l)∈(((List.range NODES).filter fun (k:Nat)=>!had.any fun (u:Nat×List Nat)=>u.1==k).filterMap fun (k:Nat)=>(lexFirst (longer s x last k)).map fun (l:List Nat)=>(k,l)) ↔
   (k < 64∧(∀ l',(k,l')∉had)∧lexFirst (longer s x last k)=some l):=by
 rw [List.mem_filterMap]
 constructor
 ·rintro ⟨k',h1,h2⟩
  rw [List.mem_filter,List.mem_range] at h1
  cases e:lexFirst (longer s x last k') with
  | none=>rw [e] at h2; cases h2
  | some y =>
   rw [e] at h2
   cases h2
   refine ⟨h1.1,fun l' hl=>?_,e⟩
   have:=h1.2
   simp only [Bool.not_eq_true',List.any_eq_false] at this
   exact this _ hl (by simp)
 ·rintro ⟨h1,h2,h3⟩
  refine ⟨k,List.mem_filter.mpr ⟨List.mem_range.mpr h1,?_⟩,by rw [h3]; rfl⟩
  simp only [Bool.not_eq_true',List.any_eq_false]
  rintro ⟨k',l'⟩ hu e
  have:k'=k:=by simpa using e
  subst this
  exact h2 l' hu
theorem longer_len{n:Nat}{had last:List (Nat×List Nat)}(T:Told s.contacts (fun c=>c.closed x) n had last)(k:Nat):∀ m∈longer s x last k,m.length=n+1:=fun m hm=>by
 obtain ⟨u,m',c,h1,_,rfl⟩:=mem_longer.mp hm
 simp [(T.lst u m' h1).2]
theorem told_step(ok:Okc s.contacts){n:Nat}{had last:List (Nat×List Nat)}(T:Told s.contacts (fun c=>c.closed x) n had last) :
  let new:=((List.range NODES).filter fun (k:Nat)=>!had.any fun (u:Nat×List Nat)=>u.1==k).filterMap fun (k:Nat)=>(lexFirst (longer s x last k)).map fun (l:List Nat)=>(k,l)
  Told s.contacts (fun c=>c.closed x) (n+1) (had++new) new:=by
 intro new
 have N1:∀ k l,(k,l)∈new->Best s.contacts (fun c=>c.closed x) k l∧l.length=n+1:=fun k l h=>by
  obtain ⟨h1,h2,h3⟩:=(new_iff ok T).mp h
  obtain ⟨i1,i2⟩:=lexFirst_some (longer_len T k) h3
  have el:=longer_len T k l i1
  obtain ⟨u,m,c,j1,j2,e⟩:=mem_longer.mp i1
  have w:Way s.contacts (fun c=>c.closed x) 0 l k:=by rw [e]; exact (T.lst u m j1).1.1.snoc j2
  have dk:D s.contacts (fun c=>c.closed x) (n+1) k:=by
   obtain ⟨m',hm',d⟩:=d_ex _ l rfl w
   by_cases q:m'≤n
   ·obtain ⟨l',hl'⟩:=T.all m' k d q
    exact (h2 l' hl').elim
   ·have:m'=n+1:=by omega
    exact this▸d
  refine ⟨⟨w,fun l' w'=>by rw [el]; exact dk.2 l' w',fun l' w' e'=>?_⟩,el⟩
  obtain ⟨m0,c0,rfl,em0⟩:=snoc_of (e'.trans el)
  obtain ⟨u0,w0,j0,d0⟩:=dk.pred w' em0
  obtain ⟨b0,hb0⟩:=T.lall u0 d0
  have B0:=T.lst u0 b0 hb0
  have h5:lexBefore (b0++[c0]) l=false:=i2 _ (mem_longer.mpr ⟨u0,b0,c0,hb0,j0,rfl⟩)
  have h6:lexBefore (m0++[c0]) (b0++[c0])=false:=lex_snoc c0 (by omega) (B0.1.2.2 m0 w0 (by omega))
  exact lex_trans (by simp; omega) (by simp; omega) h5 h6
 have N2:∀ k,D s.contacts (fun c=>c.closed x) (n+1) k->∃ l,(k,l)∈new:=fun k d=>by
  obtain ⟨c,u,j,du⟩:=d.before
  obtain ⟨m,hm⟩:=T.lall u du
  have hl:(m++[c])∈longer s x last k:=mem_longer.mpr ⟨u,m,c,hm,j,rfl⟩
  cases e:lexFirst (longer s x last k) with
  | none=>rw [lexFirst_nil e] at hl; simp at hl
  | some l =>
   refine ⟨l,(new_iff ok T).mpr ⟨d_lt ok d,fun l' hl'=>?_,e⟩⟩
   obtain ⟨b,hb⟩:=T.best k l' hl'
   have:=b.d.inj d
   omega
 refine ⟨fun k l h=>?_,fun m k d hm=>?_,N1,N2⟩
 ·rcases List.mem_append.mp h with z | z
  ·exact ⟨(T.best k l z).1,by have:=(T.best k l z).2; omega⟩
  ·exact ⟨(N1 k l z).1,by have:=(N1 k l z).2; omega⟩
 ·by_cases q:m≤n
  ·obtain ⟨l,hl⟩:=T.all m k d q
   exact ⟨l,List.mem_append_left _ hl⟩
  ·have:m=n+1:=by omega
   subst this
   obtain ⟨l,hl⟩:=N2 k d
   exact ⟨l,List.mem_append_right _ hl⟩
theorem ways_told(ok:Okc s.contacts):∀ (f n:Nat) (had last:List (Nat×List Nat)),Told s.contacts (fun c=>c.closed x) n had last->64≤n+f ->
  (∀ k l,(k,l)∈waysFrom s x f had last->Best s.contacts (fun c=>c.closed x) k l)∧∀ m k,D s.contacts (fun c=>c.closed x) m k->∃ l,(k,l)∈waysFrom s x f had last
 | 0,n,had,last,T,h=>⟨fun k l q=>(T.best k l q).1,fun m k d=>T.all m k d (by have:=d_small ok d; omega)⟩
 | f+1,n,had,last,T,h=>by
  have T':=told_step ok T
  unfold waysFrom
  simp only at T' ⊢
  split
  ·rename_i e
   rw [List.isEmpty_iff] at e
   refine ⟨fun k l q=>(T.best k l q).1,fun m k d=>T.all m k d ?_⟩
   rw [e] at T'
   have no:∀ j k,¬ D s.contacts (fun c=>c.closed x) (n+1+j) k:=by
    intro j
    induction j with
    | zero=>intro k d; obtain ⟨l,hl⟩:=T'.lall k d; simp at hl
    | succ j ih=>intro k d; obtain ⟨c,u,_,du⟩:=D.before (n:=n+1+j) d; exact ih u du
   by_cases q:m≤n
   ·exact q
   ·have:m=n+1+(m - n - 1):=by omega
    rw [this] at d
    exact (no _ k d).elim
  ·exact ways_told ok f (n+1) _ _ T' (by omega)
theorem path_some(ok:Okc s.contacts){k:Nat}{l:List Nat}(b:Best s.contacts (fun c=>c.closed x) k l):pathTo s x k=some l:=by
 obtain ⟨h1,h2⟩:=ways_told (x:=x) ok 64 0 _ _ told0 (by omega)
 obtain ⟨l',hl'⟩:=h2 _ k b.d
 unfold pathTo
 cases e:(waysFrom s x NODES [(0,[])] [(0,[])]).find? fun (u:Nat×List Nat)=>u.1==k with
 | none =>
  have:=List.find?_eq_none.mp e _ hl'
  simp at this
 | some u =>
  obtain ⟨k',m⟩:=u
  have q:=List.find?_some e
  have:k'=k:=by simpa using q
  subst this
  have:=(h1 _ _ (List.mem_of_find?_eq_some e)).inj b
  subst this
  rfl
theorem path_none(ok:Okc s.contacts){k:Nat}(b:¬ ∃ l,Way s.contacts (fun c=>c.closed x) 0 l k):pathTo s x k=none:=by
 obtain ⟨h1,h2⟩:=ways_told (x:=x) ok 64 0 _ _ told0 (by omega)
 unfold pathTo
 cases e:(waysFrom s x NODES [(0,[])] [(0,[])]).find? fun (u:Nat×List Nat)=>u.1==k with
 | none=>rfl
 | some u =>
  obtain ⟨k',m⟩:=u
  have q:=List.find?_some e
  have:k'=k:=by simpa using q
  subst this
  exact (b ⟨m,(h1 _ _ (List.mem_of_find?_eq_some e)).1⟩).elim
end
section
variable {cs:List Contact} {p:Contact->Bool}
structure Dist(cs:List Contact)(p:Contact->Bool)(t:Nat)(A:Nat->Option Nat):Prop where
 zero:A t=some 0
 only:∀ v,A v=some 0->v=t
 step:∀ n u v d,Joins cs p n u v->A u=some d->∃ e,A v=some e∧e≤d+1
 pred:∀ v d,A v=some (d+1)->∃ n u,Joins cs p n u v∧A u=some d
variable {t:Nat} {A:Nat->Option Nat}
theorem Dist.of_way(H:Dist cs p t A):∀ {l:List Nat} {u v d:Nat},Way cs p u l v->A u=some d->∃ e,A v=some e∧e≤d+l.length
 | _,_,_,d,.nil u,h=>⟨d,h,by simp⟩
 | _,_,_,d,.cons j w,h=>by
  obtain ⟨e,h1,h2⟩:=H.step _ _ _ _ j h
  obtain ⟨e',h3,h4⟩:=H.of_way w h1
  exact ⟨e',h3,by simp; omega⟩
theorem Dist.way(H:Dist cs p t A):∀ (d v:Nat),A v=some d->∃ l,Way cs p v l t∧l.length=d
 | 0,v,h=>⟨[],by rw [H.only v h]; exact .nil t,rfl⟩
 | d+1,v,h=>by
  obtain ⟨n,u,j,hu⟩:=H.pred v d h
  obtain ⟨l,w,e⟩:=H.way d u hu
  exact ⟨n::l,.cons j.symm w,by simp [e]⟩
theorem Dist.some_iff(H:Dist cs p t A)(v:Nat):(∃ l,Way cs p t l v)↔∃ d,A v=some d:=by
 constructor
 ·rintro ⟨l,w⟩
  obtain ⟨e,h,_⟩:=H.of_way w H.zero
  exact ⟨e,h⟩
 ·rintro ⟨d,h⟩
  obtain ⟨l,w,_⟩:=H.way d v h
  exact ⟨_,w.rev⟩
inductive Greedy(cs:List Contact)(p:Contact->Bool)(t:Nat)(A:Nat->Option Nat):Nat->List Nat->Prop
 | nil:Greedy cs p t A t []
 | cons {u v n d:Nat} {l:List Nat}:A u=some (d+1)->Joins cs p n u v->A v=some d->(∀ n' v',Joins cs p n' u v'->A v'=some d->n≤n')->Greedy cs p t A v l->Greedy cs p t A u (n::l)
theorem Greedy.best(ok:Okc cs)(H:Dist cs p t A){u:Nat}{l:List Nat}(g:Greedy cs p t A u l):∃ d,A u=some d∧l.length=d∧Way cs p u l t∧∀ l',Way cs p u l' t->l.length≤l'.length∧(l'.length=l.length->lexBefore l' l=false):=by
 induction g with
 | nil=>exact ⟨0,H.zero,rfl,.nil t,fun l' _=>⟨Nat.zero_le _,fun e=>by rw [List.eq_nil_of_length_eq_zero e]; rfl⟩⟩
 | @cons u v n d l hu j hv least _ ih =>
  obtain ⟨d',e1,e2,w,mn⟩:=ih
  rw [hv] at e1
  cases e1
  refine ⟨d+1,hu,by simp [e2],.cons j w,fun l' w'=>?_⟩
  have long:d+1≤l'.length:=by
   obtain ⟨e,h1,h2⟩:=H.of_way w'.rev H.zero
   rw [hu] at h1
   cases h1
   simpa using h2
  refine ⟨by simpa [e2] using long,fun e'=>?_⟩
  cases w' with
  | nil=>simp at long
  | @cons n' _ v' _ l'' j' w'' =>
   have el:l''.length=d:=by simp [e2] at e'; exact e'
   have hv':A v'=some d:=by
    obtain ⟨e,h1,h2⟩:=H.of_way w''.rev H.zero
    obtain ⟨e3,h3,h4⟩:=H.step _ _ _ _ j'.symm h1
    rw [hu] at h3
    cases h3
    simp at h2
    have:e=d:=by omega
    exact this▸h1
   have nn:=least n' v' j' hv'
   simp only [lexBefore,Bool.or_eq_false_iff,Bool.and_eq_false_iff,decide_eq_false_iff_not,beq_eq_false_iff_ne]
   refine ⟨by omega,?_⟩
   by_cases q:n'=n
   ·subst q
    have:=joins_fun ok j j'
    subst this
    exact .inr ((mn l'' w'').2 (by omega))
   ·exact .inl q
theorem Greedy.path{s:Scheme}{x:Rung.State}{t:Nat}{A:Nat->Option Nat}{l:List Nat}(ok:Okc s.contacts)(H:Dist s.contacts (fun c=>c.closed x) t A)(g:Greedy s.contacts (fun c=>c.closed x) t A 0 l):pathTo s x t=some l:=by
 obtain ⟨d,h1,h2,w,h3⟩:=g.best ok H
 exact path_some ok ⟨w,fun l' w'=>(h3 l' w').1,fun l' w' e=>(h3 l' w').2 e⟩
theorem Dist.path_no{s:Scheme}{x:Rung.State}{t:Nat}{A:Nat->Option Nat}(ok:Okc s.contacts)(H:Dist s.contacts (fun c=>c.closed x) t A)(h:A 0=none):pathTo s x t=none:=by
 refine path_none ok fun ⟨l,w⟩=>?_
 obtain ⟨d,hd⟩:=(H.some_iff 0).mp ⟨_,w.rev⟩
 rw [h] at hd
 cases hd
theorem Dist.live(ok:Okc cs)(H:Dist cs p 0 A)(k:Nat):(roundsG p cs 64 1).testBit k=(A k).isSome:=by
 have h:=(live_iff (p:=p) ok k).trans (H.some_iff k)
 cases e:A k with
 | none =>
  rw [e] at h
  cases q:(roundsG p cs 64 1).testBit k with
  | false=>rfl
  | true=>obtain ⟨d,hd⟩:=h.mp q; cases hd
 | some d =>
  rw [e] at h
  exact h.mpr ⟨d,rfl⟩
end
end CwG
namespace CwG
open Rung
def lnk1(p:Contact->Bool)(u:Nat)(x:Contact×Nat):Option (Nat×Nat) :=
 if p x.1=true then (if x.1.a=u then some (x.2,x.1.b) else if x.1.b=u then some (x.2,x.1.a) else none) else none
def lnk(cs:List Contact)(p:Contact->Bool)(u:Nat):List (Nat×Nat):=cs.zipIdx.filterMap (lnk1 p u)
section
variable {cs:List Contact} {p:Contact->Bool}
theorem mem_lnk(ok:Okc cs){n u v:Nat}:(n,v)∈lnk cs p u↔Joins cs p n u v:=by
 unfold lnk
 rw [List.mem_filterMap]
 constructor
 ·rintro ⟨⟨c,i⟩,h1,h2⟩
  have h1:=List.mem_zipIdx_iff_getElem?.mp h1
  unfold lnk1 at h2
  split at h2
  ·rename_i q
   split at h2
   ·rename_i q2
    cases h2
    exact ⟨c,h1,q,.inl ⟨q2,rfl⟩⟩
   ·split at h2
    ·rename_i q3
     cases h2
     exact ⟨c,h1,q,.inr ⟨q3,rfl⟩⟩
    ·cases h2
  ·cases h2
 ·rintro ⟨c,h1,h2,h3⟩
  have hc:=ok c (List.mem_of_getElem? h1)
  refine ⟨(c,n),List.mem_zipIdx_iff_getElem?.mpr h1,?_⟩
  unfold lnk1
  rw [if_pos h2]
  rcases h3 with ⟨e1,e2⟩ | ⟨e1,e2⟩
  ·rw [if_pos e1,e2]
  ·have:¬ c.a=u:=by omega
   rw [if_neg this,if_pos e1,e2]
theorem lnk_snoc(cs:List Contact)(c:Contact)(u:Nat):lnk (cs++[c]) p u=lnk cs p u++(lnk1 p u (c,cs.length)).toList:=by
 unfold lnk
 rw [List.zipIdx_append,List.filterMap_append]
 simp only [List.zipIdx_cons,List.zipIdx_nil,Nat.zero_add]
 cases e:lnk1 p u (c,cs.length) with
 | none=>simp [e]
 | some y=>simp [e]
theorem lnk_fst{x:Nat×Nat}{u:Nat}{c:Contact×Nat}(h:lnk1 p u c=some x):x.1=c.2:=by
 unfold lnk1 at h
 split at h
 ·split at h
  ·cases h; rfl
  ·split at h
   ·cases h; rfl
   ·cases h
 ·cases h
theorem lnk_sorted(u:Nat):((lnk cs p u).map (·.1)).Pairwise (· < ·):=by
 have:∀ (cs:List Contact) (k:Nat),((cs.zipIdx k).filterMap (lnk1 p u)).Pairwise (fun a b=>a.1 < b.1)∧∀ x∈(cs.zipIdx k).filterMap (lnk1 p u),k≤x.1:=by
  intro cs
  induction cs with
  | nil=>intro k; simp
  | cons c cs ih =>
   intro k
   obtain ⟨h1,h2⟩:=ih (k+1)
   rw [List.zipIdx_cons,List.filterMap_cons]
   cases e:lnk1 p u (c,k) with
   | none=>exact ⟨h1,fun x hx=>by have:=h2 x hx; omega⟩
   | some y =>
    have ey:y.1=k:=lnk_fst e
    refine ⟨List.pairwise_cons.mpr ⟨fun x hx=>by have:=h2 x hx; omega,h1⟩,fun x hx=>?_⟩
    rcases List.mem_cons.mp hx with z | z
    ·rw [z]; omega
    ·have:=h2 x z; omega
 rw [List.pairwise_map]
 exact (this cs 0).1
def setA(A:Nat->Option Nat)(v d:Nat):Nat->Option Nat:=fun w=>if w=v then some d else A w
structure Bfs(L:Nat->List (Nat×Nat))(t:Nat)(A:Nat->Option Nat)(re:List Nat)(dn:Nat):Prop where
 zero:A t=some 0
 only:∀ v,A v=some 0->v=t
 nd:re.Nodup
 mem:∀ v,v∈re↔∃ d,A v=some d
 sorted:re.Pairwise fun u v=>∀ d e,A u=some d->A v=some e->d≤e
 near:∀ u v d e,re[dn]?=some u->v∈re->A u=some d->A v=some e->e≤d+1
 done:∀ u,u∈re.take dn->∀ d n v,A u=some d->(n,v)∈L u->∃ e,A v=some e∧e≤d+1
 pred:∀ v d,A v=some (d+1)->∃ n u,(n,v)∈L u∧A u=some d
 lt:∀ v,v∈re->v < 64
structure Mid(L:Nat->List (Nat×Nat))(t:Nat)(A:Nat->Option Nat)(re:List Nat)(dn u d i:Nat):Prop where
 zero:A t=some 0
 only:∀ v,A v=some 0->v=t
 nd:re.Nodup
 mem:∀ v,v∈re↔∃ d,A v=some d
 sorted:re.Pairwise fun u v=>∀ d e,A u=some d->A v=some e->d≤e
 here:re[dn]?=some u
 hd:A u=some d
 near:∀ v e,v∈re->A v=some e->e≤d+1
 done:∀ u,u∈re.take dn->∀ d n v,A u=some d->(n,v)∈L u->∃ e,A v=some e∧e≤d+1
 part:∀ n v,(n,v)∈(L u).take i->∃ e,A v=some e∧e≤d+1
 pred:∀ v d,A v=some (d+1)->∃ n u,(n,v)∈L u∧A u=some d
 lt:∀ v,v∈re->v < 64
variable {L:Nat->List (Nat×Nat)} {t:Nat} {A:Nat->Option Nat} {re:List Nat} {dn:Nat}
theorem bfs0(ht:t < 64):Bfs L t (setA (fun _=>none) t 0) [t] 0:=by
 have a:∀ v d,setA (fun _=>none) t 0 v=some d->v=t∧d=0:=fun v d h=>by
  unfold setA at h
  split at h
  ·rename_i q; cases h; exact ⟨q,rfl⟩
  ·cases h
 refine ⟨by simp [setA],fun v h=>(a v 0 h).1,by simp,fun v=>⟨fun h=>⟨0,by rw [List.mem_singleton.mp h]; simp [setA]⟩,fun ⟨d,h⟩=>List.mem_singleton.mpr (a v d h).1⟩,by simp,fun u v d e _ _ h1 h2=>?_,fun u h=>by simp at h,fun v d h=>?_,fun v h=>by rw [List.mem_singleton.mp h]; exact ht⟩
 ·have:=(a u d h1).2; have:=(a v e h2).2; omega
 ·have:=(a v _ h).2; omega
theorem Bfs.mid(B:Bfs L t A re dn){u:Nat}(hu:re[dn]?=some u):∃ d,A u=some d∧Mid L t A re dn u d 0:=by
 obtain ⟨d,hd⟩:=(B.mem u).mp (List.mem_of_getElem? hu)
 exact ⟨d,hd,B.zero,B.only,B.nd,B.mem,B.sorted,hu,hd,fun v e hv he=>B.near u v d e hu hv hd he,B.done,fun n v h=>by simp at h,B.pred,B.lt⟩
theorem Bfs.len(B:Bfs L t A re dn):re.length≤64:=nodup_le 64 re B.nd B.lt
theorem Mid.len{u d i:Nat}(B:Mid L t A re dn u d i):re.length≤64:=nodup_le 64 re B.nd B.lt
theorem take_snoc{α:Type}{l:List α}{i:Nat}{x:α}(h:l[i]?=some x):l.take (i+1)=l.take i++[x]:=by
 rw [List.take_add_one,h]; rfl
theorem Mid.seen{u d i n v:Nat}(B:Mid L t A re dn u d i)(h:(L u)[i]?=some (n,v)){e:Nat}(hv:A v=some e):Mid L t A re dn u d (i+1):=by
 refine ⟨B.zero,B.only,B.nd,B.mem,B.sorted,B.here,B.hd,B.near,B.done,fun n' v' h'=>?_,B.pred,B.lt⟩
 rw [take_snoc h] at h'
 rcases List.mem_append.mp h' with z | z
 ·exact B.part n' v' z
 ·cases List.mem_singleton.mp z
  exact ⟨e,hv,B.near _ e ((B.mem _).mpr ⟨e,hv⟩) hv⟩
theorem take_app{α:Type}{l:List α}{x:α}{n:Nat}{y:α}(h:l[n]?=some y):(l++[x]).take n=l.take n:=by
 have:=(List.getElem?_eq_some_iff.mp h).1
 exact List.take_append_of_le_length (by omega)
theorem Mid.new{u d i n v:Nat}(B:Mid L t A re dn u d i)(h:(L u)[i]?=some (n,v))(hv:A v=none)(hlt:v < 64):Mid L t (setA A v (d+1)) (re++[v]) dn u d (i+1):=by
 have old:∀ {w e},A w=some e->setA A v (d+1) w=some e:=fun {w e} hw=>by
  unfold setA
  rw [if_neg (by rintro rfl; rw [hv] at hw; cases hw)]
  exact hw
 have inv:∀ {w e},setA A v (d+1) w=some e->(w=v∧e=d+1)∨(w≠v∧A w=some e):=fun {w e} hw=>by
  unfold setA at hw
  split at hw
  ·rename_i q; cases hw; exact .inl ⟨q,rfl⟩
  ·rename_i q; exact .inr ⟨q,hw⟩
 have nin:v∉re:=fun m=>by obtain ⟨e,he⟩:=(B.mem v).mp m; rw [hv] at he; cases he
 have self:setA A v (d+1) v=some (d+1):=by simp [setA]
 have lif:∀ {w e},(∃ e',A w=some e'∧e'≤e)->∃ e',setA A v (d+1) w=some e'∧e'≤e:=fun ⟨e',h1,h2⟩=>⟨e',old h1,h2⟩
 refine ⟨old B.zero,fun w hw=>?_,?_,fun w=>?_,?_,?_,old B.hd,fun w e hw he=>?_,fun w hw d' n' v' hd' hl=>?_,fun n' v' hl=>?_,fun w d' hw=>?_,fun w hw=>?_⟩
 ·rcases inv hw with ⟨_,z⟩ | ⟨_,z⟩
  ·cases z
  ·exact B.only w z
 ·rw [List.nodup_append]
  refine ⟨B.nd,by simp,fun a ha b hb=>?_⟩
  rw [List.mem_singleton.mp hb]
  rintro rfl
  exact nin ha
 ·rw [List.mem_append,List.mem_singleton]
  constructor
  ·rintro (z | z)
   ·obtain ⟨e,he⟩:=(B.mem w).mp z
    exact ⟨e,old he⟩
   ·rw [z]; exact ⟨_,self⟩
  ·rintro ⟨e,he⟩
   rcases inv he with ⟨z,_⟩ | ⟨_,z⟩
   ·exact .inr z
   ·exact .inl ((B.mem w).mpr ⟨e,z⟩)
 ·rw [List.pairwise_append]
  refine ⟨B.sorted.imp_of_mem fun {a b} ha hb q d1 e1 h1 h2=>?_,by simp,fun a ha b hb d1 e1 h1 h2=>?_⟩
  ·rcases inv h1 with ⟨z,_⟩ | ⟨_,z1⟩
   ·exact absurd (z▸ha) nin
   ·rcases inv h2 with ⟨z,_⟩ | ⟨_,z2⟩
    ·exact absurd (z▸hb) nin
    ·exact q d1 e1 z1 z2
  ·have eb:=List.mem_singleton.mp hb
   subst eb
   rw [self] at h2
   cases h2
   rcases inv h1 with ⟨z,_⟩ | ⟨_,z1⟩
   ·exact absurd (z▸ha) nin
   ·exact B.near a d1 ha z1
 ·rw [List.getElem?_append_left (List.getElem?_eq_some_iff.mp B.here).1]
  exact B.here
 ·rcases inv he with ⟨_,z⟩ | ⟨q,z⟩
  ·omega
  ·rcases List.mem_append.mp hw with m | m
   ·exact B.near w e m z
   ·exact absurd (List.mem_singleton.mp m) q
 ·rw [take_app B.here] at hw
  have hwr:w∈re:=List.mem_of_mem_take hw
  rcases inv hd' with ⟨z,_⟩ | ⟨_,z⟩
  ·exact absurd (z▸hwr) nin
  ·exact lif (B.done w hw d' n' v' z hl)
 ·rw [take_snoc h] at hl
  rcases List.mem_append.mp hl with z | z
  ·exact lif (B.part n' v' z)
  ·cases List.mem_singleton.mp z
   exact ⟨d+1,self,Nat.le_refl _⟩
 ·rcases inv hw with ⟨z1,z2⟩ | ⟨_,z⟩
  ·cases z2
   rw [z1]
   exact ⟨n,u,List.mem_of_getElem? h,old B.hd⟩
  ·obtain ⟨n',u',h1,h2⟩:=B.pred w d' z
   exact ⟨n',u',h1,old h2⟩
 ·rcases List.mem_append.mp hw with m | m
  ·exact B.lt w m
  ·rw [List.mem_singleton.mp m]; exact hlt
theorem Mid.fin{u d:Nat}(B:Mid L t A re dn u d (L u).length):Bfs L t A re (dn+1):=by
 refine ⟨B.zero,B.only,B.nd,B.mem,B.sorted,fun u' v d' e hu' hv hd' he=>?_,fun w hw d' n v hd' hl=>?_,B.pred,B.lt⟩
 ·have h1:=B.near v e hv he
  obtain ⟨l1,e1⟩:=List.getElem?_eq_some_iff.mp B.here
  obtain ⟨l2,e2⟩:=List.getElem?_eq_some_iff.mp hu'
  have:=List.pairwise_iff_getElem.mp B.sorted dn (dn+1) l1 l2 (by omega) d d' (by rw [e1]; exact B.hd) (by rw [e2]; exact hd')
  omega
 ·rw [take_snoc B.here] at hw
  rcases List.mem_append.mp hw with z | z
  ·exact B.done w z d' n v hd' hl
  ·cases List.mem_singleton.mp z
   rw [B.hd] at hd'
   cases hd'
   exact B.part n v (by rw [List.take_length]; exact hl)
theorem Bfs.dist(ok:Okc cs)(B:Bfs (lnk cs p) t A re dn)(h:re.length≤dn):Dist cs p t A:=by
 refine ⟨B.zero,B.only,fun n u v d j hu=>?_,fun v d hv=>?_⟩
 ·have:u∈re.take dn:=by rw [List.take_of_length_le h]; exact (B.mem u).mpr ⟨d,hu⟩
  exact B.done u this d n v hu ((mem_lnk ok).mpr j)
 ·obtain ⟨n,u,h1,h2⟩:=B.pred v d hv
  exact ⟨n,u,(mem_lnk ok).mp h1,h2⟩
end
end CwG
namespace CwG
open Rung
theorem fm_congr{α β:Type}{f g:α->Option β}:∀ {l:List α},(∀ x∈l,f x=g x)->l.filterMap f=l.filterMap g
 | [],_=>rfl
 | a::l,h=>by rw [List.filterMap_cons,List.filterMap_cons,h a (List.mem_cons_self ..),fm_congr fun x hx=>h x (List.mem_cons_of_mem _ hx)]
theorem lnk_congr{cs:List Contact}{p q:Contact->Bool}(h:∀ c∈cs,p c=q c):lnk cs p=lnk cs q:=by
 funext u
 unfold lnk
 apply fm_congr
 intro x hx
 have:x.1∈cs:=by
  obtain ⟨c,i⟩:=x
  exact List.mem_of_getElem? (List.mem_zipIdx_iff_getElem?.mp hx)
 unfold lnk1
 rw [h _ this]
theorem on_bit(x v:Nat):State.on x v=x.testBit v:=by
 unfold State.on
 rw [Nat.testBit_eq_decide_div_mod_eq]
 by_cases h:x / 2 ^ v % 2=1
 ·rw [h]; rfl
 ·rw [decide_eq_false h]
  exact beq_eq_false_iff_ne.mpr h
theorem by_closed{c:Contact}{x:Nat}(hx:x < 4294967296)(hv:c.var < 32):c.by_ ⟨x,4294967295 - x⟩=c.closed x:=by
 unfold Contact.by_ Contact.closed
 rw [on_bit]
 have e:(4294967295 - x).testBit c.var=!x.testBit c.var:=by
  have h:=Nat.testBit_two_pow_sub_succ (n:=32) (x:=x) (by omega) c.var
  have e2:2 ^ 32 - (x+1)=4294967295 - x:=by omega
  rw [e2] at h
  rw [h,decide_eq_true hv]
  simp
 cases c.closer<;>simp [e]
structure Ws(s:Scheme):Prop where
 okc:Okc s.contacts
 len:s.contacts.length≤256
 var:∀ c∈s.contacts,s.hasVar c.var=true∧c.var < 32
theorem Ws.links{s:Scheme}(W:Ws s){x:Nat}(hx:x < 4294967296):(lnk s.contacts fun c=>c.by_ ⟨x,4294967295 - x⟩)=lnk s.contacts fun c=>c.closed x:=lnk_congr fun c hc=>by_closed hx (W.var c hc).2
end CwG
namespace CwG
open Rung
theorem addpow:∀ (v n w:Nat),n.testBit v=false->(n+2 ^ v).testBit w=(n.testBit w||decide (w=v))
 | 0,n,w,h=>by
  have hn:n % 2=0:=by
   rw [Nat.testBit_zero] at h
   have:=of_decide_eq_false h
   omega
  cases w with
  | zero =>
   rw [Nat.testBit_zero,Nat.testBit_zero]
   have:(n+2 ^ 0) % 2=1:=by simp; omega
   simp [this]
  | succ w =>
   rw [Nat.testBit_succ,Nat.testBit_succ]
   have:(n+2 ^ 0) / 2=n / 2:=by simp; omega
   rw [this]
   simp
 | v+1,n,w,h=>by
  rw [Nat.testBit_succ] at h
  have e:2 ^ (v+1)=2*2 ^ v:=by rw [Nat.pow_succ,Nat.mul_comm]
  cases w with
  | zero =>
   rw [Nat.testBit_zero,Nat.testBit_zero,e]
   have:(n+2*2 ^ v) % 2=n % 2:=by omega
   rw [this]
   simp
  | succ w =>
   rw [Nat.testBit_succ,Nat.testBit_succ,e]
   have:(n+2*2 ^ v) / 2=n / 2+2 ^ v:=by omega
   rw [this,addpow v (n / 2) w h]
   simp
theorem powers:∀ (l:List Nat) (n:Nat),l.Nodup->(∀ v∈l,n.testBit v=false)->∀ w,(l.foldl (fun (n v:Nat)=>n+2 ^ v) n).testBit w=(n.testBit w||decide (w∈l))
 | [],n,_,_,w=>by simp
 | v::l,n,hn,h,w=>by
  obtain ⟨h1,h2⟩:=List.nodup_cons.mp hn
  have hv:=h v (List.mem_cons_self ..)
  rw [List.foldl_cons,powers l _ h2 (fun u hu=>?_),addpow v n w hv]
  ·rw [Bool.or_assoc]
   congr 1
   rw [Bool.eq_iff_iff]
   simp [List.mem_cons]
  ·rw [addpow v n u hv,h u (List.mem_cons_of_mem _ hu)]
   have:u≠v:=by rintro rfl; exact h1 hu
   simp [this]
theorem clean_bit(s:Scheme)(x v:Nat):(s.clean x).testBit v=(decide (v < 32)&&(s.hasVar v&&x.testBit v)):=by
 unfold Scheme.clean
 rw [powers _ 0 (List.nodup_range.sublist List.filter_sublist) (fun _ _=>Nat.zero_testBit _),Nat.zero_testBit,Bool.false_or,Bool.eq_iff_iff,decide_eq_true_iff,List.mem_filter,List.mem_range,on_bit]
 simp
theorem by_clean{s:Scheme}{c:Contact}(W:Ws s)(hc:c∈s.contacts)(p q:Nat):c.by_ ⟨s.clean p,s.clean q⟩=c.by_ ⟨p,q⟩:=by
 obtain ⟨h1,h2⟩:=W.var c hc
 unfold Contact.by_
 simp only [clean_bit,h1,decide_eq_true h2,Bool.true_and]
theorem and_zero{a b:Nat}:(a&&&b)≠0↔∃ v,a.testBit v=true∧b.testBit v=true:=by
 constructor
 ·intro h
  apply Classical.byContradiction
  intro n
  apply h
  apply Nat.eq_of_testBit_eq
  intro i
  rw [Nat.testBit_and,Nat.zero_testBit]
  cases e1:a.testBit i with
  | false=>rfl
  | true =>
   cases e2:b.testBit i with
   | false=>rfl
   | true=>exact (n ⟨i,e1,e2⟩).elim
 ·rintro ⟨v,h1,h2⟩ e
  have:=congrArg (fun n=>n.testBit v) e
  simp only [Nat.testBit_and,h1,h2,Nat.zero_testBit] at this
  cases this
def BitsOf(s:Scheme)(b:Nat):Prop:=∀ v,b.testBit v=(decide (v < 32)&&s.hasVar v)
theorem clash_iff{s:Scheme}{b p q:Nat}(hb:BitsOf s b):((p&&&q)&&&b≠0)↔(s.clean p&&&s.clean q)≠0:=by
 rw [and_zero,and_zero]
 constructor
 ·rintro ⟨v,h1,h2⟩
  rw [Nat.testBit_and] at h1
  rw [hb] at h2
  refine ⟨v,?_⟩
  rw [clean_bit,clean_bit]
  revert h1 h2
  cases p.testBit v<;>cases q.testBit v<;>cases decide (v < 32)<;>cases s.hasVar v<;>simp
 ·rintro ⟨v,h1,h2⟩
  rw [clean_bit] at h1 h2
  refine ⟨v,?_⟩
  rw [hb,Nat.testBit_and]
  revert h1 h2
  cases p.testBit v<;>cases q.testBit v<;>cases decide (v < 32)<;>cases s.hasVar v<;>simp
theorem suffice_eq{s:Scheme}{A:Nat->Option Nat}{p q k:Nat}(W:Ws s)(H:Dist s.contacts (fun c=>c.by_ ⟨p,q⟩) 0 A):suffice s ⟨s.clean p,s.clean q⟩ k=(A k).isSome:=by
 unfold suffice
 rw [roundsBy_eq]
 have e:Dist s.contacts (fun c=>c.by_ ⟨s.clean p,s.clean q⟩) 0 A:=by
  have j:∀ n u v,Joins s.contacts (fun c=>c.by_ ⟨s.clean p,s.clean q⟩) n u v↔Joins s.contacts (fun c=>c.by_ ⟨p,q⟩) n u v:=fun n u v=>by
   constructor
   ·rintro ⟨c,h1,h2,h3⟩
    exact ⟨c,h1,(by_clean W (List.mem_of_getElem? h1) p q).symm.trans h2,h3⟩
   ·rintro ⟨c,h1,h2,h3⟩
    exact ⟨c,h1,(by_clean W (List.mem_of_getElem? h1) p q).trans h2,h3⟩
  exact ⟨H.zero,H.only,fun n u v d h=>H.step n u v d ((j n u v).mp h),fun v d h=>let ⟨n,u,h1,h2⟩:=H.pred v d h; ⟨n,u,(j n u v).mpr h1,h2⟩⟩
 exact e.live W.okc k
def bdr(A:Nat->Option Nat)(cs:List Contact):List Nat:=cs.zipIdx.filterMap fun u=>if (A u.1.a).isSome≠(A u.1.b).isSome then some u.2 else none
theorem zip_snoc{cs:List Contact}{i:Nat}{c:Contact}(h:cs[i]?=some c):(cs.take (i+1)).zipIdx=(cs.take i).zipIdx++[(c,i)]:=by
 have hl:(cs.take i).length=i:=by
  have:=(List.getElem?_eq_some_iff.mp h).1
  rw [List.length_take]
  omega
 rw [take_snoc h,List.zipIdx_append,hl]
 simp
theorem bdr_snoc{A:Nat->Option Nat}{cs:List Contact}{i:Nat}{c:Contact}(h:cs[i]?=some c):bdr A (cs.take (i+1))=bdr A (cs.take i)++if (A c.a).isSome≠(A c.b).isSome then [i] else []:=by
 unfold bdr
 rw [zip_snoc h,List.filterMap_append]
 congr 1
 by_cases q:(A c.a).isSome≠(A c.b).isSome
 ·rw [if_pos q]
  simp only [List.filterMap_cons,if_pos q,List.filterMap_nil]
 ·rw [if_neg q]
  simp only [List.filterMap_cons,if_neg q,List.filterMap_nil]
theorem bdr_len(A:Nat->Option Nat)(cs:List Contact):(bdr A cs).length≤cs.length:=by
 have:=List.length_filterMap_le (fun u:Contact×Nat=>if (A u.1.a).isSome≠(A u.1.b).isSome then some u.2 else none) cs.zipIdx
 rw [List.length_zipIdx] at this
 exact this
theorem border_eq{s:Scheme}{A:Nat->Option Nat}{x:Nat}(W:Ws s)(H:Dist s.contacts (fun c=>c.closed x) 0 A):border s x=bdr A s.contacts:=by
 unfold border bdr
 have e:∀ k,(liveNodes s x).testBit k=(A k).isSome:=fun k=>by
  unfold liveNodes
  rw [rounds_eq]
  exact H.live W.okc k
 simp only [e]
end CwG
namespace CwG
open Rung
@[elab_as_elim] theorem snocRec {α:Type} {motive:List α->Prop} (l:List α) (nil:motive []) (append_singleton:∀ (l:List α) (a:α),motive l->motive (l++[a])):motive l:=by
 have h:∀ r:List α,motive r.reverse:=fun r=>by
  induction r with
  | nil=>exact nil
  | cons a r ih=>rw [List.reverse_cons]; exact append_singleton _ a ih
 have:=h l.reverse
 rwa [List.reverse_reverse] at this
def nb(f:Nat->Bool):Nat:=(((List.range 64).filter f).map fun v=>2 ^ v).sum
theorem sum_pows:∀ (l:List Nat),l.Nodup->∀ w,((l.map fun v=>2 ^ v).sum).testBit w=decide (w∈l)
 | [],_,w=>by simp
 | v::l,h,w=>by
  have h:=List.nodup_cons.mp h
  have ih:=sum_pows l h.2
  rw [List.map_cons,List.sum_cons,Nat.add_comm,addpow v _ w (by rw [ih v]; simp [h.1]),ih w]
  by_cases e:w=v
  ·simp [e]
  ·simp [e]
theorem nb_bit(f:Nat->Bool)(k:Nat):(nb f).testBit k=(decide (k < 64)&&f k):=by
 unfold nb
 rw [sum_pows _ ((List.nodup_range).filter _) k]
 simp [Bool.decide_and]
theorem nb_congr{f g:Nat->Bool}(h:∀ k,k < 64->f k=g k):nb f=nb g:=by
 apply Nat.eq_of_testBit_eq
 intro k
 rw [nb_bit,nb_bit]
 by_cases e:k < 64
 ·simp [e,h k e]
 ·simp [e]
theorem sorted_unique{α:Type}{R:α->α->Prop}(irr:∀ a,¬ R a a)(asy:∀ a b,R a b->¬ R b a):∀ {l m:List α},l.Pairwise R->m.Pairwise R->(∀ x,x∈l↔x∈m)->l=m
 | [],[],_,_,_=>rfl
 | [],b::m,_,_,h=>absurd ((h b).mpr (List.mem_cons_self ..)) (by simp)
 | a::l,[],_,_,h=>absurd ((h a).mp (List.mem_cons_self ..)) (by simp)
 | a::l,b::m,hl,hm,h=>by
  have hl':=List.pairwise_cons.mp hl
  have hm':=List.pairwise_cons.mp hm
  have e:a=b:=by
   rcases List.mem_cons.mp ((h a).mp (List.mem_cons_self ..)) with z | z
   ·exact z
   rcases List.mem_cons.mp ((h b).mpr (List.mem_cons_self ..)) with y | y
   ·exact y.symm
   exact absurd (hl'.1 b y) (asy _ _ (hm'.1 a z))
  subst e
  have hx:∀ x,x∈l↔x∈m:=fun x=>by
   constructor
   ·intro hx
    rcases List.mem_cons.mp ((h x).mp (List.mem_cons_of_mem _ hx)) with z | z
    ·subst z; exact absurd (hl'.1 x hx) (irr x)
    ·exact z
   ·intro hx
    rcases List.mem_cons.mp ((h x).mpr (List.mem_cons_of_mem _ hx)) with z | z
    ·subst z; exact absurd (hm'.1 x hx) (irr x)
    ·exact z
  rw [sorted_unique irr asy hl'.2 hm'.2 hx]
theorem used_lt(s:Scheme):s.used.Pairwise (· < ·):=List.Pairwise.filter _ List.pairwise_lt_range
theorem used_32(s:Scheme):∀ v∈s.used,v < 32:=fun v h=>List.mem_range.mp (List.mem_filter.mp h).1
theorem used_nd(s:Scheme):s.used.Nodup:=(used_lt s).imp fun h=>Nat.ne_of_lt h
def stOf(us:List Nat):List Nat:=us.foldl (fun st v=>st++st.map fun x=>x|||2 ^ v) [0]
theorem stOf_snoc(us:List Nat)(v:Nat):stOf (us++[v])=stOf us++(stOf us).map fun x=>x|||2 ^ v:=by unfold stOf; rw [List.foldl_append]; rfl
theorem sumN_snoc:∀ (l:List Nat) (x:Nat),sumN (l++[x])=sumN l+x
 | [],x=>by simp [sumN]
 | a::l,x=>by
  have:=sumN_snoc l x
  unfold sumN at *
  rw [List.cons_append,List.foldr_cons,List.foldr_cons,this]
  omega
theorem stateBy_snoc(us:List Nat)(v n:Nat):stateBy (us++[v]) n=stateBy us n+(if n.testBit us.length=true then 2 ^ v else 0):=by
 unfold stateBy
 rw [List.zipIdx_append,List.map_append]
 simp only [List.zipIdx_cons,List.zipIdx_nil,List.map_cons,List.map_nil]
 rw [sumN_snoc]
 simp
theorem stateBy_congr{us:List Nat}{n m:Nat}(h:∀ i,i < us.length->n.testBit i=m.testBit i):stateBy us n=stateBy us m:=by
 unfold stateBy
 congr 1
 apply List.map_congr_left
 rintro ⟨v,i⟩ hi
 have:=(List.mem_zipIdx hi).2.1
 simp only [Nat.zero_add] at this
 simp only [h i (by omega)]
theorem stateBy_bit{us:List Nat}(n:Nat):us.Nodup->∀ w,(stateBy us n).testBit w=true↔∃ i:Nat,us[i]?=some w∧n.testBit i=true:=by
 induction us using snocRec with
 | nil=>intro _ w; simp [stateBy,sumN]
 | append_singleton us v ih =>
  intro nd w
  have nd':=List.nodup_append.mp nd
  have ih:=ih nd'.1
  have hv:v∉us:=fun h=>nd'.2.2 v h v (by simp) rfl
  have bv:(stateBy us n).testBit v=false:=by
   cases e:(stateBy us n).testBit v with
   | false=>rfl
   | true =>
    obtain ⟨i,hi,_⟩:=(ih v).mp e
    exact absurd (List.mem_of_getElem? hi) hv
  rw [stateBy_snoc]
  by_cases hb:n.testBit us.length=true
  ·rw [if_pos hb,addpow v _ w bv,Bool.or_eq_true,ih w]
   constructor
   ·rintro (⟨i,h1,h2⟩ | h)
    ·exact ⟨i,by rw [List.getElem?_append_left (List.getElem?_eq_some_iff.mp h1).1]; exact h1,h2⟩
    ·have h:w=v:=by simpa using h
     exact ⟨us.length,by rw [h]; simp,hb⟩
   ·rintro ⟨i,h1,h2⟩
    by_cases hi:i < us.length
    ·rw [List.getElem?_append_left hi] at h1
     exact .inl ⟨i,h1,h2⟩
    ·have hl:=(List.getElem?_eq_some_iff.mp h1).1
     have:i=us.length:=by simp at hl; omega
     subst this
     simp at h1
     exact .inr (by simp [h1])
  ·rw [if_neg hb,Nat.add_zero,ih w]
   constructor
   ·rintro ⟨i,h1,h2⟩
    exact ⟨i,by rw [List.getElem?_append_left (List.getElem?_eq_some_iff.mp h1).1]; exact h1,h2⟩
   ·rintro ⟨i,h1,h2⟩
    by_cases hi:i < us.length
    ·rw [List.getElem?_append_left hi] at h1
     exact ⟨i,h1,h2⟩
    ·have hl:=(List.getElem?_eq_some_iff.mp h1).1
     have:i=us.length:=by simp at hl; omega
     subst this
     exact absurd h2 hb
theorem or_add{x v:Nat}(h:x.testBit v=false):x|||2 ^ v=x+2 ^ v:=by
 apply Nat.eq_of_testBit_eq
 intro w
 rw [addpow v _ w h,Nat.testBit_or,Nat.testBit_two_pow]
 congr 1
 exact decide_eq_decide.mpr ⟨fun h=>h.symm,fun h=>h.symm⟩
theorem stOf_eq(us:List Nat):us.Nodup->stOf us=(List.range (2 ^ us.length)).map (stateBy us):=by
 induction us using snocRec with
 | nil=>intro _; rfl
 | append_singleton us v ih =>
  intro nd
  have nd':=List.nodup_append.mp nd
  have hv:v∉us:=fun h=>nd'.2.2 v h v (by simp) rfl
  rw [stOf_snoc,ih nd'.1]
  have el:2 ^ (us++[v]).length=2 ^ us.length+2 ^ us.length:=by rw [List.length_append,List.length_singleton,Nat.pow_succ]; omega
  rw [el,List.range_add,List.map_append,List.map_map,List.map_map]
  congr 1
  ·apply List.map_congr_left
   intro n hn
   have hn:=List.mem_range.mp hn
   rw [stateBy_snoc,Nat.testBit_lt_two_pow hn]
   simp
  ·apply List.map_congr_left
   intro n hn
   have hn:=List.mem_range.mp hn
   simp only [Function.comp_apply]
   rw [stateBy_snoc,Nat.testBit_two_pow_add_eq,Nat.testBit_lt_two_pow hn]
   simp only [Bool.not_false,if_true]
   rw [stateBy_congr (n:=2 ^ us.length+n) (m:=n) fun i hi=>Nat.testBit_two_pow_add_gt hi n]
   apply or_add
   cases e:(stateBy us n).testBit v with
   | false=>rfl
   | true =>
    obtain ⟨i,hi,_⟩:=(stateBy_bit n nd'.1 v).mp e
    exact absurd (List.mem_of_getElem? hi) hv
theorem states_eq(s:Scheme):s.states=stOf s.used:=(stOf_eq _ (used_nd s)).symm
theorem stOf_mem(us:List Nat):∀ x,x∈stOf us↔∀ w,x.testBit w=true->w∈us:=by
 induction us using snocRec with
 | nil =>
  intro x
  simp only [stOf,List.foldl_nil,List.mem_singleton]
  constructor
  ·rintro rfl w h; simp at h
  ·intro h
   apply Nat.eq_of_testBit_eq
   intro w
   cases e:x.testBit w with
   | false=>simp
   | true=>exact absurd (h w e) (by simp)
 | append_singleton us v ih =>
  intro x
  rw [stOf_snoc,List.mem_append,List.mem_map]
  constructor
  ·rintro (h | ⟨y,hy,rfl⟩) w hw
   ·exact List.mem_append_left _ ((ih x).mp h w hw)
   ·rw [Nat.testBit_or,Bool.or_eq_true] at hw
    rcases hw with hw | hw
    ·exact List.mem_append_left _ ((ih y).mp hy w hw)
    ·rw [Nat.testBit_two_pow] at hw
     have:v=w:=by simpa using hw
     simp [this]
  ·intro h
   by_cases hx:x.testBit v=true∧v∉us
   ·right
    refine ⟨x^^^2 ^ v,(ih _).mpr fun w hw=>?_,?_⟩
    ·rw [Nat.testBit_xor,Nat.testBit_two_pow] at hw
     by_cases e:v=w
     ·subst e; rw [hx.1] at hw; simp at hw
     ·have:x.testBit w=true:=by simpa [e] using hw
      rcases List.mem_append.mp (h w this) with z | z
      ·exact z
      ·exact absurd (List.mem_singleton.mp z).symm e
    ·apply Nat.eq_of_testBit_eq
     intro w
     rw [Nat.testBit_or,Nat.testBit_xor,Nat.testBit_two_pow]
     by_cases e:v=w
     ·subst e; simp [hx.1]
     ·simp [e]
   ·left
    refine (ih x).mpr fun w hw=>?_
    rcases List.mem_append.mp (h w hw) with z | z
    ·exact z
    ·have z:=List.mem_singleton.mp z
     subst z
     cases hm:decide (w∈us) with
     | true=>simpa using hm
     | false=>exact absurd ⟨hw,by simpa using hm⟩ hx
theorem stOf_lt{us:List Nat}(h:∀ v∈us,v < 32):∀ x∈stOf us,x < 4294967296:=fun x hx=>by
 have:x < 2 ^ 32:=Nat.lt_pow_two_of_testBit x fun i hi=>by
  cases e:x.testBit i with
  | false=>rfl
  | true=>have:=h i ((stOf_mem us x).mp hx i e); omega
 omega
theorem stOf_len(us:List Nat):(stOf us).length=2 ^ us.length:=by
 induction us using snocRec with
 | nil=>rfl
 | append_singleton us v ih=>rw [stOf_snoc,List.length_append,List.length_map,ih,List.length_append,List.length_singleton,Nat.pow_succ]; omega
theorem or_inj{v x y:Nat}(hx:x.testBit v=false)(hy:y.testBit v=false)(h:x|||2 ^ v=y|||2 ^ v):x=y:=by
 rw [or_add hx,or_add hy] at h
 omega
theorem stOf_bit{us:List Nat}{v x:Nat}(hv:v∉us)(hx:x∈stOf us):x.testBit v=false:=by
 cases e:x.testBit v with
 | false=>rfl
 | true=>exact absurd ((stOf_mem us x).mp hx v e) hv
theorem stOf_nd(us:List Nat):us.Nodup->(stOf us).Nodup:=by
 induction us using snocRec with
 | nil=>intro _; simp [stOf]
 | append_singleton us v ih =>
  intro nd
  have nd':=List.nodup_append.mp nd
  have hv:v∉us:=fun h=>nd'.2.2 v h v (by simp) rfl
  rw [stOf_snoc,List.nodup_append]
  refine ⟨ih nd'.1,?_,?_⟩
  ·rw [List.nodup_iff_pairwise_ne,List.pairwise_map]
   refine List.Pairwise.imp_of_mem (R:=(·≠·)) ?_ (List.nodup_iff_pairwise_ne.mp (ih nd'.1))
   intro a b ha hb hab e
   exact hab (or_inj (stOf_bit hv ha) (stOf_bit hv hb) e)
  ·intro a ha b hb e
   obtain ⟨y,hy,rfl⟩:=List.mem_map.mp hb
   have:a.testBit v=true:=by rw [e,Nat.testBit_or,Nat.testBit_two_pow]; simp
   rw [stOf_bit hv ha] at this
   cases this
theorem turned_xor(x v:Nat):turned x v=x^^^2 ^ v:=by
 unfold turned
 rw [on_bit]
 cases e:x.testBit v with
 | true =>
  rw [if_pos rfl]
  have h1:(x^^^2 ^ v).testBit v=false:=by rw [Nat.testBit_xor,Nat.testBit_two_pow,e]; simp
  have h2:x=(x^^^2 ^ v)+2 ^ v:=by
   apply Nat.eq_of_testBit_eq
   intro w
   rw [addpow v _ w h1,Nat.testBit_xor,Nat.testBit_two_pow]
   by_cases q:v=w
   ·subst q; simp [e]
   ·simp [q,Ne.symm q]
  exact Nat.sub_eq_of_eq_add h2
 | false =>
  rw [if_neg (by simp)]
  apply Nat.eq_of_testBit_eq
  intro w
  rw [addpow v _ w e,Nat.testBit_xor,Nat.testBit_two_pow]
  by_cases q:v=w
  ·subst q; simp [e]
  ·simp [q,Ne.symm q]
theorem turned_mem{us:List Nat}{x v:Nat}(hv:v∈us)(hx:x∈stOf us):x^^^2 ^ v∈stOf us:=by
 rw [stOf_mem] at hx ⊢
 intro w hw
 rw [Nat.testBit_xor,Nat.testBit_two_pow] at hw
 by_cases q:v=w
 ·subst q; exact hv
 ·exact hx w (by simpa [q] using hw)
def lvN(s:Scheme)(x:Nat):Nat:=nb fun k=>(liveNodes s x).testBit k
theorem lvN_bit(s:Scheme)(x:Nat){k:Nat}(h:k < 64):(lvN s x).testBit k=(liveNodes s x).testBit k:=by unfold lvN; rw [nb_bit,decide_eq_true h,Bool.true_and]
theorem lvN_dist{s:Scheme}{A:Nat->Option Nat}{x:Nat}(W:Ws s)(H:Dist s.contacts (fun c=>c.closed x) 0 A):nb (fun k=>(A k).isSome)=lvN s x:=nb_congr fun k _=>by
 unfold liveNodes
 rw [rounds_eq]
 exact (H.live W.okc k).symm
theorem find_congr{α:Type}{p q:α->Bool}:∀ {l:List α},(∀ x∈l,p x=q x)->l.find? p=l.find? q
 | [],_=>rfl
 | a::l,h=>by rw [List.find?_cons,List.find?_cons,h a (List.mem_cons_self ..),find_congr fun x hx=>h x (List.mem_cons_of_mem _ hx)]
theorem any_congr'{α:Type}{p q:α->Bool}:∀ {l:List α},(∀ x∈l,p x=q x)->l.any p=l.any q
 | [],_=>rfl
 | a::l,h=>by rw [List.any_cons,List.any_cons,h a (List.mem_cons_self ..),any_congr' fun x hx=>h x (List.mem_cons_of_mem _ hx)]
theorem first_eq(s:Scheme){k l:Nat}(hk:k < 64)(hl:l < 64):firstDiffer s k l=(stOf s.used).find? fun x=>(lvN s x).testBit k != (lvN s x).testBit l:=by
 unfold firstDiffer
 rw [states_eq]
 exact find_congr fun x _=>by rw [lvN_bit s x hk,lvN_bit s x hl]
def mat(s:Scheme)(k v:Nat):Bool:=(stOf s.used).any fun x=>(lvN s x).testBit k != (lvN s (x^^^2 ^ v)).testBit k
theorem matter_eq(s:Scheme){k:Nat}(hk:k < 64):mattersTo s k=s.used.filter (mat s k):=by
 unfold mattersTo mat
 rw [states_eq]
 congr 1
 funext v
 exact any_congr' fun x _=>by rw [lvN_bit s x hk,lvN_bit s _ hk,turned_xor]
end CwG
namespace CwG
open Rung
theorem count_add{p:Nat->Bool}{v:Nat}(hp:p v=false):∀ l:List Nat,l.Nodup->v∈l->(l.filter (fun w=>p w||decide (w=v))).length=(l.filter p).length+1
 | [],_,h=>absurd h (by simp)
 | a::l,nd,h=>by
  have nd:=List.nodup_cons.mp nd
  by_cases e:a=v
  ·subst e
   have q:l.filter (fun w=>p w||decide (w=a))=l.filter p:=List.filter_congr fun w hw=>by
    have:w≠a:=fun z=>nd.1 (z▸hw)
    simp [this]
   rw [List.filter_cons,List.filter_cons,q,hp]
   simp
  ·have h':v∈l:=by
    rcases List.mem_cons.mp h with z | z
    ·exact absurd z.symm e
    ·exact z
   have ih:=count_add hp l nd.2 h'
   rw [List.filter_cons,List.filter_cons]
   simp only [e,decide_false,Bool.or_false]
   cases p a<;>simp [ih]
theorem bitsOf_add{x v:Nat}(hv:v < 32)(h:x.testBit v=false):bitsOf (x|||2 ^ v)=bitsOf x+1:=by
 unfold bitsOf
 rw [←count_add (p:=fun w=>x.testBit w) h (List.range 32) List.nodup_range (List.mem_range.mpr hv)]
 congr 1
 apply List.filter_congr
 intro w _
 rw [Nat.testBit_or,Nat.testBit_two_pow]
 congr 1
 exact decide_eq_decide.mpr ⟨fun h=>h.symm,fun h=>h.symm⟩
def clr(x v:Nat):Nat:=if x.testBit v=true then x - 2 ^ v else x
theorem clr_bit(x v w:Nat):(clr x v).testBit w=(x.testBit w&&decide (w≠v)):=by
 have e:clr x v=if x.testBit v=true then x^^^2 ^ v else x:=by
  unfold clr
  by_cases h:x.testBit v=true
  ·rw [if_pos h,if_pos h,←turned_xor]
   unfold turned
   rw [on_bit,if_pos h]
  ·rw [if_neg h,if_neg h]
 rw [e]
 by_cases h:x.testBit v=true
 ·rw [if_pos h,Nat.testBit_xor,Nat.testBit_two_pow]
  by_cases q:w=v
  ·subst q; simp [h]
  ·simp [q,Ne.symm q]
 ·rw [if_neg h]
  by_cases q:w=v
  ·subst q; simpa using h
  ·simp [q]
theorem clr_or{x v:Nat}(h:x.testBit v=true):x=clr x v|||2 ^ v:=by
 apply Nat.eq_of_testBit_eq
 intro w
 rw [Nat.testBit_or,clr_bit,Nat.testBit_two_pow]
 by_cases q:w=v
 ·subst q; simp [h]
 ·simp [q,Ne.symm q]
theorem clr_no{x v:Nat}(h:x.testBit v=false):clr x v=x:=by unfold clr; rw [if_neg (by simp [h])]
abbrev Row:=Nat×Nat×Nat
def condStep(rows:List Row)(v:Nat):List Row:=rows++rows.map (fun r=>(r.1+1,r.2.1|||2 ^ v,r.2.2))++rows.map fun r=>(r.1+1,r.2.1,r.2.2|||2 ^ v)
def cdOf(us:List Nat):List Row:=us.foldl condStep [(0,0,0)]
theorem cdOf_snoc(us:List Nat)(v:Nat):cdOf (us++[v])=condStep (cdOf us) v:=by unfold cdOf; rw [List.foldl_append]; rfl
theorem cdOf_len(us:List Nat):(cdOf us).length=3 ^ us.length:=by
 induction us using snocRec with
 | nil=>rfl
 | append_singleton us v ih =>
  rw [cdOf_snoc,List.length_append,List.length_singleton,Nat.pow_succ]
  unfold condStep
  simp only [List.length_append,List.length_map,ih]
  omega
structure CdOk(us:List Nat)(p q:Nat):Prop where
 on:∀ w,p.testBit w=true->w∈us
 off:∀ w,q.testBit w=true->w∈us
 dis:∀ w,p.testBit w=true->q.testBit w=false
theorem zero_bits{x:Nat}(h:∀ w,x.testBit w=true->w∈([]:List Nat)):x=0:=by
 apply Nat.eq_of_testBit_eq
 intro w
 cases e:x.testBit w with
 | false=>simp
 | true=>exact absurd (h w e) (by simp)
theorem bits0:bitsOf 0=0:=by
 unfold bitsOf
 simp
theorem CdOk.grow{us:List Nat}{v on off:Nat}(h:CdOk us on off):CdOk (us++[v]) on off:=⟨fun w z=>List.mem_append_left _ (h.on w z),fun w z=>List.mem_append_left _ (h.off w z),h.dis⟩
theorem CdOk.clr{us:List Nat}{on off:Nat}(h:CdOk us on off)(v:Nat):CdOk us (clr on v) (clr off v) :=
 ⟨fun w z=>h.on w (by rw [clr_bit,Bool.and_eq_true] at z; exact z.1),fun w z=>h.off w (by rw [clr_bit,Bool.and_eq_true] at z; exact z.1),fun w z=>by
  rw [clr_bit,Bool.and_eq_true] at z
  rw [clr_bit,h.dis w z.1]; rfl⟩
theorem bit_no{us:List Nat}{v x:Nat}(hv:v∉us)(h:∀ w,x.testBit w=true->w∈us):x.testBit v=false:=by
 cases e:x.testBit v with
 | false=>rfl
 | true=>exact absurd (h v e) hv
theorem or_bit(x v w:Nat):(x|||2 ^ v).testBit w=(x.testBit w||decide (v=w)):=by rw [Nat.testBit_or,Nat.testBit_two_pow]
theorem CdOk.addOn{us:List Nat}{v on off:Nat}(hv:v∉us)(h:CdOk us on off):CdOk (us++[v]) (on|||2 ^ v) off:=by
 refine ⟨fun w z=>?_,fun w z=>List.mem_append_left _ (h.off w z),fun w z=>?_⟩
 ·rw [or_bit,Bool.or_eq_true] at z
  rcases z with z | z
  ·exact List.mem_append_left _ (h.on w z)
  ·have:v=w:=by simpa using z
   simp [this]
 ·rw [or_bit,Bool.or_eq_true] at z
  rcases z with z | z
  ·exact h.dis w z
  ·have:v=w:=by simpa using z
   subst this
   exact bit_no hv h.off
theorem CdOk.addOff{us:List Nat}{v on off:Nat}(hv:v∉us)(h:CdOk us on off):CdOk (us++[v]) on (off|||2 ^ v):=by
 refine ⟨fun w z=>List.mem_append_left _ (h.on w z),fun w z=>?_,fun w z=>?_⟩
 ·rw [or_bit,Bool.or_eq_true] at z
  rcases z with z | z
  ·exact List.mem_append_left _ (h.off w z)
  ·have:v=w:=by simpa using z
   simp [this]
 ·rw [or_bit,h.dis w z]
  have:v≠w:=fun e=>hv (e▸h.on w z)
  simp [this]
theorem sub_of{us:List Nat}{v x:Nat}(h:∀ w,x.testBit w=true->w∈us++[v]):∀ w,(clr x v).testBit w=true->w∈us:=fun w z=>by
 rw [clr_bit,Bool.and_eq_true] at z
 rcases List.mem_append.mp (h w z.1) with y | y
 ·exact y
 ·have:w=v:=List.mem_singleton.mp y
  simp [this] at z
theorem cdOf_mem(us:List Nat):us.Nodup->(∀ v∈us,v < 32)->∀ m on off,(m,on,off)∈cdOf us↔CdOk us on off∧m=bitsOf on+bitsOf off:=by
 induction us using snocRec with
 | nil =>
  intro _ _ m on off
  constructor
  ·intro h
   have h:(m,on,off)=(0,0,0):=List.mem_singleton.mp h
   injection h with h1 h; injection h with h2 h3
   subst h1 h2 h3
   exact ⟨⟨fun w z=>by simp at z,fun w z=>by simp at z,fun w z=>by simp at z⟩,by rw [bits0]⟩
  ·rintro ⟨h,e⟩
   have e1:=zero_bits h.on
   have e2:=zero_bits h.off
   subst e1 e2
   rw [e,bits0]
   exact List.mem_singleton.mpr rfl
 | append_singleton us v ih =>
  intro nd lt m on off
  have nd':=List.nodup_append.mp nd
  have hv:v∉us:=fun h=>nd'.2.2 v h v (by simp) rfl
  have hv32:v < 32:=lt v (by simp)
  have ih:=ih nd'.1 fun w hw=>lt w (List.mem_append_left _ hw)
  rw [cdOf_snoc]
  unfold condStep
  rw [List.mem_append,List.mem_append,List.mem_map,List.mem_map]
  constructor
  ·rintro ((h | ⟨⟨m',on',off'⟩,h,e⟩) | ⟨⟨m',on',off'⟩,h,e⟩)
   ·obtain ⟨h1,h2⟩:=(ih _ _ _).mp h
    exact ⟨h1.grow,h2⟩
   ·obtain ⟨h1,h2⟩:=(ih _ _ _).mp h
    injection e with e1 e; injection e with e2 e3
    simp only at e1 e2 e3
    subst e1 e2 e3
    exact ⟨h1.addOn hv,by rw [bitsOf_add hv32 (bit_no hv h1.on)]; omega⟩
   ·obtain ⟨h1,h2⟩:=(ih _ _ _).mp h
    injection e with e1 e; injection e with e2 e3
    simp only at e1 e2 e3
    subst e1 e2 e3
    exact ⟨h1.addOff hv,by rw [bitsOf_add hv32 (bit_no hv h1.off)]; omega⟩
  ·rintro ⟨h,e⟩
   have hc:CdOk us (CwG.clr on v) (CwG.clr off v):=⟨sub_of h.on,sub_of h.off,(h.clr v).dis⟩
   have cv:∀ x,(CwG.clr x v).testBit v=false:=fun x=>by rw [clr_bit]; simp
   by_cases h1:on.testBit v=true
   ·have h2:=h.dis v h1
    rw [clr_no h2] at hc
    refine .inl (.inr ⟨(bitsOf (CwG.clr on v)+bitsOf off,CwG.clr on v,off),(ih _ _ _).mpr ⟨hc,rfl⟩,?_⟩)
    have q:=clr_or h1
    have q2:=bitsOf_add (x:=CwG.clr on v) hv32 (cv on)
    rw [←q] at q2
    simp only [←q]
    rw [e,q2]
    congr 1
    omega
   ·have h1:on.testBit v=false:=by simpa using h1
    rw [clr_no h1] at hc
    by_cases h2:off.testBit v=true
    ·refine .inr ⟨(bitsOf on+bitsOf (CwG.clr off v),on,CwG.clr off v),(ih _ _ _).mpr ⟨hc,rfl⟩,?_⟩
     have q:=clr_or h2
     have q2:=bitsOf_add (x:=CwG.clr off v) hv32 (cv off)
     rw [←q] at q2
     simp only [←q]
     rw [e,q2]
     congr 1
    ·have h2:off.testBit v=false:=by simpa using h2
     rw [clr_no h2] at hc
     exact .inl (.inl ((ih _ _ _).mpr ⟨hc,e⟩))
theorem cdOf_nd(us:List Nat):us.Nodup->(∀ v∈us,v < 32)->(cdOf us).Nodup:=by
 induction us using snocRec with
 | nil=>intro _ _; simp [cdOf]
 | append_singleton us v ih =>
  intro nd lt
  have nd':=List.nodup_append.mp nd
  have hv:v∉us:=fun h=>nd'.2.2 v h v (by simp) rfl
  have lt':∀ v∈us,v < 32:=fun w hw=>lt w (List.mem_append_left _ hw)
  have ih:=ih nd'.1 lt'
  have mm:=cdOf_mem us nd'.1 lt'
  have b1:∀ r∈cdOf us,r.2.1.testBit v=false∧r.2.2.testBit v=false:=fun r hr=>by
   obtain ⟨m,on,off⟩:=r
   have:=((mm _ _ _).mp hr).1
   exact ⟨bit_no hv this.on,bit_no hv this.off⟩
  rw [cdOf_snoc]
  unfold condStep
  rw [List.nodup_append,List.nodup_append]
  refine ⟨⟨ih,?_,?_⟩,?_,?_⟩
  ·rw [List.nodup_iff_pairwise_ne,List.pairwise_map]
   refine List.Pairwise.imp_of_mem (R:=(·≠·)) ?_ (List.nodup_iff_pairwise_ne.mp ih)
   rintro ⟨m,on,off⟩ ⟨m',on',off'⟩ ha hb hab e
   injection e with e1 e; injection e with e2 e3
   simp only at e1 e2 e3
   apply hab
   have q:on=on':=or_inj (b1 _ ha).1 (b1 _ hb).1 e2
   rw [q,e3,Nat.succ.inj e1]
  ·rintro a ha b hb e
   obtain ⟨r,hr,rfl⟩:=List.mem_map.mp hb
   have:=(b1 _ ha).1
   rw [e] at this
   simp only at this
   rw [or_bit] at this
   simp at this
  ·rw [List.nodup_iff_pairwise_ne,List.pairwise_map]
   refine List.Pairwise.imp_of_mem (R:=(·≠·)) ?_ (List.nodup_iff_pairwise_ne.mp ih)
   rintro ⟨m,on,off⟩ ⟨m',on',off'⟩ ha hb hab e
   injection e with e1 e; injection e with e2 e3
   simp only at e1 e2 e3
   apply hab
   have q:off=off':=or_inj (b1 _ ha).2 (b1 _ hb).2 e3
   rw [q,e2,Nat.succ.inj e1]
  ·rintro a ha b hb e
   obtain ⟨r,hr,rfl⟩:=List.mem_map.mp hb
   have q:a.2.2.testBit v=true:=by rw [e]; simp only; rw [or_bit]; simp
   rcases List.mem_append.mp ha with z | z
   ·rw [(b1 _ z).2] at q; cases q
   ·obtain ⟨r',hr',rfl⟩:=List.mem_map.mp z
    simp only at q
    rw [(b1 _ hr').2] at q; cases q
theorem all_mem:∀ us:List Nat,us.Nodup->∀ z:Conds,z∈allConds us↔CdOk us z.on z.off
 | [],_,z=>by
  obtain ⟨on,off⟩:=z
  constructor
  ·intro h
   have h:=List.mem_singleton.mp h
   injection h with h1 h2
   subst h1 h2
   exact ⟨fun w z=>by simp at z,fun w z=>by simp at z,fun w z=>by simp at z⟩
  ·intro h
   have e1:=zero_bits h.on
   have e2:=zero_bits h.off
   simp only at e1 e2
   subst e1 e2
   exact List.mem_singleton.mpr rfl
 | v::us,nd,z=>by
  have nd:=List.nodup_cons.mp nd
  have ih:=all_mem us nd.2
  obtain ⟨on,off⟩:=z
  have hv:=nd.1
  unfold allConds
  rw [List.mem_flatMap]
  have sub:∀ {x:Nat},(∀ w,x.testBit w=true->w∈v::us)->∀ w,(CwG.clr x v).testBit w=true->w∈us:=fun {x} h w z=>by
   rw [clr_bit,Bool.and_eq_true] at z
   rcases List.mem_cons.mp (h w z.1) with y | y
   ·simp [y] at z
   ·exact y
  have add:∀ {x:Nat},(∀ w,x.testBit w=true->w∈us)->x+2 ^ v=x|||2 ^ v:=fun {x} h=>(or_add (bit_no hv h)).symm
  constructor
  ·rintro ⟨⟨on',off'⟩,hy,h⟩
   have hy:=(ih _).mp hy
   simp only at hy
   have q1:=hy.addOn hv
   have q2:=hy.addOff hv
   simp only [List.mem_cons,List.not_mem_nil,or_false,Conds.mk.injEq] at h
   have pm:∀ w,w∈us++[v]->w∈v::us:=fun w hw=>by
    rcases List.mem_append.mp hw with z | z
    ·exact List.mem_cons_of_mem _ z
    ·rw [List.mem_singleton.mp z]; exact List.mem_cons_self ..
   rcases h with ⟨rfl,rfl⟩ | ⟨rfl,rfl⟩ | ⟨rfl,rfl⟩
   ·exact ⟨fun w z=>List.mem_cons_of_mem _ (hy.on w z),fun w z=>List.mem_cons_of_mem _ (hy.off w z),hy.dis⟩
   ·rw [add hy.on]
    exact ⟨fun w z=>pm w (q1.on w z),fun w z=>pm w (q1.off w z),q1.dis⟩
   ·rw [add hy.off]
    exact ⟨fun w z=>pm w (q2.on w z),fun w z=>pm w (q2.off w z),q2.dis⟩
  ·intro h
   have hc:CdOk us (CwG.clr on v) (CwG.clr off v):=⟨sub h.on,sub h.off,(h.clr v).dis⟩
   refine ⟨⟨CwG.clr on v,CwG.clr off v⟩,(ih _).mpr hc,?_⟩
   simp only [List.mem_cons,List.not_mem_nil,or_false,Conds.mk.injEq]
   rw [add hc.on,add hc.off]
   by_cases h1:on.testBit v=true
   ·have h2:=h.dis v h1
    exact .inr (.inl ⟨clr_or h1,(clr_no h2).symm⟩)
   ·have h1:on.testBit v=false:=by simpa using h1
    by_cases h2:off.testBit v=true
    ·exact .inr (.inr ⟨(clr_no h1).symm,clr_or h2⟩)
    ·exact .inl ⟨(clr_no h1).symm,(clr_no (by simpa using h2)).symm⟩
theorem all_nd:∀ us:List Nat,us.Nodup->(allConds us).Nodup
 | [],_=>by simp [allConds]
 | v::us,nd=>by
  have nd:=List.nodup_cons.mp nd
  have ih:=all_nd us nd.2
  have mm:=all_mem us nd.2
  have hv:=nd.1
  unfold allConds
  rw [List.nodup_iff_pairwise_ne,List.pairwise_flatMap]
  have pos:0 < 2 ^ v:=Nat.two_pow_pos v
  have bv:∀ {x:Nat},(∀ w,x.testBit w=true->w∈us)->x.testBit v=false∧(x+2 ^ v).testBit v=true:=fun {x} h=>by
   have:=bit_no hv h
   exact ⟨this,by rw [←or_add this,or_bit]; simp⟩
  refine ⟨fun z _=>?_,List.Pairwise.imp_of_mem (R:=(·≠·)) ?_ (List.nodup_iff_pairwise_ne.mp ih)⟩
  ·obtain ⟨on,off⟩:=z
   simp [List.pairwise_cons,Conds.mk.injEq]
  ·rintro ⟨on,off⟩ ⟨on',off'⟩ ha hb hab x hx y hy e
   have ha:=(mm _).mp ha
   have hb:=(mm _).mp hb
   simp only at ha hb
   have a1:=bv ha.on
   have a2:=bv ha.off
   have b1:=bv hb.on
   have b2:=bv hb.off
   simp only [List.mem_cons,List.not_mem_nil,or_false] at hx hy
   have f1:on≠on'+2 ^ v:=fun e=>by have:=a1.1; rw [e,b1.2] at this; cases this
   have f2:on+2 ^ v≠on':=fun e=>by have:=b1.1; rw [←e,a1.2] at this; cases this
   have f3:off≠off'+2 ^ v:=fun e=>by have:=a2.1; rw [e,b2.2] at this; cases this
   have f4:off+2 ^ v≠off':=fun e=>by have:=b2.1; rw [←e,a2.2] at this; cases this
   subst e
   rcases hx with rfl | rfl | rfl<;>rcases hy with e | e | e<;>(injection e with e1 e2) <;>
    first
    | exact absurd e1 f1
    | exact absurd e1 f2
    | exact absurd e2 f3
    | exact absurd e2 f4
    | exact hab (by rw [e1,e2])
    | exact hab (by rw [Nat.add_right_cancel e1,e2])
    | exact hab (by rw [e1,Nat.add_right_cancel e2])
end CwG
namespace CwG
open Rung
def bef(y z:Conds):Prop:=y.size < z.size∨(y.size=z.size∧(y.on < z.on∨(y.on=z.on∧y.off < z.off)))
theorem bef_iff(y z:Conds):y.before z=true↔bef y z:=by
 unfold Conds.before bef
 simp [Bool.or_eq_true,Bool.and_eq_true]
theorem bef_irr(z:Conds):¬ bef z z:=by unfold bef; omega
theorem bef_asy(y z:Conds):bef y z->¬ bef z y:=by unfold bef; omega
theorem bef_tr{x y z:Conds}:bef x y->bef y z->bef x z:=by unfold bef; omega
theorem bef_tot{y z:Conds}(h:¬ bef y z)(n:y≠z):bef z y:=by
 unfold bef at *
 have:¬ (y.on=z.on∧y.off=z.off):=fun e=>n (by obtain ⟨a,b⟩:=y; obtain ⟨c,d⟩:=z; simp only at e; rw [e.1,e.2])
 omega
theorem ins_mem(z:Conds):∀ (l:List Conds) (x:Conds),x∈Rung.insert z l↔x=z∨x∈l
 | [],x=>by simp [Rung.insert]
 | y::r,x=>by
  unfold Rung.insert
  split
  ·rw [List.mem_cons,ins_mem z r x,List.mem_cons]
   constructor
   ·rintro (h | h | h)
    ·exact .inr (.inl h)
    ·exact .inl h
    ·exact .inr (.inr h)
   ·rintro (h | h | h)
    ·exact .inr (.inl h)
    ·exact .inl h
    ·exact .inr (.inr h)
  ·rw [List.mem_cons]
theorem ins_sorted(z:Conds):∀ l:List Conds,l.Pairwise bef->z∉l->(Rung.insert z l).Pairwise bef
 | [],_,_=>by simp [Rung.insert]
 | y::r,h,n=>by
  have h':=List.pairwise_cons.mp h
  have n':z∉r:=fun q=>n (List.mem_cons_of_mem _ q)
  have ny:z≠y:=fun q=>n (q▸List.mem_cons_self ..)
  unfold Rung.insert
  split
  ·rename_i hb
   have hb:=(bef_iff _ _).mp hb
   refine List.pairwise_cons.mpr ⟨fun x hx=>?_,ins_sorted z r h'.2 n'⟩
   rcases (ins_mem z r x).mp hx with e | e
   ·rw [e]; exact hb
   ·exact h'.1 x e
  ·rename_i hb
   have hb:¬ bef y z:=fun q=>hb ((bef_iff _ _).mpr q)
   have hz:=bef_tot hb ny.symm
   refine List.pairwise_cons.mpr ⟨fun x hx=>?_,h⟩
   rcases List.mem_cons.mp hx with e | e
   ·rw [e]; exact hz
   ·exact bef_tr hz (h'.1 x e)
theorem isort(l:List Conds)(nd:l.Nodup):(l.foldr Rung.insert []).Pairwise bef∧∀ x,x∈l.foldr Rung.insert []↔x∈l:=by
 induction l with
 | nil=>exact ⟨List.Pairwise.nil,fun x=>Iff.rfl⟩
 | cons a l ih =>
  have nd:=List.nodup_cons.mp nd
  obtain ⟨h1,h2⟩:=ih nd.2
  rw [List.foldr_cons]
  refine ⟨ins_sorted a _ h1 fun q=>nd.1 ((h2 a).mp q),fun x=>?_⟩
  rw [ins_mem,h2 x,List.mem_cons]
def lt3(a b:Row):Prop:=a.1 < b.1∨(a.1=b.1∧(a.2.1 < b.2.1∨(a.2.1=b.2.1∧a.2.2 < b.2.2)))
theorem lt3_tot{a b:Row}(h:¬ lt3 b a)(n:a≠b):lt3 a b:=by
 unfold lt3 at *
 have:¬ (a.1=b.1∧a.2.1=b.2.1∧a.2.2=b.2.2):=fun e=>n (Prod.ext e.1 (Prod.ext e.2.1 e.2.2))
 omega
theorem strict3{C:List Row}(h:C.Pairwise fun a b=>¬ lt3 b a)(nd:C.Nodup):C.Pairwise lt3:=by
 have:=List.Pairwise.and h (List.nodup_iff_pairwise_ne.mp nd)
 exact this.imp fun ⟨a,b⟩=>lt3_tot a b
def toC(r:Row):Conds:=⟨r.2.1,r.2.2⟩
structure Rows(s:Scheme)(C:List Row):Prop where
 perm:C.Perm (cdOf s.used)
 ord:C.Pairwise lt3
theorem Rows.mk'{s:Scheme}{C:List Row}(h1:C.Perm (cdOf s.used))(h2:C.Pairwise fun a b=>¬ lt3 b a):Rows s C:=⟨h1,strict3 h2 (h1.nodup_iff.mpr (cdOf_nd _ (used_nd s) (used_32 s)))⟩
theorem Rows.mem{s:Scheme}{C:List Row}(R:Rows s C)(m on off:Nat):(m,on,off)∈C↔CdOk s.used on off∧m=bitsOf on+bitsOf off:=by
 rw [R.perm.mem_iff]
 exact cdOf_mem _ (used_nd s) (used_32 s) m on off
theorem Rows.size{s:Scheme}{C:List Row}(R:Rows s C){r:Row}(h:r∈C):r.1=(toC r).size:=by
 obtain ⟨m,on,off⟩:=r
 exact ((R.mem _ _ _).mp h).2
theorem sums_eq{s:Scheme}{C:List Row}(R:Rows s C)(k:Nat):sumsOf s k=(C.filter fun r=>isSum s k (toC r)).map toC:=by
 have nd:=all_nd _ (used_nd s)
 obtain ⟨h1,h2⟩:=isort ((allConds s.used).filter (isSum s k)) (nd.filter _)
 refine sorted_unique bef_irr bef_asy h1 ?_ fun z=>?_
 ·rw [List.pairwise_map]
  refine List.Pairwise.imp_of_mem ?_ (R.ord.filter _)
  intro a b ha hb hab
  have ea:=R.size (List.mem_filter.mp ha).1
  have eb:=R.size (List.mem_filter.mp hb).1
  unfold lt3 at hab
  unfold bef
  rw [←ea,←eb]
  exact hab
 ·unfold sumsOf
  rw [h2 z,List.mem_filter,all_mem _ (used_nd s),List.mem_map]
  constructor
  ·rintro ⟨h,hs⟩
   refine ⟨(bitsOf z.on+bitsOf z.off,z.on,z.off),List.mem_filter.mpr ⟨(R.mem _ _ _).mpr ⟨h,rfl⟩,hs⟩,rfl⟩
  ·rintro ⟨⟨m,on,off⟩,hr,rfl⟩
   obtain ⟨hr,hs⟩:=List.mem_filter.mp hr
   exact ⟨((R.mem _ _ _).mp hr).1,hs⟩
def andNot(a b:Nat):Nat:=a^^^(a&&&b)
theorem andNot_bit(a b k:Nat):(andNot a b).testBit k=(a.testBit k&&!b.testBit k):=by
 unfold andNot
 rw [Nat.testBit_xor,Nat.testBit_and]
 cases a.testBit k<;>cases b.testBit k<;>rfl
def scN(s:Scheme)(on off:Nat):Nat:=nb fun k=>suffice s ⟨on,off⟩ k
theorem scN_bit(s:Scheme)(on off:Nat){k:Nat}(h:k < 64):(scN s on off).testBit k=suffice s ⟨on,off⟩ k:=by unfold scN; rw [nb_bit,decide_eq_true h,Bool.true_and]
theorem scN_dist{s:Scheme}{A:Nat->Option Nat}{p q:Nat}(W:Ws s)(H:Dist s.contacts (fun c=>c.by_ ⟨p,q⟩) 0 A):nb (fun k=>(A k).isSome)=scN s p q:=nb_congr fun k _=>by
 unfold suffice
 rw [roundsBy_eq]
 exact (H.live W.okc k).symm
def fewer1(on off v:Nat):List (Nat×Nat):=if (on|||off).testBit v=true then [(clr on v,clr off v)] else []
def fewerOf(us:List Nat)(on off:Nat):List (Nat×Nat):=us.flatMap (fewer1 on off)
def lsF(s:Scheme)(n:Nat)(fs:List (Nat×Nat)):Nat:=fs.foldl (fun n f=>andNot n (scN s f.1 f.2)) n
def lsN(s:Scheme)(on off:Nat):Nat:=lsF s (scN s on off) (fewerOf s.used on off)
theorem lsF_bit(s:Scheme)(k:Nat):∀ (fs:List (Nat×Nat)) (n:Nat),(lsF s n fs).testBit k=(n.testBit k&&fs.all fun f=>!(scN s f.1 f.2).testBit k)
 | [],n=>by simp [lsF]
 | f::fs,n=>by
  have:=lsF_bit s k fs (andNot n (scN s f.1 f.2))
  unfold lsF at *
  rw [List.foldl_cons,this,andNot_bit,List.all_cons,Bool.and_assoc]
theorem all_flat{α β:Type}(p:β->Bool)(f:α->List β):∀ l:List α,(l.flatMap f).all p=l.all fun x=>(f x).all p
 | []=>rfl
 | a::l=>by rw [List.flatMap_cons,List.all_append,List.all_cons,all_flat p f l]
theorem all_congr'{α:Type}{p q:α->Bool}:∀ {l:List α},(∀ x∈l,p x=q x)->l.all p=l.all q
 | [],_=>rfl
 | a::l,h=>by rw [List.all_cons,List.all_cons,h a (List.mem_cons_self ..),all_congr' fun x hx=>h x (List.mem_cons_of_mem _ hx)]
theorem lsN_bit{s:Scheme}{on off k:Nat}(h:CdOk s.used on off)(hk:k < 64):(lsN s on off).testBit k=isSum s k ⟨on,off⟩:=by
 unfold lsN isSum fewerOf
 rw [lsF_bit,scN_bit s on off hk,all_flat]
 congr 1
 apply all_congr'
 intro v _
 unfold fewer1 without
 rw [Nat.testBit_or]
 have ew:∀ x,(if x.testBit v=true then x - 2 ^ v else x)=clr x v:=fun x=>rfl
 simp only [if_true,ew]
 cases e1:on.testBit v with
 | true =>
  have e2:=h.dis v e1
  simp [e2,clr_no e2,scN_bit s _ _ hk]
 | false =>
  cases e2:off.testBit v with
  | true=>simp [clr_no e1,scN_bit s _ _ hk]
  | false=>simp
theorem Rows.earlier{s:Scheme}{C:List Row}(R:Rows s C){i:Nat}{m on off:Nat}(h:C[i]?=some (m,on,off)){f:Nat×Nat}(hf:f∈fewerOf s.used on off):∃ j m',j < i∧C[j]?=some (m',f.1,f.2):=by
 obtain ⟨v,hv,hf⟩:=List.mem_flatMap.mp hf
 unfold fewer1 at hf
 split at hf
 ·rename_i hb
  have hf:=List.mem_singleton.mp hf
  subst hf
  obtain ⟨ok,em⟩:=(R.mem _ _ _).mp (List.mem_of_getElem? h)
  have hv32:=used_32 s v hv
  rw [Nat.testBit_or,Bool.or_eq_true] at hb
  have cv:∀ x,(clr x v).testBit v=false:=fun x=>by rw [clr_bit]; simp
  have lt:bitsOf (clr on v)+bitsOf (clr off v) < m:=by
   by_cases h1:on.testBit v=true
   ·have q2:=bitsOf_add (x:=clr on v) hv32 (cv on)
    rw [←clr_or h1] at q2
    rw [clr_no (ok.dis v h1)]
    omega
   ·have h2:off.testBit v=true:=hb.resolve_left h1
    have q2:=bitsOf_add (x:=clr off v) hv32 (cv off)
    rw [←clr_or h2] at q2
    rw [clr_no (by simpa using h1)]
    omega
  have hm:(bitsOf (clr on v)+bitsOf (clr off v),clr on v,clr off v)∈C:=(R.mem _ _ _).mpr ⟨ok.clr v,rfl⟩
  obtain ⟨j,hj⟩:=List.mem_iff_getElem?.mp hm
  refine ⟨j,_,?_,hj⟩
  have hjl:=(List.getElem?_eq_some_iff.mp hj).1
  have hil:=(List.getElem?_eq_some_iff.mp h).1
  rcases Nat.lt_trichotomy j i with z | z | z
  ·exact z
  ·subst z
   rw [h] at hj
   injection hj with hj
   injection hj with hj
   omega
  ·have:=List.pairwise_iff_getElem.mp R.ord i j hil hjl z
   rw [(List.getElem?_eq_some_iff.mp h).2,(List.getElem?_eq_some_iff.mp hj).2] at this
   unfold lt3 at this
   simp only at this
   omega
 ·simp at hf
theorem Rows.inj{s:Scheme}{C:List Row}(R:Rows s C){i j m m' on off:Nat}(h:C[i]?=some (m,on,off))(h':C[j]?=some (m',on,off)):i=j:=by
 have e1:=((R.mem _ _ _).mp (List.mem_of_getElem? h)).2
 have e2:=((R.mem _ _ _).mp (List.mem_of_getElem? h')).2
 rw [←e2] at e1
 subst e1
 have hil:=(List.getElem?_eq_some_iff.mp h).1
 have hjl:=(List.getElem?_eq_some_iff.mp h').1
 have irr:∀ r:Row,¬ lt3 r r:=fun r=>by unfold lt3; omega
 rcases Nat.lt_trichotomy i j with z | z | z
 ·have:=List.pairwise_iff_getElem.mp R.ord i j hil hjl z
  rw [(List.getElem?_eq_some_iff.mp h).2,(List.getElem?_eq_some_iff.mp h').2] at this
  exact absurd this (irr _)
 ·exact z
 ·have:=List.pairwise_iff_getElem.mp R.ord j i hjl hil z
  rw [(List.getElem?_eq_some_iff.mp h).2,(List.getElem?_eq_some_iff.mp h').2] at this
  exact absurd this (irr _)
def leastOf(s:Scheme)(C:List Row):List Row:=C.filterMap fun r=>if lsN s r.2.1 r.2.2≠0 then some (r.2.1,r.2.2,lsN s r.2.1 r.2.2) else none
theorem least_sums{s:Scheme}{C:List Row}(R:Rows s C){k:Nat}(hk:k < 64):((leastOf s C).filter fun r=>r.2.2.testBit k).map (fun r=>(⟨r.1,r.2.1⟩:Conds))=sumsOf s k:=by
 rw [sums_eq R k]
 have:∀ D:List Row,(∀ r∈D,r∈C)->((leastOf s D).filter fun r=>r.2.2.testBit k).map (fun r=>(⟨r.1,r.2.1⟩:Conds))=(D.filter fun r=>isSum s k (toC r)).map toC:=by
  intro D
  induction D with
  | nil=>intro _; rfl
  | cons r D ih =>
   intro hD
   obtain ⟨m,on,off⟩:=r
   have ih:=ih fun r hr=>hD r (List.mem_cons_of_mem _ hr)
   have ok:=((R.mem _ _ _).mp (hD _ (List.mem_cons_self ..))).1
   have b:=lsN_bit ok hk
   unfold leastOf at ih ⊢
   rw [List.filterMap_cons,List.filter_cons]
   have e2:isSum s k (toC (m,on,off))=(lsN s on off).testBit k:=b.symm
   rw [e2]
   by_cases h0:lsN s on off≠0
   ·simp only [if_pos h0]
    rw [List.filter_cons]
    simp only
    cases (lsN s on off).testBit k with
    | true=>simp only [if_true,List.map_cons]; rw [ih]; rfl
    | false=>simp only [Bool.false_eq_true,if_false]; exact ih
   ·simp only [if_neg h0]
    have:lsN s on off=0:=by omega
    rw [this,Nat.zero_testBit]
    simp only [Bool.false_eq_true,if_false]
    exact ih
 exact this C fun r h=>h
end CwG
namespace CwG
theorem half_ind{x y z:Nat}(h1:x / 2+y / 2=z / 2)(h2:x % 2+y % 2=z % 2):x+y=z:=by omega
theorem par(x:Nat):x % 2=(x.testBit 0).toNat:=by
 rw [Nat.testBit_zero]
 rcases Nat.mod_two_eq_zero_or_one x with h | h<;>simp [h]
theorem half_bit(x i:Nat):(x / 2).testBit i=x.testBit (i+1):=by rw [Nat.testBit_succ]
theorem bits_add:∀ (n x y z:Nat),z≤n->(∀ i,z.testBit i=(x.testBit i||y.testBit i))->(∀ i,x.testBit i=true->y.testBit i=false)->x+y=z:=by
 intro n
 induction n with
 | zero =>
  intro x y z hz h1 h2
  have:z=0:=by omega
  subst this
  have hx:x=0:=Nat.eq_of_testBit_eq fun i=>by have:=h1 i; simp at this; simp [this.1]
  have hy:y=0:=Nat.eq_of_testBit_eq fun i=>by have:=h1 i; simp at this; simp [this.2]
  omega
 | succ n ih =>
  intro x y z hz h1 h2
  by_cases h0:z=0
  ·subst h0
   exact ih x y 0 (by omega) h1 h2
  refine half_ind (ih (x / 2) (y / 2) (z / 2) (by omega) (fun i=>?_) fun i hi=>?_) ?_
  ·rw [half_bit,half_bit,half_bit]; exact h1 (i+1)
  ·rw [half_bit] at hi ⊢; exact h2 (i+1) hi
  ·rw [par x,par y,par z,h1 0]
   cases hx:x.testBit 0 with
   | true=>rw [h2 0 hx]; rfl
   | false=>cases y.testBit 0<;>rfl
theorem andNot_add(a b:Nat):andNot a b+(a&&&b)=a:=bits_add a _ _ a (Nat.le_refl _) (fun i=>by
  rw [andNot_bit,Nat.testBit_and]; cases a.testBit i<;>cases b.testBit i<;>rfl) fun i h=>by
  rw [andNot_bit] at h
  rw [Nat.testBit_and]
  revert h
  cases a.testBit i<;>cases b.testBit i<;>simp
theorem xor_add(a b:Nat):(a^^^b)+(a&&&b)=a|||b:=bits_add (a|||b) _ _ _ (Nat.le_refl _) (fun i=>by
  rw [Nat.testBit_or,Nat.testBit_xor,Nat.testBit_and]; cases a.testBit i<;>cases b.testBit i<;>rfl) fun i h=>by
  rw [Nat.testBit_xor] at h
  rw [Nat.testBit_and]
  revert h
  cases a.testBit i<;>cases b.testBit i<;>simp
theorem clr_andNot(x v:Nat):andNot x (2 ^ v)=clr x v:=by
 apply Nat.eq_of_testBit_eq
 intro w
 rw [andNot_bit,clr_bit,Nat.testBit_two_pow]
 by_cases e:v=w
 ·subst e; simp
 ·simp [e,Ne.symm e]
theorem and_pow_ne(x v:Nat):(x&&&2 ^ v≠0)↔x.testBit v=true:=by
 constructor
 ·intro h
  obtain ⟨w,h1,h2⟩:=and_zero.mp h
  rw [Nat.testBit_two_pow] at h2
  have:v=w:=by simpa using h2
  rw [this]; exact h1
 ·intro h
  exact and_zero.mpr ⟨v,h,by rw [Nat.testBit_two_pow]; simp⟩
end CwG
namespace CwR
open Rung
def sg(n:Nat):Nat:=if n=10 then 10 else if n=32 then 32 else if 48≤n∧n≤57 then n else if 97≤n∧n≤122 then n else 63
def en(b:Bytes):List Nat:=b.map fun c=>sg c.toNat
theorem sg_small(n:Nat):(97≤sg n∧sg n≤122)↔(97≤n∧n≤122):=by unfold sg; (repeat' split)<;>omega
theorem sg_digit(n:Nat):(48≤sg n∧sg n≤57)↔(48≤n∧n≤57):=by unfold sg; (repeat' split)<;>omega
theorem sg_id{n:Nat}(h:(48≤n∧n≤57)∨(97≤n∧n≤122)):sg n=n:=by unfold sg; (repeat' split)<;>omega
theorem sg_10(n:Nat):sg n=10↔n=10:=by unfold sg; (repeat' split)<;>omega
theorem sg_32(n:Nat):sg n=32↔n=32:=by unfold sg; (repeat' split)<;>omega
theorem sg_lt{n:Nat}:sg n < 256:=by unfold sg; (repeat' split)<;>omega
theorem sg_eq{n m:Nat}(h:(48≤m∧m≤57)∨(97≤m∧m≤122)):sg n=m↔n=m:=by unfold sg; (repeat' split)<;>omega
theorem small_iff(c:UInt8):isSmall c=decide (97≤c.toNat∧c.toNat≤122):=by
 unfold isSmall
 rw [Bool.eq_iff_iff]
 simp only [Bool.and_eq_true,decide_eq_true_eq,UInt8.le_iff_toNat_le]
 exact Iff.rfl
theorem digit_iff(c:UInt8):isDigit c=decide (48≤c.toNat∧c.toNat≤57):=by
 unfold isDigit
 rw [Bool.eq_iff_iff]
 simp only [Bool.and_eq_true,decide_eq_true_eq,UInt8.le_iff_toNat_le]
 exact Iff.rfl
theorem en_len(b:Bytes):(en b).length=b.length:=by unfold en; simp
def plainN(n:Nat):Prop:=(48≤n∧n≤57)∨(97≤n∧n≤122)
theorem en_word:∀ {l:List Nat} {b:Bytes},(∀ n∈l,plainN n)->(en b=l↔b.map UInt8.toNat=l)
 | [],b,_=>by unfold en; simp
 | n::l,[],_=>by unfold en; simp
 | n::l,c::b,h=>by
  have ih:=en_word (l:=l) (b:=b) fun m hm=>h m (List.mem_cons_of_mem _ hm)
  have e:en (c::b)=sg c.toNat::en b:=rfl
  rw [e,List.map_cons,List.cons.injEq,List.cons.injEq,ih,sg_eq (h n (List.mem_cons_self ..))]
theorem toNat_inj:∀ {a b:Bytes},a.map UInt8.toNat=b.map UInt8.toNat->a=b
 | [],[],_=>rfl
 | [],_::_,h=>by simp at h
 | _::_,[],h=>by simp at h
 | x::a,y::b,h=>by
  rw [List.map_cons,List.map_cons,List.cons.injEq] at h
  rw [UInt8.toNat_inj.mp h.1,toNat_inj h.2]
theorem word_iff{w b:Bytes}(h:∀ c∈w,plainN c.toNat):en b=w.map UInt8.toNat↔b=w:=by
 rw [en_word (fun n hn=>by obtain ⟨c,hc,rfl⟩:=List.mem_map.mp hn; exact h c hc)]
 exact ⟨toNat_inj,fun e=>by rw [e]⟩
theorem en_plain{b:Bytes}(h:∀ c∈b,plainN c.toNat):en b=b.map UInt8.toNat:=(word_iff h).mpr rfl
def spN(s:Nat):List Nat->List (List Nat)
 | []=>[[]]
 | x::r=>if x=s then []::spN s r else match spN s r with
  | h::t=>(x::h)::t
  | []=>[[x]]
theorem spN_en{c:UInt8}{s:Nat}(hs:∀ x:UInt8,sg x.toNat=s↔x=c):∀ b:Bytes,spN s (en b)=(split c b).map en
 | []=>rfl
 | x::r=>by
  have ih:=spN_en hs r
  have e:en (x::r)=sg x.toNat::en r:=rfl
  rw [e]
  unfold spN split
  by_cases q:x=c
  ·rw [if_pos ((hs x).mpr q),if_pos q,ih]
   rfl
  ·rw [if_neg fun z=>q ((hs x).mp z),if_neg q,ih]
   cases split c r with
   | nil=>rfl
   | cons h t=>rfl
theorem split_ne(c:UInt8):∀ b:Bytes,split c b≠[]
 | []=>by simp [split]
 | x::r=>by
  unfold split
  split
  ·simp
  ·split<;>simp
theorem split_len(c:UInt8):∀ b:Bytes,(split c b).length≤b.length+1
 | []=>by simp [split]
 | x::r=>by
  have ih:=split_len c r
  unfold split
  split
  ·simp; omega
  ·split
   ·rename_i h t e
    rw [e] at ih
    simp at ih ⊢
    omega
   ·simp
theorem split_mem(c:UInt8):∀ (b:Bytes) (p:Bytes),p∈split c b->p.length≤b.length
 | [],p,h=>by simp [split] at h; simp [h]
 | x::r,p,h=>by
  unfold split at h
  split at h
  ·rcases List.mem_cons.mp h with z | z
   ·simp [z]
   ·have:=split_mem c r p z; simp; omega
  ·split at h
   ·rename_i h' t e
    rcases List.mem_cons.mp h with z | z
    ·have:=split_mem c r h' (by rw [e]; simp)
     rw [z]; simp; omega
    ·have:=split_mem c r p (by rw [e]; exact List.mem_cons_of_mem _ z)
     simp; omega
   ·simp at h
    simp [h]
def rn(b:Bytes):Option Nat:=if b=[]∨5 < b.length∨(b.head?=some 48∧b≠[48])∨b.all isDigit=false then none else some (numberOf b)
theorem fold_ge:∀ (l:Bytes) (n:Nat),n*10 ^ l.length≤l.foldl (fun (n:Nat) (c:UInt8)=>10*n+(c.toNat - 48)) n
 | [],n=>by simp
 | c::l,n=>by
  rw [List.foldl_cons]
  refine Nat.le_trans ?_ (fold_ge l _)
  rw [List.length_cons,Nat.pow_succ]
  have:n*(10 ^ l.length*10)=10*n*10 ^ l.length:=by
   rw [Nat.mul_comm (10 ^ l.length) 10,←Nat.mul_assoc,Nat.mul_comm n 10]
  rw [this]
  exact Nat.mul_le_mul_right _ (Nat.le_add_right _ _)
theorem number_rn(lo hi:Nat)(b:Bytes)(h:hi≤65535):number lo hi b=(rn b).bind fun n=>if lo≤n∧n≤hi then some n else none:=by
 unfold number rn
 cases b with
 | nil=>simp
 | cons c r =>
  by_cases hd:(c::r).all isDigit=false
  ·rw [if_pos (.inr (.inl hd)),if_pos (.inr (.inr (.inr hd)))]
   rfl
  ·have hd':(c::r).all isDigit=true:=by simpa using hd
   by_cases h48:c=48∧r≠[]
   ·have l1:1 < (c::r).length:=by
     cases r with
     | nil=>exact (h48.2 rfl).elim
     | cons _ _=>simp
    rw [if_pos (.inr (.inr (.inl ⟨by simp [h48.1],l1⟩))),if_pos (.inr (.inr (.inl ⟨by simp [h48.1],by simp [h48.2]⟩)))]
    rfl
   ·have n48:¬ ((c::r).head?=some 48∧1 < (c::r).length):=fun ⟨z1,z2⟩=>h48 ⟨by simpa using z1,by rintro rfl; simp at z2⟩
    have n48':¬ ((c::r).head?=some 48∧(c::r)≠[48]):=fun ⟨z1,z2⟩=>h48 ⟨by simpa using z1,by rintro rfl; exact z2 (by simpa using z1)⟩
    by_cases h5:5 < (c::r).length
    ·have big:hi < numberOf (c::r):=by
      have cd:isDigit c=true:=by simp only [List.all_cons,Bool.and_eq_true] at hd'; exact hd'.1
      rw [digit_iff,decide_eq_true_eq] at cd
      have c1:1≤c.toNat - 48:=by
       have:c≠48:=fun z=>h48 ⟨z,by rintro rfl; simp at h5⟩
       have:c.toNat≠48:=fun z=>this (UInt8.toNat_inj.mp z)
       omega
      have:=fold_ge r (10*0+(c.toNat - 48))
      have p5:10 ^ 5≤10 ^ r.length:=Nat.pow_le_pow_right (by decide) (by simp at h5; omega)
      have:10 ^ r.length≤(10*0+(c.toNat - 48))*10 ^ r.length:=by
       have:=Nat.mul_le_mul_right (10 ^ r.length) (show 1≤10*0+(c.toNat - 48) by omega)
       omega
      have:(100000:Nat)≤numberOf (c::r):=by
       show 100000≤r.foldl (fun (n:Nat) (c:UInt8)=>10*n+(c.toNat - 48)) (10*0+(c.toNat - 48))
       omega
      omega
     rw [if_pos (.inr (.inr (.inr (.inr big)))),if_pos (.inr (.inl h5))]
     rfl
    ·have no:¬ ((c::r)=[]∨5 < (c::r).length∨((c::r).head?=some 48∧(c::r)≠[48])∨(c::r).all isDigit=false):=by
      rintro (z | z | z | z)
      ·cases z
      ·exact h5 z
      ·exact n48' z
      ·exact hd z
     rw [if_neg no]
     show _=if lo≤numberOf (c::r)∧numberOf (c::r)≤hi then some (numberOf (c::r)) else none
     by_cases q:lo≤numberOf (c::r)∧numberOf (c::r)≤hi
     ·have no2:¬ ((c::r)=[]∨(c::r).all isDigit=false∨((c::r).head?=some 48∧1 < (c::r).length)∨numberOf (c::r) < lo∨hi < numberOf (c::r)):=by
       rintro (z | z | z | z | z)
       ·cases z
       ·exact hd z
       ·exact n48 z
       ·omega
       ·omega
      rw [if_pos q,if_neg no2]
     ·rw [if_neg q,if_pos (by right; right; right; omega)]
theorem number_fold:∀ (b:Bytes) (n:Nat),b.all isDigit=true->b.foldl (fun (n:Nat) (c:UInt8)=>10*n+(c.toNat - 48)) n=(en b).foldl (fun acc c=>acc*10+(c - 48)) n
 | [],_,_=>rfl
 | c::b,n,h=>by
  simp only [List.all_cons,Bool.and_eq_true] at h
  have e:sg c.toNat=c.toNat:=sg_id (.inl (by have:=h.1; rw [digit_iff,decide_eq_true_eq] at this; exact this))
  rw [List.foldl_cons,number_fold b _ h.2]
  show _=(en b).foldl (fun acc c=>acc*10+(c - 48)) (n*10+(sg c.toNat - 48))
  rw [e,Nat.mul_comm]
end CwR
namespace CwR
open Rung
def rem1(w:Bytes)(bs:List Bytes):List Bytes:=match bs with
 | x::n::r=>if x=w∧(number 1 65535 n).isSome=true then r else bs
 | _=>bs
theorem asc_up:ascii "up"=[117,112]:=by decide
theorem asc_down:ascii "down"=[100,111,119,110]:=by decide
theorem asc_in:ascii "in"=[105,110]:=by decide
theorem asc_at:ascii "at"=[97,116]:=by decide
theorem asc_relay:ascii "relay"=[114,101,108,97,121]:=by decide
theorem asc_lamp:ascii "lamp"=[108,97,109,112]:=by decide
theorem asc_open:ascii "open"=[111,112,101,110]:=by decide
theorem asc_close:ascii "close"=[99,108,111,115,101]:=by decide
theorem ud:ascii "up"≠ascii "down":=by decide
theorem rem1_2(w x n:Bytes)(r:List Bytes):rem1 w (x::n::r)=if x=w∧(number 1 65535 n).isSome=true then r else x::n::r:=rfl
theorem d2(w n:Bytes):delays [w,n]=if w=ascii "up" then (number 1 65535 n).map fun (u:Nat)=>(u,0) else if w=ascii "down" then (number 1 65535 n).map fun (d:Nat)=>(0,d) else none:=rfl
theorem d4(w n z m:Bytes):delays [w,n,z,m]=if w=ascii "up"∧z=ascii "down" then (match number 1 65535 n,number 1 65535 m with
  | some u,some d=>some (u,d)
  | _,_=>none) else none:=rfl
theorem delays_eq(bs:List Bytes):(delays bs).isSome=(rem1 (ascii "down") (rem1 (ascii "up") bs)).isEmpty:=by
 have ud:=ud
 have du:ascii "down"≠ascii "up":=ud.symm
 match bs with
 | []=>rfl
 | [a]=>rfl
 | [w,n] =>
  rw [d2,rem1_2]
  by_cases h1:w=ascii "up"
  ·rw [if_pos h1]
   cases hn:number 1 65535 n with
   | some u=>rw [if_pos ⟨h1,rfl⟩]; rfl
   | none =>
    rw [if_neg (by simp),rem1_2,if_neg (by simp [hn])]; rfl
  ·rw [if_neg h1,if_neg (c:=w=ascii "up"∧(number 1 65535 n).isSome=true) (fun z=>h1 z.1),rem1_2]
   by_cases h2:w=ascii "down"
   ·rw [if_pos h2]
    cases hn:number 1 65535 n with
    | some u=>rw [if_pos ⟨h2,rfl⟩]; rfl
    | none=>rw [if_neg (by simp)]; rfl
   ·rw [if_neg h2,if_neg (fun z=>h2 z.1)]; rfl
 | [w,n,z] =>
  show false=_
  rw [rem1_2]
  split
  ·rfl
  ·rw [rem1_2]
   split<;>rfl
 | [w,n,z,m] =>
  rw [d4,rem1_2]
  by_cases h1:w=ascii "up"
  ·cases hn:number 1 65535 n with
   | none =>
    rw [if_neg (c:=w=ascii "up"∧(none:Option Nat).isSome=true) (by simp),rem1_2,hn,if_neg (c:=w=ascii "down"∧(none:Option Nat).isSome=true) (by simp)]
    split<;>rfl
   | some u =>
    rw [if_pos (c:=w=ascii "up"∧(some u).isSome=true) ⟨h1,rfl⟩,rem1_2]
    by_cases h2:z=ascii "down"
    ·rw [if_pos (c:=w=ascii "up"∧z=ascii "down") ⟨h1,h2⟩]
     cases hm:number 1 65535 m with
     | none=>rw [if_neg (by simp)]; rfl
     | some d=>rw [if_pos ⟨h2,rfl⟩]; rfl
    ·rw [if_neg (c:=w=ascii "up"∧z=ascii "down") (fun q=>h2 q.2),if_neg (fun q=>h2 q.1)]; rfl
  ·rw [if_neg (c:=w=ascii "up"∧z=ascii "down") (fun q=>h1 q.1),if_neg (c:=w=ascii "up"∧(number 1 65535 n).isSome=true) (fun q=>h1 q.1),rem1_2]
   split<;>rfl
 | a::b::c::d::e::r =>
  show false=_
  have k:∀ v (x:Bytes) (y:Bytes) (t:List Bytes),t.length≤(rem1 v (x::y::t)).length:=fun v x y t=>by
   rw [rem1_2]
   split
   ·exact Nat.le_refl _
   ·simp; omega
  have k1:=k (ascii "up") a b (c::d::e::r)
  generalize rem1 (ascii "up") (a::b::c::d::e::r)=l1 at k1
  match l1,k1 with
  | x::y::t,k1 =>
   have k2:=k (ascii "down") x y t
   have:1≤(rem1 (ascii "down") (x::y::t)).length:=by simp at k1; omega
   cases q:rem1 (ascii "down") (x::y::t) with
   | nil=>rw [q] at this; simp at this
   | cons _ _=>rfl
  | [x],k1=>simp at k1
  | [],k1=>simp at k1
end CwR
namespace CwR
open Rung CwG
def nmOf:Line->Name
 | .input x=>x
 | .relay r=>r.name
 | .lamp l=>l.name
 | .contact _ x _ _=>x
def loOf:Line->Nat
 | .contact _ _ a _=>a
 | _=>0
def hiOf:Line->Nat
 | .contact _ _ _ b=>b
 | _=>0
def cloOf:Line->Bool
 | .contact c _ _ _=>c
 | _=>false
theorem last_nil:∀ t:Bytes,(split 10 t).getLast?=some []↔ended t=true
 | []=>by simp [split,ended]
 | x::r=>by
  have ih:=last_nil r
  have ne:=split_ne 10 r
  unfold split
  by_cases e:x=10
  ·subst e
   rw [if_pos rfl]
   obtain ⟨h,tl,e2⟩:∃ h tl,split 10 r=h::tl:=by
    cases q:split 10 r with
    | nil=>exact absurd q ne
    | cons h tl=>exact ⟨h,tl,rfl⟩
   rw [e2] at ih ⊢
   rw [List.getLast?_cons_cons,ih]
   cases r with
   | nil=>simp [ended]
   | cons y r=>simp [ended,List.getLast?_cons_cons]
  ·rw [if_neg e]
   cases q:split 10 r with
   | nil=>exact absurd q ne
   | cons h tl =>
    rw [q] at ih
    cases tl with
    | nil =>
     simp only [List.getLast?_singleton] at ih ⊢
     cases r with
     | nil =>
      simp [ended,e]
     | cons y r =>
      have e3:ended (x::y::r)=ended (y::r):=by unfold ended; rw [List.getLast?_cons_cons]
      rw [e3,←ih]
      constructor
      ·intro z; simp at z
      ·intro z
       exfalso
       have z:h=[]:=by simpa using z
       subst z
       unfold split at q
       split at q
       ·injection q with q1 q2; exact absurd q2 (split_ne 10 r)
       ·split at q
        ·injection q with q1 q2; cases q1
        ·injection q with q1 q2; cases q1
    | cons h2 tl =>
     simp only [List.getLast?_cons_cons] at ih ⊢
     rw [ih]
     cases r with
     | nil=>simp [split] at q
     | cons y r=>unfold ended; rw [List.getLast?_cons_cons]
def rdLines(t:Bytes):List (Option Line):=(split 10 t).dropLast.map lineIn++if (split 10 t).getLast?=some [] then [] else [none]
theorem zip_map_idx{α β:Type}(f:α->β):∀ (l:List α) (n:Nat) (g:α×Nat->β),(∀ u∈l.zipIdx n,g u=f u.1)->(l.zipIdx n).map g=l.map f
 | [],_,_,_=>rfl
 | a::l,n,g,h=>by
  rw [List.zipIdx_cons,List.map_cons,List.map_cons,h _ (by rw [List.zipIdx_cons]; exact List.mem_cons_self ..),zip_map_idx f l (n+1) g fun u hu=>h u (by rw [List.zipIdx_cons]; exact List.mem_cons_of_mem _ hu)]
theorem rd_eq(t:Bytes):((linesOf t).zipIdx.map fun (u:Bytes×Nat)=>if ended t=false∧u.2+1=(linesOf t).length then none else lineIn u.1)=rdLines t:=by
 unfold rdLines
 by_cases h:(split 10 t).getLast?=some []
 ·have he:=(last_nil t).mp h
  have e1:linesOf t=(split 10 t).dropLast:=by unfold linesOf; rw [if_pos h]
  rw [if_pos h,List.append_nil,e1]
  exact zip_map_idx lineIn _ 0 _ fun u _=>by rw [if_neg (by simp [he])]
 ·have he:ended t=false:=by
   cases q:ended t with
   | false=>rfl
   | true=>exact absurd ((last_nil t).mpr q) h
  have e1:linesOf t=split 10 t:=by unfold linesOf; rw [if_neg h]
  rw [if_neg h,e1,he]
  obtain ⟨l,a,e2⟩:∃ l a,split 10 t=l++[a]:=⟨(split 10 t).dropLast,_,(List.dropLast_concat_getLast (split_ne 10 t)).symm⟩
  rw [e2,List.dropLast_concat,List.zipIdx_append,List.map_append]
  congr 1
  ·refine zip_map_idx lineIn _ 0 _ fun u hu=>?_
   have:=(List.mem_zipIdx hu).2.1
   rw [if_neg]
   simp only [List.length_append,List.length_singleton,not_and]
   intro _
   omega
  ·simp
theorem lines_cases{α:Type}:∀ l:List (Option α),(∃ p:List α,l=p.map some)∨∃ (p:List α) (r:List (Option α)),l=List.map some p++none::r
 | []=>.inl ⟨[],rfl⟩
 | none::r=>.inr ⟨[],r,rfl⟩
 | some x::r=>by
  rcases lines_cases r with ⟨p,e⟩ | ⟨p,q,e⟩
  ·exact .inl ⟨x::p,by rw [e]; rfl⟩
  ·exact .inr ⟨x::p,q,by rw [e]; rfl⟩
theorem all_ok{α:Type}:∀ (p:List α) (k:Nat),Rung.all (p.map some) k=.ok p
 | [],_=>rfl
 | x::p,k=>by rw [List.map_cons]; unfold Rung.all; rw [all_ok p (k+1)]
theorem all_no{α:Type}:∀ (p:List α) (r:List (Option α)) (k:Nat),Rung.all (p.map some++none::r) k=.error (k+p.length)
 | [],_,_=>rfl
 | x::p,r,k=>by
  rw [List.map_cons,List.cons_append]
  unfold Rung.all
  rw [all_no p r (k+1)]
  simp; omega
def badL(p:List Line)(bad:Nat->Line->Bool):List Nat:=p.zipIdx.filterMap fun u=>if bad u.2 u.1=true then some u.2 else none
theorem badL_head(p:List Line)(bad:Nat->Line->Bool):(badL p bad).head?=firstLine p bad:=by
 unfold badL firstLine
 rw [List.head?_filterMap]
theorem badL_lt(p:List Line)(bad:Nat->Line->Bool):(badL p bad).Pairwise (· < ·):=by
 unfold badL
 rw [List.pairwise_filterMap]
 have:p.zipIdx.Pairwise fun a b=>a.2 < b.2:=by
  have h:(p.zipIdx.map (·.2)).Pairwise (· < ·):=by
   rw [List.zipIdx_map_snd]
   exact List.pairwise_lt_range'
  exact List.pairwise_map.mp h
 refine this.imp ?_
 intro a b hab x hx y hy
 split at hx
 ·split at hy
  ·cases hx; cases hy; exact hab
  ·cases hy
 ·cases hx
theorem zip_snoc'{α:Type}{p:List α}{i:Nat}{l:α}(h:p[i]?=some l):(p.take (i+1)).zipIdx=(p.take i).zipIdx++[(l,i)]:=by
 have hi:=(List.getElem?_eq_some_iff.mp h).1
 rw [CwG.take_snoc h,List.zipIdx_append,List.length_take,Nat.min_eq_left (Nat.le_of_lt hi),Nat.zero_add]
 rfl
theorem badL_snoc{p:List Line}{bad:Nat->Line->Bool}{i:Nat}{l:Line}(h:p[i]?=some l):badL (p.take (i+1)) bad=badL (p.take i) bad++if bad i l=true then [i] else []:=by
 unfold badL
 rw [zip_snoc' h,List.filterMap_append]
 congr 1
 by_cases e:bad i l=true
 ·simp [e]
 ·simp [e]
theorem badL_len(p:List Line)(bad:Nat->Line->Bool):(badL p bad).length≤p.length:=by
 have:=List.length_filterMap_le (fun u:Line×Nat=>if bad u.2 u.1=true then some u.2 else none) p.zipIdx
 rw [List.length_zipIdx] at this
 exact this
theorem badL_mem{p:List Line}{bad:Nat->Line->Bool}{k:Nat}:k∈badL p bad↔∃ l,p[k]?=some l∧bad k l=true:=by
 unfold badL
 rw [List.mem_filterMap]
 constructor
 ·rintro ⟨⟨l,j⟩,h1,h2⟩
  simp only at h2
  split at h2
  ·cases h2
   rename_i hb
   exact ⟨l,List.mem_zipIdx_iff_getElem?.mp h1,hb⟩
  ·cases h2
 ·rintro ⟨l,h1,h2⟩
  exact ⟨(l,k),List.mem_zipIdx_iff_getElem?.mpr h1,by simp [h2]⟩
def b2(p:List Line)(k:Nat)(l:Line):Bool:=(p.take k).any fun m=>decide (l.sort < m.sort)
def b3(p:List Line)(k:Nat)(l:Line):Bool:=decide (mostOf l.sort≤((p.take k).filter fun m=>m.sort==l.sort).length)
def b3e(p:List Line)(k:Nat)(l:Line):Bool:=decide (((p.take k).filter fun m=>m.sort==l.sort).length=mostOf l.sort)
def b4(p:List Line)(k:Nat)(l:Line):Bool:=l.gives.isSome&&(p.take k).any fun m=>m.gives==l.gives
def b5(p:List Line)(_:Nat)(l:Line):Bool:=match l with
 | .contact _ x _ _=>(varOf p x).isNone
 | _=>false
def cnt(p:List Line)(σ k:Nat):Nat:=((p.take k).filter fun m=>m.sort==σ).length
theorem cnt_step{p:List Line}{σ k:Nat}{l:Line}(h:p[k]?=some l):cnt p σ (k+1)=cnt p σ k+if l.sort=σ then 1 else 0:=by
 unfold cnt
 rw [CwG.take_snoc h,List.filter_append,List.length_append]
 congr 1
 by_cases e:l.sort=σ
 ·simp [e]
 ·simp [e]
theorem cnt_end{p:List Line}{σ k:Nat}(h:p.length≤k):cnt p σ (k+1)=cnt p σ k:=by
 unfold cnt
 rw [List.take_of_length_le h,List.take_of_length_le (by omega)]
theorem cnt_cross{p:List Line}{σ m:Nat}:∀ k,m < cnt p σ k->∃ j l,j < k∧p[j]?=some l∧l.sort=σ∧cnt p σ j=m
 | 0,h=>by simp [cnt] at h
 | k+1,h=>by
  by_cases h2:m < cnt p σ k
  ·obtain ⟨j,l,h3,h4⟩:=cnt_cross k h2
   exact ⟨j,l,by omega,h4⟩
  ·by_cases hk:k < p.length
   ·have hl:p[k]?=some p[k]:=List.getElem?_eq_getElem hk
    have st:=cnt_step (σ:=σ) hl
    by_cases e:p[k].sort=σ
    ·rw [if_pos e] at st
     exact ⟨k,p[k],by omega,hl,e,by omega⟩
    ·rw [if_neg e] at st
     omega
   ·rw [cnt_end (by omega)] at h
    exact absurd h h2
theorem head_min{a b:List Nat}(ha:a.Pairwise (· < ·))(hb:b.Pairwise (· < ·))(h1:∀ x∈a,∃ y∈b,y≤x)(h2:∀ x∈b,∃ y∈a,y≤x):a.head?=b.head?:=by
 cases a with
 | nil =>
  cases b with
  | nil=>rfl
  | cons y b=>obtain ⟨z,hz,_⟩:=h2 y (List.mem_cons_self ..); simp at hz
 | cons x a =>
  cases b with
  | nil=>obtain ⟨z,hz,_⟩:=h1 x (List.mem_cons_self ..); simp at hz
  | cons y b =>
   have ha:=(List.pairwise_cons.mp ha).1
   have hb:=(List.pairwise_cons.mp hb).1
   obtain ⟨z,hz,hzx⟩:=h1 x (List.mem_cons_self ..)
   obtain ⟨w,hw,hwy⟩:=h2 y (List.mem_cons_self ..)
   have q1:y≤z:=by
    rcases List.mem_cons.mp hz with e | e
    ·omega
    ·have:=hb z e; omega
   have q2:x≤w:=by
    rcases List.mem_cons.mp hw with e | e
    ·omega
    ·have:=ha w e; omega
   have:x=y:=by omega
   rw [this]; rfl
theorem b3_head(p:List Line):(badL p (b3e p)).head?=(badL p (b3 p)).head?:=by
 refine head_min (badL_lt _ _) (badL_lt _ _) (fun x hx=>?_) fun x hx=>?_
 ·obtain ⟨l,h1,h2⟩:=badL_mem.mp hx
  refine ⟨x,badL_mem.mpr ⟨l,h1,?_⟩,Nat.le_refl _⟩
  unfold b3e at h2
  unfold b3
  simp only [decide_eq_true_eq] at h2 ⊢
  omega
 ·obtain ⟨l,h1,h2⟩:=badL_mem.mp hx
  unfold b3 at h2
  simp only [decide_eq_true_eq] at h2
  have h2:mostOf l.sort≤cnt p l.sort x:=h2
  by_cases e:cnt p l.sort x=mostOf l.sort
  ·exact ⟨x,badL_mem.mpr ⟨l,h1,by unfold b3e; exact decide_eq_true e⟩,Nat.le_refl _⟩
  ·obtain ⟨j,m,h3,h4,h5,h6⟩:=cnt_cross (p:=p) (σ:=l.sort) (m:=mostOf l.sort) x (by omega)
   refine ⟨j,badL_mem.mpr ⟨m,h4,?_⟩,by omega⟩
   unfold b3e
   rw [h5]
   exact decide_eq_true h6
def faults(p:List Line):List (Nat×Nat):=(badL p (b2 p)).map (fun k=>(2,k))++(badL p (b3e p)).map (fun k=>(3,k))++(badL p (b4 p)).map (fun k=>(4,k))++(badL p (b5 p)).map (fun k=>(5,k))
theorem head_app{α:Type}(a b:List α):(a++b).head?=match a.head? with
  | some x=>some x
  | none=>b.head?:=by cases a<;>rfl
theorem faults_head(p:List Line):(faults p).head?=faultIn p:=by
 have e2:firstLine p (fun (k:Nat) (l:Line)=>(p.take k).any fun (m:Line)=>decide (l.sort < m.sort))=(badL p (b2 p)).head?:=(badL_head _ _).symm
 have e3:firstLine p (fun (k:Nat) (l:Line)=>decide (mostOf l.sort≤((p.take k).filter fun (m:Line)=>m.sort==l.sort).length))=(badL p (b3e p)).head?:=by rw [b3_head,badL_head]; rfl
 have e4:firstLine p (fun (k:Nat) (l:Line)=>l.gives.isSome&&(p.take k).any fun (m:Line)=>m.gives==l.gives)=(badL p (b4 p)).head?:=(badL_head _ _).symm
 unfold faults faultIn
 rw [e2,e3,e4,head_app,head_app,head_app,List.head?_map,List.head?_map,List.head?_map,List.head?_map,badL_head p (b5 p)]
 cases (badL p (b2 p)).head? with
 | some k=>rfl
 | none =>
  cases (badL p (b3e p)).head? with
  | some k=>rfl
  | none =>
   cases (badL p (b4 p)).head? with
   | some k=>rfl
   | none=>rfl
def lt2(a b:Nat×Nat):Prop:=a.1 < b.1∨(a.1=b.1∧a.2 < b.2)
theorem faults_lt(p:List Line):(faults p).Pairwise lt2:=by
 have one:∀ (n:Nat) (l:List Nat),l.Pairwise (· < ·)->(l.map fun k=>(n,k)).Pairwise lt2:=fun n l h=>by
  rw [List.pairwise_map]
  exact h.imp fun q=>.inr ⟨rfl,q⟩
 unfold faults
 rw [List.pairwise_append,List.pairwise_append,List.pairwise_append]
 refine ⟨⟨⟨one 2 _ (badL_lt _ _),one 3 _ (badL_lt _ _),?_⟩,one 4 _ (badL_lt _ _),?_⟩,one 5 _ (badL_lt _ _),?_⟩
 ·intro a ha b hb
  obtain ⟨k,_,rfl⟩:=List.mem_map.mp ha
  obtain ⟨j,_,rfl⟩:=List.mem_map.mp hb
  exact .inl (show (2:Nat) < 3 by omega)
 ·intro a ha b hb
  obtain ⟨j,_,rfl⟩:=List.mem_map.mp hb
  rcases List.mem_append.mp ha with ha | ha<;>obtain ⟨k,_,rfl⟩:=List.mem_map.mp ha<;>exact .inl (by show _ < 4; simp only; omega)
 ·intro a ha b hb
  obtain ⟨j,_,rfl⟩:=List.mem_map.mp hb
  rcases List.mem_append.mp ha with ha | ha
  ·rcases List.mem_append.mp ha with ha | ha<;>obtain ⟨k,_,rfl⟩:=List.mem_map.mp ha<;>exact .inl (by show _ < 5; simp only; omega)
  ·obtain ⟨k,_,rfl⟩:=List.mem_map.mp ha
   exact .inl (by show _ < 5; simp only; omega)
theorem read_ok{t:Bytes}{p:List Line}(h:rdLines t=p.map some):readText t=match (faults p).head? with
  | some f=>.error f
  | none=>.ok (schemeOf p):=by
 unfold readText
 rw [rd_eq,h,all_ok,faults_head]
 rfl
theorem read_no{t:Bytes}{p:List Line}{r:List (Option Line)}(h:rdLines t=p.map some++none::r):readText t=.error (1,p.length):=by
 unfold readText
 rw [rd_eq,h,all_no,Nat.zero_add]
end CwR
namespace CwR
open Rung CwG
def LnOk(l:Line):Prop:=l.sort=3->loOf l < hiOf l∧hiOf l < 64
theorem number_le{lo hi n:Nat}{b:Bytes}(h:number lo hi b=some n):n≤hi:=by
 unfold number at h
 split at h
 ·cases h
 ·rename_i q
  injection h with h
  omega
theorem line_ok{b:Bytes}{l:Line}(h:lineIn b=some l):LnOk l:=by
 intro hs
 unfold lineIn at h
 split at h
 ·rename_i w x r _
  split at h
  ·cases h
  ·split at h
   ·split at h
    ·injection h with h; subst h; cases hs
    ·cases h
   ·split at h
    ·split at h
     ·split at h
      ·simp only [Option.bind_eq_some_iff,Option.map_eq_some_iff] at h
       obtain ⟨_,_,_,_,h⟩:=h
       subst h; cases hs
      ·cases h
     ·cases h
    ·split at h
     ·split at h
      ·split at h
       ·simp only [Option.map_eq_some_iff] at h
        obtain ⟨_,_,h⟩:=h
        subst h; cases hs
       ·cases h
      ·cases h
     ·split at h
      ·split at h
       ·split at h
        ·split at h
         ·rename_i n m a b h1 h2 hab
          injection h with h
          subst h
          have:=number_le h2
          exact ⟨hab,by show b < 64; omega⟩
         ·cases h
        ·cases h
       ·cases h
      ·cases h
 ·cases h
theorem rd_ok{t:Bytes}{p:List Line}{r:List (Option Line)}(h:rdLines t=p.map some++r):∀ l∈p,LnOk l:=fun l hl=>by
 have hm:some l∈rdLines t:=by rw [h]; exact List.mem_append_left _ (List.mem_map.mpr ⟨l,hl,rfl⟩)
 unfold rdLines at hm
 rcases List.mem_append.mp hm with z | z
 ·obtain ⟨b,_,e⟩:=List.mem_map.mp z
  exact line_ok e
 ·split at z
  ·simp at z
  ·simp at z
theorem rd_len(t:Bytes):(rdLines t).length≤t.length+1:=by
 unfold rdLines
 have h1:=split_len 10 t
 have h2:=split_ne 10 t
 have h3:0 < (split 10 t).length:=List.length_pos_iff.mpr h2
 rw [List.length_append,List.length_map,List.length_dropLast]
 split<;>simp<;>omega
def inN(p:List Line):List Name:=(p.filter fun l=>l.sort==0).map nmOf
def reN(p:List Line):List Name:=(p.filter fun l=>l.sort==1).map nmOf
def vPairs(p:List Line):List (Name×Nat):=(inN p).zipIdx++((reN p).zipIdx.map fun u=>(u.1,16+u.2))
def lk(prs:List (Name×Nat))(x:Name):Option Nat:=(prs.find? fun u=>decide (u.1=x)).map (·.2)
theorem gives_nm{l:Line}(h:l.sort≠3):l.gives=some (nmOf l):=by
 cases l<;>first | rfl | exact absurd rfl h
theorem lk_zip(x:Name):∀ (l:List Line) (n:Nat),(∀ m∈l,m.sort≠3)->((l.map nmOf).zipIdx n).find? (fun u=>decide (u.1=x))=(l.findIdx? fun l=>l.gives==some x).map fun i=>(x,n+i)
 | [],_,_=>rfl
 | a::l,n,h=>by
  have ha:=gives_nm (h a (List.mem_cons_self ..))
  have ih:=lk_zip x l (n+1) fun m hm=>h m (List.mem_cons_of_mem _ hm)
  rw [List.map_cons,List.zipIdx_cons,List.find?_cons,List.findIdx?_cons,ha]
  by_cases e:nmOf a=x
  ·simp [e]
  ·simp only [e,decide_false]
   rw [ih]
   have:(some (nmOf a)==some x)=false:=by simpa using e
   rw [this]
   simp only [Bool.false_eq_true,if_false,Option.map_map]
   congr 1
   funext i
   simp only [Function.comp_apply]
   congr 1
   omega
theorem find_map'{α β:Type}(f:α->β)(p:β->Bool):∀ l:List α,(l.map f).find? p=(l.find? fun a=>p (f a)).map f
 | []=>rfl
 | a::l=>by
  rw [List.map_cons,List.find?_cons,List.find?_cons,find_map' f p l]
  cases p (f a)<;>rfl
theorem var_lk(p:List Line)(x:Name):varOf p x=lk (vPairs p) x:=by
 unfold varOf lk vPairs inN reN
 have h0:∀ m∈p.filter (fun l=>l.sort==0),m.sort≠3:=fun m hm=>by
  have:m.sort=0:=by simpa using (List.mem_filter.mp hm).2
  omega
 have h1:∀ m∈p.filter (fun l=>l.sort==1),m.sort≠3:=fun m hm=>by
  have:m.sort=1:=by simpa using (List.mem_filter.mp hm).2
  omega
 rw [List.find?_append,lk_zip x _ 0 h0,find_map',lk_zip x _ 0 h1]
 cases (List.findIdx? (fun l=>l.gives==some x) (List.filter (fun l=>l.sort==0) p)) with
 | some i=>simp
 | none =>
  simp only [Option.map_none,Option.none_or]
  cases (List.findIdx? (fun l=>l.gives==some x) (List.filter (fun l=>l.sort==1) p)) with
  | some i=>simp
  | none=>rfl
theorem lk_some{prs:List (Name×Nat)}{x:Name}:(lk prs x).isSome=decide (x∈prs.map (·.1)):=by
 unfold lk
 rw [Option.isSome_map,Bool.eq_iff_iff,List.find?_isSome,decide_eq_true_eq,List.mem_map]
 constructor
 ·rintro ⟨u,h1,h2⟩; exact ⟨u,h1,by simpa using h2⟩
 ·rintro ⟨u,h1,h2⟩; exact ⟨u,h1,by simpa using h2⟩
theorem vPairs_fst(p:List Line):(vPairs p).map (·.1)=inN p++reN p:=by
 unfold vPairs
 rw [List.map_append,List.map_map,List.zipIdx_map_fst]
 congr 1
 exact List.zipIdx_map_fst _ _
theorem vPairs_snd(p:List Line):(vPairs p).map (·.2)=List.range (inN p).length++(List.range (reN p).length).map (16+·):=by
 unfold vPairs
 rw [List.map_append,List.map_map,List.zipIdx_map_snd,←List.range_eq_range']
 congr 1
 have:(fun (u:Name×Nat)=>u.2)∘(fun (u:Name×Nat)=>(u.1,16+u.2))=(fun n=>16+n)∘fun (u:Name×Nat)=>u.2:=rfl
 rw [this,←List.map_map,List.zipIdx_map_snd,←List.range_eq_range']
theorem none_of{p:List Line}(h:(faults p).head?=none):(∀ k l,p[k]?=some l->b2 p k l=false)∧(∀ k l,p[k]?=some l->b3e p k l=false)∧(∀ k l,p[k]?=some l->b4 p k l=false)∧∀ k l,p[k]?=some l->b5 p k l=false:=by
 have h:faults p=[]:=by simpa using h
 unfold faults at h
 simp only [List.append_eq_nil_iff,List.map_eq_nil_iff] at h
 have one:∀ bad,badL p bad=[]->∀ k l,p[k]?=some l->bad k l=false:=fun bad e k l hk=>by
  cases q:bad k l with
  | false=>rfl
  | true=>exact absurd (badL_mem.mpr ⟨l,hk,q⟩) (by rw [e]; simp)
 exact ⟨one _ h.1.1.1,one _ h.1.1.2,one _ h.1.2,one _ h.2⟩
theorem few{p:List Line}(h:∀ k l,p[k]?=some l->b3e p k l=false)(σ:Nat):(p.filter fun l=>l.sort==σ).length≤mostOf σ:=by
 have e:cnt p σ p.length=(p.filter fun l=>l.sort==σ).length:=by unfold cnt; rw [List.take_length]
 rw [←e]
 apply Decidable.byContradiction
 intro q
 obtain ⟨j,l,h1,h2,h3,h4⟩:=cnt_cross (p:=p) (σ:=σ) (m:=mostOf σ) p.length (by omega)
 have:=h j l h2
 unfold b3e at this
 rw [h3] at this
 exact (of_decide_eq_false this) h4
def nmL(p:List Line):List Name:=p.filterMap Line.gives
theorem names_nd:∀ {p:List Line},(∀ k l,p[k]?=some l->b4 p k l=false)->(nmL p).Nodup:=by
 intro p
 induction p using snocRec with
 | nil=>intro _; simp [nmL]
 | append_singleton p l ih =>
  intro h
  have ih:=ih fun k m hk=>by
   have hlt:=(List.getElem?_eq_some_iff.mp hk).1
   have:=h k m (by rw [List.getElem?_append_left hlt]; exact hk)
   unfold b4 at this ⊢
   rw [List.take_append_of_le_length (by omega)] at this
   exact this
  unfold nmL at ih ⊢
  rw [List.filterMap_append,List.nodup_append]
  refine ⟨ih,?_,?_⟩
  ·simp only [List.filterMap_cons,List.filterMap_nil]
   cases l.gives<;>simp
  ·intro a ha b hb e
   subst e
   have hb:l.gives=some a:=by
    simp only [List.filterMap_cons,List.filterMap_nil] at hb
    cases q:l.gives with
    | none=>rw [q] at hb; simp at hb
    | some y=>rw [q] at hb; simp at hb; rw [hb]
   have:=h p.length l (by simp)
   unfold b4 at this
   rw [hb,List.take_append_of_le_length (by omega),List.take_length] at this
   obtain ⟨m,hm,em⟩:=List.mem_filterMap.mp ha
   simp only [Option.isSome_some,Bool.true_and] at this
   have:((p.any fun m=>m.gives==some a)=true):=List.any_eq_true.mpr ⟨m,hm,by rw [em]; simp⟩
   simp_all
theorem both_nd{p:List Line}(h:(nmL p).Nodup):(inN p++reN p).Nodup:=by
 have key:∀ p:List Line,(nmL p).Nodup->(inN p++reN p).Nodup∧∀ x∈inN p++reN p,x∈nmL p:=by
  intro p
  induction p with
  | nil=>intro _; exact ⟨List.nodup_nil,fun x hx=>by simp [inN,reN] at hx⟩
  | cons a p ih =>
   intro h
   unfold nmL at h ih ⊢
   rw [List.filterMap_cons] at h ⊢
   by_cases hs:a.sort=3
   ·have g:a.gives=none:=by cases a<;>first | rfl | cases hs
    rw [g] at h ⊢
    have e1:inN (a::p)=inN p:=by unfold inN; rw [List.filter_cons]; simp [hs]
    have e2:reN (a::p)=reN p:=by unfold reN; rw [List.filter_cons]; simp [hs]
    rw [e1,e2]
    exact ih h
   ·have g:=gives_nm hs
    rw [g] at h ⊢
    have h':=List.nodup_cons.mp h
    obtain ⟨i1,i2⟩:=ih h'.2
    by_cases s0:a.sort=0
    ·have e1:inN (a::p)=nmOf a::inN p:=by unfold inN; rw [List.filter_cons]; simp [s0]
     have e2:reN (a::p)=reN p:=by unfold reN; rw [List.filter_cons]; simp [s0]
     rw [e1,e2,List.cons_append]
     refine ⟨List.nodup_cons.mpr ⟨fun q=>h'.1 (i2 _ q),i1⟩,fun x hx=>?_⟩
     rcases List.mem_cons.mp hx with z | z
     ·rw [z]; exact List.mem_cons_self ..
     ·exact List.mem_cons_of_mem _ (i2 x z)
    ·have e1:inN (a::p)=inN p:=by unfold inN; rw [List.filter_cons]; simp [s0]
     by_cases s1:a.sort=1
     ·have e2:reN (a::p)=nmOf a::reN p:=by unfold reN; rw [List.filter_cons]; simp [s1]
      rw [e1,e2]
      refine ⟨?_,fun x hx=>?_⟩
      ·have:(inN p++nmOf a::reN p).Perm (nmOf a::(inN p++reN p)):=List.perm_middle
       rw [this.nodup_iff]
       exact List.nodup_cons.mpr ⟨fun q=>h'.1 (i2 _ q),i1⟩
      ·rcases List.mem_append.mp hx with z | z
       ·exact List.mem_cons_of_mem _ (i2 x (List.mem_append_left _ z))
       ·rcases List.mem_cons.mp z with y | y
        ·rw [y]; exact List.mem_cons_self ..
        ·exact List.mem_cons_of_mem _ (i2 x (List.mem_append_right _ y))
     ·have e2:reN (a::p)=reN p:=by unfold reN; rw [List.filter_cons]; simp [s1]
      rw [e1,e2]
      exact ⟨i1,fun x hx=>List.mem_cons_of_mem _ (i2 x hx)⟩
 exact (key p h).1
def conOf(p:List Line)(l:Line):Contact:=⟨loOf l,hiOf l,cloOf l,(varOf p (nmOf l)).getD 0⟩
theorem sch_contacts(p:List Line):(schemeOf p).contacts=(p.filter fun l=>l.sort==3).map (conOf p):=by
 have key:∀ q:List Line,(q.filterMap fun (l:Line)=>match l with
  | .contact c x a b=>some (⟨a,b,c,(varOf p x).getD 0⟩:Contact)
  | _=>none)=(q.filter fun l=>l.sort==3).map (conOf p):=by
  intro q
  induction q with
  | nil=>rfl
  | cons a q ih=>cases a<;>simp [ih,Line.sort,conOf,loOf,hiOf,cloOf,nmOf]
 exact key p
theorem sch_inputs(p:List Line):(schemeOf p).inputs=inN p:=by
 have key:∀ q:List Line,(q.filterMap fun (l:Line)=>match l with
  | .input x=>some x
  | _=>none)=(q.filter fun l=>l.sort==0).map nmOf:=by
  intro q
  induction q with
  | nil=>rfl
  | cons a q ih=>cases a<;>simp [ih,Line.sort,nmOf]
 exact key p
theorem sch_relays(p:List Line):(schemeOf p).relays.length=(reN p).length:=by
 have key:∀ q:List Line,(q.filterMap fun (l:Line)=>match l with
  | .relay r=>some r
  | _=>none).length=((q.filter fun l=>l.sort==1).map nmOf).length:=by
  intro q
  induction q with
  | nil=>rfl
  | cons a q ih=>cases a<;>simp [ih,Line.sort,nmOf]
 exact key p
theorem lk_mem{prs:List (Name×Nat)}{x:Name}{v:Nat}(h:lk prs x=some v):(x,v)∈prs:=by
 unfold lk at h
 obtain ⟨u,hu,e⟩:=Option.map_eq_some_iff.mp h
 have:=List.find?_some hu
 have e2:u.1=x:=by simpa using this
 rw [←e2,←e]
 exact List.mem_of_find?_eq_some hu
structure Clean(p:List Line):Prop where
 ok:∀ l∈p,LnOk l
 no:(faults p).head?=none
theorem Clean.n0{p:List Line}(C:Clean p):(inN p).length≤16:=by
 have:=few (none_of C.no).2.1 0
 unfold inN
 rw [List.length_map]
 exact this
theorem Clean.n1{p:List Line}(C:Clean p):(reN p).length≤12:=by
 have:=few (none_of C.no).2.1 1
 unfold reN
 rw [List.length_map]
 exact this
theorem Clean.var{p:List Line}(C:Clean p){l:Line}(h:l∈p)(hs:l.sort=3):∃ v,varOf p (nmOf l)=some v∧(schemeOf p).hasVar v=true∧v < 32:=by
 obtain ⟨k,hk⟩:=List.mem_iff_getElem?.mp h
 have:=(none_of C.no).2.2.2 k l hk
 cases l with
 | contact c x a b =>
  have:(varOf p x).isNone=false:=this
  cases e:varOf p x with
  | none=>rw [e] at this; cases this
  | some v =>
   refine ⟨v,e,?_⟩
   rw [var_lk] at e
   have hm:v∈(vPairs p).map (·.2):=List.mem_map.mpr ⟨_,lk_mem e,rfl⟩
   rw [vPairs_snd] at hm
   have n0:=C.n0
   have n1:=C.n1
   unfold Scheme.hasVar
   rw [sch_inputs,sch_relays]
   rcases List.mem_append.mp hm with z | z
   ·have z:=List.mem_range.mp z
    exact ⟨by simp [z],by omega⟩
   ·obtain ⟨j,hj,rfl⟩:=List.mem_map.mp z
    have z:=List.mem_range.mp hj
    refine ⟨?_,by omega⟩
    simp
    omega
 | _=>cases hs
theorem Clean.ws{p:List Line}(C:Clean p):Ws (schemeOf p):=by
 have hc:∀ c∈(schemeOf p).contacts,∃ l∈p,l.sort=3∧c=conOf p l:=fun c hc=>by
  rw [sch_contacts] at hc
  obtain ⟨l,hl,rfl⟩:=List.mem_map.mp hc
  obtain ⟨h1,h2⟩:=List.mem_filter.mp hl
  exact ⟨l,h1,by simpa using h2,rfl⟩
 refine ⟨fun c h=>?_,?_,fun c h=>?_⟩
 ·obtain ⟨l,h1,h2,rfl⟩:=hc c h
  exact C.ok l h1 h2
 ·rw [sch_contacts,List.length_map]
  exact few (none_of C.no).2.1 3
 ·obtain ⟨l,h1,h2,rfl⟩:=hc c h
  obtain ⟨v,e,h3,h4⟩:=C.var h1 h2
  unfold conOf
  rw [e]
  exact ⟨h3,h4⟩
theorem Clean.bits{p:List Line}(C:Clean p):BitsOf (schemeOf p) (((vPairs p).map fun u=>2 ^ u.2).sum):=by
 intro v
 have n0:=C.n0
 have n1:=C.n1
 have e:((vPairs p).map fun u=>2 ^ u.2)=(((vPairs p).map (·.2)).map fun v=>2 ^ v):=by rw [List.map_map]; rfl
 rw [e,sum_pows,vPairs_snd]
 ·unfold Scheme.hasVar
  rw [sch_inputs,sch_relays,Bool.eq_iff_iff]
  simp only [decide_eq_true_eq,List.mem_append,List.mem_range,List.mem_map,Bool.and_eq_true,Bool.or_eq_true]
  constructor
  ·rintro (z | ⟨j,hj,rfl⟩)
   ·exact ⟨by omega,.inl z⟩
   ·exact ⟨by omega,.inr ⟨by omega,by omega⟩⟩
  ·rintro ⟨h1,z | ⟨h2,h3⟩⟩
   ·exact .inl z
   ·exact .inr ⟨v - 16,h3,by omega⟩
 ·rw [vPairs_snd,List.nodup_append]
  refine ⟨List.nodup_range,?_,?_⟩
  ·rw [List.nodup_iff_pairwise_ne,List.pairwise_map]
   exact (List.nodup_iff_pairwise_ne.mp List.nodup_range).imp fun h=>by omega
  ·intro a ha b hb
   have ha:=List.mem_range.mp ha
   obtain ⟨j,_,rfl⟩:=List.mem_map.mp hb
   omega
end CwR
namespace CwR
open Rung CwG
def plB:List Bytes->Bool
 | [a,n]=>decide (a=ascii "at")&&(number 0 63 n).isSome
 | _=>false
def rdC(clo:Bool)(x:Name)(bs:List Bytes):Option Line:=match bs with
 | [n,m]=>(match number 0 63 n,number 0 63 m with
  | some a,some b=>if a < b then some (.contact clo x a b) else none
  | _,_=>none)
 | _=>none
theorem line_short{b:Bytes}(h:(split 32 b).length < 2):lineIn b=none:=by
 unfold lineIn
 match hq:split 32 b,h with
 | [],_=>rfl
 | [_],_=>rfl
theorem line_eq{b w x:Bytes}{r:List Bytes}(h:split 32 b=w::x::r):lineIn b=if isName x=false then none else
  if w=ascii "in" then (if r=[] then some (.input x) else none)
  else if w=ascii "relay" then (match r with
   | a::n::z=>if a=ascii "at" then (number 0 63 n).bind fun (k:Nat)=>(delays z).map fun (d:Nat×Nat)=>.relay ⟨x,k,d.1,d.2⟩ else none
   | _=>none)
  else if w=ascii "lamp" then (match r with
   | [a,n]=>if a=ascii "at" then (number 0 63 n).map fun (k:Nat)=>.lamp ⟨x,k⟩ else none
   | _=>none)
  else if w=ascii "open"∨w=ascii "close" then rdC (w==ascii "close") x r
  else none:=by
 unfold lineIn
 rw [h]
 rfl
def Is(σ:Nat)(x:Name)(o:Option Line):Prop:=∀ l,o=some l->l.sort=σ∧nmOf l=x∧loOf l=0∧hiOf l=0∧cloOf l=false
theorem line_in{b x:Bytes}{r:List Bytes}(h:split 32 b=ascii "in"::x::r)(hx:isName x=true):lineIn b=if r=[] then some (.input x) else none:=by
 rw [line_eq h,if_neg (by simp [hx]),if_pos rfl]
theorem line_relay{b x:Bytes}{r:List Bytes}(h:split 32 b=ascii "relay"::x::r)(hx:isName x=true):(lineIn b).isSome=(plB (r.take 2)&&(delays (r.drop 2)).isSome)∧Is 1 x (lineIn b):=by
 rw [line_eq h,if_neg (by simp [hx]),if_neg (by decide),if_pos rfl]
 match r with
 | []=>exact ⟨rfl,fun l e=>by cases e⟩
 | [_]=>exact ⟨rfl,fun l e=>by cases e⟩
 | a::n::z =>
  dsimp only [List.take,List.drop,plB]
  by_cases ha:a=ascii "at"
  ·rw [if_pos ha,decide_eq_true ha,Bool.true_and]
   cases hn:number 0 63 n with
   | none=>exact ⟨rfl,fun l e=>by cases e⟩
   | some k =>
    cases hd:delays z with
    | none=>exact ⟨rfl,fun l e=>by cases e⟩
    | some d=>exact ⟨rfl,fun l e=>by injection e with e; subst e; exact ⟨rfl,rfl,rfl,rfl,rfl⟩⟩
  ·rw [if_neg ha,decide_eq_false ha]
   exact ⟨rfl,fun l e=>by cases e⟩
theorem line_lamp{b x:Bytes}{r:List Bytes}(h:split 32 b=ascii "lamp"::x::r)(hx:isName x=true):(lineIn b).isSome=plB r∧Is 2 x (lineIn b):=by
 rw [line_eq h,if_neg (by simp [hx]),if_neg (by decide),if_neg (by decide),if_pos rfl]
 match r with
 | []=>exact ⟨rfl,fun l e=>by cases e⟩
 | [_]=>exact ⟨rfl,fun l e=>by cases e⟩
 | _::_::_::_=>exact ⟨rfl,fun l e=>by cases e⟩
 | [a,n] =>
  dsimp only [plB]
  by_cases ha:a=ascii "at"
  ·rw [if_pos ha,decide_eq_true ha,Bool.true_and]
   cases hn:number 0 63 n with
   | none=>exact ⟨rfl,fun l e=>by cases e⟩
   | some k=>exact ⟨rfl,fun l e=>by injection e with e; subst e; exact ⟨rfl,rfl,rfl,rfl,rfl⟩⟩
  ·rw [if_neg ha,decide_eq_false ha]
   exact ⟨rfl,fun l e=>by cases e⟩
theorem line_con{b w x:Bytes}{r:List Bytes}(h:split 32 b=w::x::r)(hx:isName x=true)(hw:w=ascii "open"∨w=ascii "close"):lineIn b=rdC (decide (w=ascii "close")) x r:=by
 have n1:w≠ascii "in":=by rcases hw with rfl | rfl<;>decide
 have n2:w≠ascii "relay":=by rcases hw with rfl | rfl<;>decide
 have n3:w≠ascii "lamp":=by rcases hw with rfl | rfl<;>decide
 rw [line_eq h,if_neg (by simp [hx]),if_neg n1,if_neg n2,if_neg n3,if_pos hw]
 congr 1
 rw [Bool.eq_iff_iff]
 simp
theorem line_no{b w x:Bytes}{r:List Bytes}(h:split 32 b=w::x::r)(n1:w≠ascii "in")(n2:w≠ascii "relay")(n3:w≠ascii "lamp")(n4:¬ (w=ascii "open"∨w=ascii "close")):lineIn b=none:=by
 rw [line_eq h,if_neg n1,if_neg n2,if_neg n3,if_neg n4]
 split<;>rfl
theorem line_noname{b w x:Bytes}{r:List Bytes}(h:split 32 b=w::x::r)(hx:isName x=false):lineIn b=none:=by
 rw [line_eq h,if_pos hx]
theorem name_plain{x:Bytes}(h:isName x=true):∀ c∈x,plainN c.toNat:=by
 intro c hc
 unfold isName at h
 rw [Bool.and_eq_true] at h
 cases x with
 | nil=>simp at hc
 | cons d r =>
  have h2:=h.2
  simp only [Bool.and_eq_true,List.all_eq_true,Bool.or_eq_true] at h2
  have one:∀ e:UInt8,isSmall e=true∨isDigit e=true->plainN e.toNat:=fun e q=>by
   rcases q with q | q
   ·rw [small_iff] at q; exact .inr (of_decide_eq_true q)
   ·rw [digit_iff] at q; exact .inl (of_decide_eq_true q)
  rcases List.mem_cons.mp hc with z | z
  ·rw [z]; exact one d (.inl h2.1)
  ·exact one c (h2.2 c z)
end CwR
namespace CwK
open PySem
def Rs(xs:Array Nat):Prop:=xs.toList.Pairwise (· < ·)
theorem Rs.lt{xs:Array Nat}(h:Rs xs){i j a b:Nat}(hij:i < j)(ha:xs[i]?=some a)(hb:xs[j]?=some b):a < b:=by
 have hj:j < xs.toList.length:=by have:=(Array.getElem?_eq_some_iff.mp hb).1; simpa using this
 have:=List.pairwise_iff_getElem.mp h i j (by omega) hj hij
 rw [←Array.getElem?_toList] at ha hb
 rw [(List.getElem?_eq_some_iff.mp ha).2,(List.getElem?_eq_some_iff.mp hb).2] at this
 exact this
structure Bel(xs:Array Nat)(j p:Nat):Prop where
 le:p≤xs.size
 lo:∀ i a,i < p->xs[i]?=some a->a < j
 hi:∀ i a,p≤i->xs[i]?=some a->j≤a
theorem go_bel{xs:Array Nat}{j:Nat}(h:Rs xs):∀ (f lo hi:Nat),hi - lo≤f->lo≤hi->hi≤xs.size->(∀ i a,i < lo->xs[i]?=some a->a < j)->(∀ i a,hi≤i->xs[i]?=some a->j≤a)->Bel xs j (SetTable.below.go xs j f lo hi)
 | 0,lo,hi,hf,h1,h2,h3,h4=>by
  have:lo=hi:=by omega
  subst this
  exact ⟨h2,h3,h4⟩
 | f+1,lo,hi,hf,h1,h2,h3,h4=>by
  unfold SetTable.below.go
  by_cases hl:lo < hi
  ·rw [if_pos hl]
   have hm:(lo+hi) / 2 < xs.size:=by omega
   have hg:xs[(lo+hi) / 2]?=some xs[(lo+hi) / 2]:=Array.getElem?_eq_getElem hm
   have hd:xs.getD ((lo+hi) / 2) j=xs[(lo+hi) / 2]:=by simp [Array.getD,hm]
   dsimp only
   rw [hd]
   by_cases hc:xs[(lo+hi) / 2] < j
   ·rw [if_pos hc]
    refine go_bel h f _ hi (by omega) (by omega) h2 (fun i a hi' ha=>?_) h4
    rcases Nat.lt_or_ge i ((lo+hi) / 2) with z | z
    ·have:=h.lt z ha hg; omega
    ·have:i=(lo+hi) / 2:=by omega
     subst this
     rw [hg] at ha; injection ha with ha; omega
   ·rw [if_neg hc]
    refine go_bel h f lo _ (by omega) (by omega) (by omega) h3 fun i a hi' ha=>?_
    rcases Nat.lt_or_ge ((lo+hi) / 2) i with z | z
    ·have:=h.lt z hg ha; omega
    ·have:i=(lo+hi) / 2:=by omega
     subst this
     rw [hg] at ha; injection ha with ha; omega
  ·rw [if_neg hl]
   have:lo=hi:=by omega
   subst this
   exact ⟨h2,h3,h4⟩
theorem bel{xs:Array Nat}(h:Rs xs)(j:Nat):Bel xs j (SetTable.below xs j) :=
 go_bel h xs.size 0 xs.size (by omega) (Nat.zero_le _) (Nat.le_refl _) (fun i a hi=>absurd hi (by omega)) fun i a hi ha=>by
  have:=(Array.getElem?_eq_some_iff.mp ha).1
  omega
theorem ins_list{α:Type}(xs:Array α)(p:Nat)(x:α)(hp:p≤xs.size):(SetTable.insertAt xs p x).toList=xs.toList.take p++x::xs.toList.drop p:=by
 unfold SetTable.insertAt
 simp [Array.toList_append,Array.toList_push,Array.toList_extract]
 rw [List.take_of_length_le (by simp)]
theorem put_rs{xs:Array Nat}{j:Nat}(h:Rs xs)(hn:xs[SetTable.below xs j]?≠some j):Rs (SetTable.insertAt xs (SetTable.below xs j) j):=by
 have B:=bel h j
 unfold Rs
 rw [ins_list _ _ _ B.le]
 have e:xs.toList=xs.toList.take (SetTable.below xs j)++xs.toList.drop (SetTable.below xs j):=(List.take_append_drop _ _).symm
 have h':=h
 unfold Rs at h'
 rw [e,List.pairwise_append] at h'
 have lo:∀ a∈xs.toList.take (SetTable.below xs j),a < j:=fun a ha=>by
  obtain ⟨i,hi⟩:=List.mem_iff_getElem?.mp ha
  have hil:=(List.getElem?_eq_some_iff.mp hi).1
  rw [List.length_take] at hil
  rw [List.getElem?_take_of_lt (by omega)] at hi
  exact B.lo i a (by omega) (by rw [←Array.getElem?_toList]; exact hi)
 have hi:∀ a∈xs.toList.drop (SetTable.below xs j),j < a:=fun a ha=>by
  obtain ⟨i,hi⟩:=List.mem_iff_getElem?.mp ha
  rw [List.getElem?_drop] at hi
  have hi2:xs[SetTable.below xs j+i]?=some a:=by rw [←Array.getElem?_toList]; exact hi
  have q:=B.hi _ a (by omega) hi2
  rcases Nat.lt_or_ge j a with z | z
  ·exact z
  ·exfalso
   have ea:a=j:=by omega
   subst ea
   cases i with
   | zero=>exact hn hi2
   | succ i =>
    have hlt:=(Array.getElem?_eq_some_iff.mp hi2).1
    have g0:xs[SetTable.below xs a]?=some xs[SetTable.below xs a]:=Array.getElem?_eq_getElem (by omega)
    have:=h.lt (i:=SetTable.below xs a) (j:=SetTable.below xs a+(i+1)) (by omega) g0 hi2
    have:=B.hi _ _ (Nat.le_refl _) g0
    omega
 rw [List.pairwise_append]
 refine ⟨h'.1,List.pairwise_cons.mpr ⟨fun a ha=>hi a ha,h'.2.1⟩,fun a ha b hb=>?_⟩
 rcases List.mem_cons.mp hb with z | z
 ·rw [z]; exact lo a ha
 ·have:=lo a ha; have:=hi b z; omega
structure TI(led:Bool)(t:SetTable):Prop where
 led:t.led=led
 rs:t.plain=true->Rs t.place∧t.dummies=#[]
theorem TI.fresh(led:Bool):TI led (SetTable.fresh 0 0 led):=⟨rfl,fun _=>⟨List.Pairwise.nil,rfl⟩⟩
theorem TI.standIn{led:Bool}{t:SetTable}(h:TI led t)(n:Nat):TI led (t.standIn n):=⟨h.led,fun e=>absurd e (by simp [SetTable.standIn])⟩
theorem TI.off{led:Bool}{t:SetTable}(h:TI led t):TI led { t with plain:=false }:=⟨h.led,fun e=>absurd e (by simp)⟩
theorem slot_empty{t:SetTable}{j:Nat}(h:t.slot j=.empty):t.place[SetTable.below t.place j]?≠some j:=by
 intro e
 unfold SetTable.slot at h
 simp [e] at h
theorem slot_nodummy{t:SetTable}{j:Nat}(hd:t.dummies=#[]):t.slot j≠.dummy:=by
 intro e
 unfold SetTable.slot SetTable.has at e
 rw [hd] at e
 dsimp only at e
 split at e
 ·cases e
 ·simp at e
theorem probe_go{t:SetTable}{ha:Nat->Int}{h:Int}(hd:t.dummies=#[]):∀ (f:Nat) (p:SetTable.Probe) (j:Nat) (d:Option Nat),p.dummy=none->SetTable.probe.go t ha h f p=some (.empty j d)->d=none∧t.slot j=.empty
 | 0,p,j,d,_,e=>by unfold SetTable.probe.go at e; cases e
 | f+1,p,j,d,hp,e=>by
  unfold SetTable.probe.go at e
  cases hs:t.slot p.j with
  | empty =>
   rw [hs] at e
   injection e with e
   injection e with e1 e2
   subst e1 e2
   exact ⟨hp,hs⟩
  | dummy=>exact absurd hs (slot_nodummy hd)
  | live i =>
   rw [hs] at e
   dsimp only at e
   split at e
   ·cases e
   ·refine probe_go hd f _ j d ?_ e
    unfold SetTable.advance
    split
    ·exact hp
    ·exact hp
theorem free_slot{t:SetTable}{h:Int}{slot:Nat}{wd:Bool}(hd:t.dummies=#[])(e:t.freeSlot h=some (slot,wd)):t.slot slot=.empty:=by
 unfold SetTable.freeSlot at e
 cases hp:t.probe (fun _=>h+1) h (t.probeStart h) with
 | none=>rw [hp] at e; cases e
 | some m =>
  cases m with
  | candidate a b c=>rw [hp] at e; cases e
  | empty j d =>
   rw [hp] at e
   unfold SetTable.probe at hp
   obtain ⟨rfl,q⟩:=probe_go hd _ _ j d rfl hp
   injection e with e
   injection e with e1 e2
   simp only [Option.getD_none] at e1
   subst e1
   exact q
theorem layNew_TI{led:Bool}{t:SetTable}(T:TI led t)(es:Array (Int×Value))(h:Int)(x:Value):TI led (layNew t es h x).2.1:=by
 unfold layNew
 cases e:t.freeSlot h with
 | none=>exact T.standIn _
 | some q =>
  obtain ⟨slot,wd⟩:=q
  dsimp only
  unfold SetTable.orStandIn
  have T2:TI led (t.put slot).1:=by
   refine ⟨T.led,fun hp=>?_⟩
   obtain ⟨r1,r2⟩:=T.rs hp
   unfold SetTable.put
   refine ⟨put_rs r1 (slot_empty (free_slot r2 e)),?_⟩
   dsimp only
   rw [r2]
   rfl
  split
  ·exact T2
  ·exact T2.standIn _
theorem laid_TI{mask finger moves:Nat}{led plain:Bool}{hs:Array Int}{t:SetTable}{o:Array Nat}(e:SetTable.laid mask finger moves led plain hs=some (t,o)):TI led t:=by
 unfold SetTable.laid at e
 cases q:SetTable.layClean mask hs with
 | none=>rw [q] at e; cases e
 | some owner =>
  rw [q] at e
  injection e with e
  injection e with e1 e2
  subst e1
  refine ⟨rfl,fun _=>⟨?_,rfl⟩⟩
  unfold Rs
  dsimp only
  rw [List.map_filterMap,List.pairwise_filterMap]
  refine List.pairwise_lt_range.imp ?_
  intro a b hab x hx y hy
  simp only [Option.map_map,Option.map_eq_some_iff] at hx hy
  obtain ⟨_,_,rfl⟩:=hx
  obtain ⟨_,_,rfl⟩:=hy
  exact hab
theorem relayAll_TI{led:Bool}{t:SetTable}(T:TI led t)(es:Array (Int×Value))(n:Nat):TI led (relayAll t es n).2.1:=by
 unfold relayAll
 cases e:t.relaid (es.map (·.1)) n with
 | none=>exact T.standIn _
 | some q =>
  obtain ⟨t',o⟩:=q
  dsimp only
  split
  ·have:=laid_TI e
   rw [T.led] at this
   exact this
  ·exact T.standIn _
end CwK
namespace CwK
open PySem
section
variable {prog:Program} {w:World} {K:Type} [DecidableEq K] (knd:KeyKind prog w K)
def SetT(led:Bool)(h:Heap)(a:Addr)(S:K->Bool)(n:Nat):Prop :=
 ∃ (o:Obj) (es:Array (Int×Value)) (ep:Nat) (t:SetTable),(h.get? a=some o∧o.ExactSet∧o.data=.set es ep t)∧(ElemsOf knd es.toList∧∀ k,S k=true↔∃ e∈es.toList,knd.is k e.2=true)∧(es.size < scanBound∧t.fits es.size=true∧es.size=n)∧TI led t
variable {knd}
variable {A:Around} {E:Value->Shared->Prop} {s:Shared} {led:Bool}
theorem stored{h:Heap}{a:Addr}{o:Obj}{es:Array (Int×Value)}{ep:Nat}{t:SetTable}(ho:h.get? a=some o)(hd:o.data=.set es ep t)(es':Array (Int×Value))(t':SetTable) :
  (h.update a (Obj.putSet es' t')).get? a=some { o with data:=.set es' (ep+1) t' }:=by
 have q:=Heap.get?_update_self (Obj.putSet es' t') ho (by rw [putSet_of es' t' hd]; rfl)
 rw [putSet_of es' t' hd] at q
 exact q
theorem add_end{g:Bool->Sem Unit}(hg:∀ (b:Bool) (s₁:Shared) (Q':Unit->Shared->Prop),Q' () s₁->wpAny (model prog w) A (g b) Q' E s₁)
  {a:Addr} {o:Obj} {es es1:Array (Int×Value)} {ep:Nat} {t t2:SetTable} {S':K->Bool} {wd:Bool} {R:Option Bool->Shared->Prop}
  (ho:s.heap.get? a=some o∧o.ExactSet∧o.data=.set es ep t) (h1:ElemsOf knd es1.toList∧∀ k',S' k'=true↔∃ e∈es1.toList,knd.is k' e.2=true)
  (hb:es1.size < scanBound) (hf:t2.fits es1.size=true) (T:TI led t2)
  (h:∀ h',Heap.SameBut a s.heap h'->SetT knd led h' a S' es1.size->R (some true) { s with heap:=h' }) :
  wpAny (model prog w) A (do
    storeSet a es1 t2
    if (!wd&&t2.tooFull)=true then do
      g (relayAll t2 es1 (SetTable.grown es1.size)).2.2
      storeSet a (relayAll t2 es1 (SetTable.grown es1.size)).1 (relayAll t2 es1 (SetTable.grown es1.size)).2.1
      pure (some true)
     else pure (some true)) R E s:=by
 obtain ⟨hg1,hex,hd⟩:=ho
 refine wpAny_bind (wpAny_storeSet_of hg1 hd ?_ (fits_of_scanBound hb))
 have ho1:=stored hg1 hd es1 t2
 have same1:=Heap.SameBut.update s.heap a (Obj.putSet es1 t2)
 split
 ·have T3:=relayAll_TI T es1 (SetTable.grown es1.size)
  have pm:=relayAll_perm t2 es1 (SetTable.grown es1.size)
  have ft:=relayAll_fits t2 es1 (SetTable.grown es1.size)
  generalize relayAll t2 es1 (SetTable.grown es1.size)=Z at T3 pm ft ⊢
  obtain ⟨es2,t3,gv⟩:=Z
  dsimp only at T3 pm ft ⊢
  have sz:es2.size=es1.size:=by have:=pm.length_eq; simpa using this
  refine wpAny_bind (hg _ _ _ (wpAny_bind (wpAny_storeSet_of ho1 rfl ?_ (fits_of_scanBound (by rw [sz]; exact hb)))))
  refine wpAny_pure (h _ (same1.trans (Heap.SameBut.update _ a _)) ?_)
  refine ⟨_,es2,_,t3,⟨stored ho1 rfl es2 t3,hex,rfl⟩,⟨h1.1.perm pm,fun k'=>?_⟩,⟨by rw [sz]; exact hb,ft,sz⟩,T3⟩
  rw [h1.2 k']
  exact ⟨fun ⟨e,he,q⟩=>⟨e,pm.mem_iff.mpr he,q⟩,fun ⟨e,he,q⟩=>⟨e,pm.mem_iff.mp he,q⟩⟩
 ·exact wpAny_pure (h _ same1 ⟨_,es1,_,t2,⟨ho1,hex,rfl⟩,h1,⟨hb,hf,rfl⟩,T⟩)
theorem add_T{a:Addr}{S:K->Bool}{n:Nat}{k:K}{x:Value}{Q:Bool->Shared->Prop}(hk:knd.is k x=true)(hx:x.scannable=true)(hS:SetT knd led s.heap a S n)(hroom:n+1 < scanBound)
  (h:∀ h',Heap.SameBut a s.heap h'->SetT knd led h' a (fun k'=>S k'||decide (k'=k)) (if S k then n else n+1)->Q (!S k) { s with heap:=h' }) :
  wpAny (model prog w) A (setAddHashed a x (knd.hash k)) Q E s:=by
 obtain ⟨o,es,ep,t,hob,⟨hel,hmem⟩,⟨hb,hf,hn⟩,T⟩:=hS
 obtain ⟨ho,hex,hd⟩:=hob
 unfold setAddHashed setAddHashedIn
 refine wpAny_holding (wpAny_bind (wpAny_setState_of ho hd hf ?_))
 dsimp only
 rw [byScan_of hx hb hel]
 simp only [↓reduceIte]
 unfold setAddByScan
 refine wpAny_bind (wpAny_bind (wpAny_rule (wpAny_bind (wpAny_setScan_of hk ho hd hf hel ?_))))
 cases fi:List.findIdx? (fun e=>knd.is k e.2) es.toList with
 | some j =>
  dsimp only
  obtain ⟨hj,hpj,_⟩:=List.findIdx?_eq_some_iff_getElem.mp fi
  have hSk:S k=true:=(hmem k).mpr ⟨es.toList[j],List.getElem_mem hj,hpj⟩
  have hh:=h s.heap (Heap.SameBut.refl a s.heap)
  rw [hSk] at hh
  refine wpAny_pure (wpAny_pure ?_)
  have es0:s={ s with heap:=s.heap }:=by cases s; rfl
  rw [es0]
  refine hh ⟨o,es,ep,t,⟨ho,hex,hd⟩,⟨hel,fun k'=>?_⟩,⟨hb,hf,hn⟩,T⟩
  rw [←hmem k',Bool.or_eq_true,decide_eq_true_eq]
  exact ⟨fun z=>z.elim id fun e=>by rw [e]; exact hSk,Or.inl⟩
 | none =>
  dsimp only
  have hSk:S k=false:=by
   cases q:S k with
   | false=>rfl
   | true =>
    obtain ⟨e,he,hp⟩:=(hmem k).mp q
    rw [List.findIdx?_eq_none_iff.mp fi e he] at hp
    cases hp
  have pm:=layNew_perm t es (knd.hash k) x
  have ft:=layNew_fits t es (knd.hash k) x
  have T1:=layNew_TI T es (knd.hash k) x
  generalize layNew t es (knd.hash k) x=Z at pm ft T1 ⊢
  obtain ⟨es1,t1,wd,gv⟩:=Z
  dsimp only at pm ft T1 ⊢
  rw [Array.toList_push] at pm
  have sz:es1.size=n+1:=by
   have:=pm.length_eq
   rw [List.length_append,Array.length_toList,Array.length_toList,hn] at this
   exact this
  have hb1:es1.size < scanBound:=by rw [sz]; exact hroom
  have m1:ElemsOf knd es1.toList∧∀ k',(S k'||decide (k'=k))=true↔∃ e∈es1.toList,knd.is k' e.2=true:=⟨(hel.push hk hx).perm pm,mem_push_iff hk hmem pm⟩
  have fin:∀ h',Heap.SameBut a s.heap h'->SetT knd led h' a (fun k'=>S k'||decide (k'=k)) es1.size->Q true { s with heap:=h' }:=fun h' z1 z2=>by
   have hh:=h h' z1
   rw [hSk] at hh
   rw [sz] at z2
   exact hh z2
  have gw:∀ (b:Bool) (s₁:Shared) (Q':Unit->Shared->Prop),Q' () s₁->wpAny (model prog w) A (match b with | true=>rule "set.scan.the-table-gave-way" | false=>pure ()) Q' E s₁ :=
   fun b s₁ Q' z=>by cases b; exact wpAny_pure z; exact wpAny_rule z
  refine wpAny_bind (gw _ _ _ ?_)
  split
  ·refine wpAny_bind ?_
   rw [hashByValue_scannable 8 hx]
   refine wpAny_pure (add_end (led:=led) gw ⟨ho,hex,hd⟩ m1 hb1 ?_ ?_ fun h' z1 z2=>wpAny_pure (fin h' z1 z2))
   ·split
    ·exact ft
    ·exact SetTable.fits_plain_off ft
   ·split
    ·exact T1
    ·exact T1.off
  ·refine wpAny_bind (wpAny_pure ?_)
   simp only [↓reduceIte]
   exact add_end (led:=led) gw ⟨ho,hex,hd⟩ m1 hb1 ft T1 fun h' z1 z2=>wpAny_pure (fin h' z1 z2)
end
end CwK
namespace CwK
open PySem PyProof.Rows
def dd1(d:List Int)(k:Int):List Int:=if k∈d then d else d++[k]
def dd(l:List Int):List Int:=l.foldl dd1 []
theorem dd_snoc(l:List Int)(k:Int):dd (l++[k])=dd1 (dd l) k:=by unfold dd; rw [List.foldl_append]; rfl
theorem dd_mem(l:List Int):∀ k,k∈dd l↔k∈l:=by
 have:∀ r:List Int,∀ k,k∈dd r.reverse↔k∈r:=by
  intro r
  induction r with
  | nil=>intro k; simp [dd]
  | cons a r ih =>
   intro k
   rw [List.reverse_cons,dd_snoc]
   unfold dd1
   split
   ·rename_i h
    rw [ih,List.mem_cons]
    exact ⟨.inr,fun z=>z.elim (fun e=>by rw [e]; exact (ih a).mp h) id⟩
   ·rw [List.mem_append,ih,List.mem_singleton,List.mem_cons]
    exact ⟨fun z=>z.symm,fun z=>z.symm⟩
 intro k
 have h:=this l.reverse k
 rw [List.reverse_reverse] at h
 rw [h,List.mem_reverse]
theorem dd_nd(l:List Int):(dd l).Nodup:=by
 have:∀ r:List Int,(dd r.reverse).Nodup:=by
  intro r
  induction r with
  | nil=>simp [dd]
  | cons a r ih =>
   rw [List.reverse_cons,dd_snoc]
   unfold dd1
   split
   ·exact ih
   ·rename_i h
    rw [List.nodup_append]
    exact ⟨ih,by simp,fun x hx y hy e=>h (by rw [←List.mem_singleton.mp hy,←e]; exact hx)⟩
 have h:=this l.reverse
 rw [List.reverse_reverse] at h
 exact h
theorem dd_len(l:List Int):(dd l).length≤l.length:=by
 have:∀ (l d:List Int),(l.foldl dd1 d).length≤d.length+l.length:=by
  intro l
  induction l with
  | nil=>intro d; simp
  | cons a l ih =>
   intro d
   rw [List.foldl_cons]
   have h:=ih (dd1 d a)
   have:(dd1 d a).length≤d.length+1:=by unfold dd1; split<;>simp
   simp only [List.length_cons]
   omega
 have h:=this l []
 simpa [dd] using h
theorem cover_perm:∀ (d keys:List Int),d.Nodup->(∀ x∈d,x∈keys)->keys.length≤d.length->keys.Perm d
 | [],keys,_,_,h=>by
  have:keys=[]:=List.length_eq_zero_iff.mp (by simpa using h)
  rw [this]
 | a::d,keys,nd,hc,hl=>by
  have nd':=List.nodup_cons.mp nd
  have ha:=hc a (List.mem_cons_self ..)
  refine (List.perm_cons_erase ha).trans (List.Perm.cons a (cover_perm d _ nd'.2 (fun x hx=>?_) ?_))
  ·have hxa:x≠a:=fun e=>nd'.1 (e▸hx)
   exact (List.mem_erase_of_ne hxa).mpr (hc x (List.mem_cons_of_mem _ hx))
  ·rw [List.length_erase_of_mem ha]
   simp only [List.length_cons] at hl
   omega
section
variable {prog:Program} {w:World}
def SetD(prog:Program)(w:World)(led:Bool)(h:Heap)(a:Addr)(l:List Int):Prop:=SetT (intKind prog w) led h a (fun k=>decide (k∈l)) (dd l).length
theorem SetD.keep{led:Bool}{h h':Heap}{a:Addr}{l:List Int}(z:SetD prog w led h a l)(k:∀ o,h.get? a=some o->h'.get? a=some o):SetD prog w led h' a l:=by
 obtain ⟨o,es,ep,t,⟨h1,h2⟩,h3⟩:=z
 exact ⟨o,es,ep,t,⟨k o h1,h2⟩,h3⟩
variable {A:Around} {R:Result->Shared->Prop} {I:Addr} {fp wr:List Addr} {G:Array GenState->Array GenState->Prop} {n:Nat} {P:Nat->Value->Prop} {St:Nat->Shared->Prop}
theorem upd_loop{led:Bool}(W:WalksS prog w A.in1 I fp wr G n P St)(B:Addr)(hB:B∉fp)(ns:List Int)(hn:ns.length=n)(hval:∀ i v,P i v->∃ k t,ns[i]?=some k∧v=.int k t)(hb:n+1 < scanBound) :
  ∀ (f i:Nat) (s:Shared),n - i=f->i≤n->St i s->SetD prog w led s.heap B (ns.take i) ->
   (∀ s',Moved (B::wr) G s s'->SetD prog w led s'.heap B ns->R (.ok (.ret .none)) s')->codeAny (model prog w) A (.builtin "set.update.loop" ⟨[.ref B,.ref I],[]⟩) R s:=by
 have hBw:B∉wr:=fun h=>hB (W.sub _ h)
 have up:∀ b∈wr,b∈B::wr:=fun b hb=>List.mem_cons_of_mem _ hb
 intro f
 induction f with
 | zero =>
  intro i s hf hi st hS fin
  have ei:i=n:=by omega
  subst ei
  rw [←hn,List.take_length] at hS
  refine codeAny_builtin F.entry_set_update_loop ?_
  rw [Around.under_plainId F.plain_set_update_loop _]
  show wpAny _ A.in1 (pyNext (.ref I) >>= _) _ _ s
  refine wpAny_bind (W.done s _ _ st fun s' mv=>?_)
  show wpAny _ A.in1 (ret Value.none) _ _ s'
  exact wpAny_pure (fin s' (mv.mono up) (hS.keep fun o e=>mv.heap B _ hBw e))
 | succ f ih =>
  intro i s hf hi st hS fin
  have il:i < n:=by omega
  refine codeAny_builtin F.entry_set_update_loop ?_
  rw [Around.under_plainId F.plain_set_update_loop _]
  show wpAny _ A.in1 (pyNext (.ref I) >>= _) _ _ s
  refine wpAny_bind (W.item i s _ _ il st fun v s' hP st' mv=>?_)
  obtain ⟨k,t,hk,rfl⟩:=hval i v hP
  have hS1:SetD prog w led s'.heap B (ns.take i):=hS.keep fun o e=>mv.heap B _ hBw e
  show wpAny _ A.in1 (holding [Value.int k t] (setAdd B (.int k t)) >>= _) _ _ s'
  refine wpAny_bind (wpAny_holding ?_)
  unfold setAdd
  refine wpAny_holding (wpAny_bind ((intKind prog w).pyHash (k:=k) (intKind_is _ _ _ _) ?_))
  have room:(dd (ns.take i)).length+1 < scanBound:=by have:=dd_len (ns.take i); rw [List.length_take] at this; omega
  refine add_T (knd:=intKind prog w) (led:=led) (s:={ s' with toks:=s'.toks+1 }) (intKind_is _ _ _ _) rfl hS1 room fun h' sb hS2=>?_
  have hS3:SetD prog w led h' B (ns.take (i+1)):=by
   have e1:ns.take (i+1)=ns.take i++[k]:=by rw [List.take_add_one,hk]; rfl
   unfold SetD
   rw [e1,dd_snoc]
   have e2:(fun k'=>decide (k'∈ns.take i++[k]))=fun k'=>decide (k'∈ns.take i)||decide (k'=k):=by
    funext k'
    simp [List.mem_append]
   have e3:(dd1 (dd (ns.take i)) k).length=if decide (k∈ns.take i)=true then (dd (ns.take i)).length else (dd (ns.take i)).length+1:=by
    unfold dd1
    by_cases q:k∈ns.take i
    ·rw [if_pos ((dd_mem _ _).mpr q),if_pos (by simpa using q)]
    ·rw [if_neg (fun z=>q ((dd_mem _ _).mp z)),if_neg (by simpa using q)]
     simp
   rw [e2,e3]
   exact hS2
  refine wpAny_pure ⟨plainId_quiet F.plain_set_update_loop _,ih (i+1) _ (by omega) il (W.frame _ s' _ _ st' (Nat.le_succ _) fun b hb' o e=>?_) hS3 fun s2 mv2 hS4=>?_⟩
  ·rw [sb.2 b fun z=>hB (z▸hb')]; exact e
  ·refine fin s2 (Moved.trans W.gtrans ((mv.mono up).then_heap (Nat.le_succ _) fun b o hb' e=>?_) mv2) hS4
   rw [sb.2 b fun z=>hb' (by rw [z]; exact List.mem_cons_self)]; exact e
end
section
variable {prog:Program} {w:World} {A:Around} {E:Value->Shared->Prop} {s:Shared}
def ledOf(w:World):Bool:=!w.params.followText "set-order"
abbrev newSetO(led:Bool):Obj:={ cls:=.type "set",dict:=none,data:=.set #[] 0 (.fresh 0 0 led) }
theorem set_new(a:Value){Q:Value->Shared->Prop}(h:Q (.ref s.heap.objs.size) { s with heap:=s.heap.push (newSetO (ledOf w)) }) :
  codeAny (model prog w) A (.call (.builtin "set.__new__") ⟨[.type "set",a],[]⟩) (wants Q E) s:=by
 refine codeAny_of_tree ?_
 show wpAny _ A.in1 (do checkBuiltinCall "set.__new__" ⟨[.type "set",a],[]⟩; again (.builtin "set.__new__" ⟨[.type "set",a],[]⟩)) _ _ s
 refine wpAny_bind (wpAny_of_eq (F.newCall_set_1 a) (wpAny_pure ⟨plainId_quiet F.plain_set_new _,codeAny_builtin F.entry_set_new ?_⟩))
 rw [Around.under_plainId F.plain_set_new _]
 have hsub:=sub_set_self
 unfold Builtin.«set.__new__» Builtin.Frozenset.newClass
 obtain ⟨hp,gs,dr,tk,os⟩:=s
 dsimp only
 wp_walk
 refine wpAny_askSetting (wpAny_pure ?_)
 dsimp only
 simp only [newObj]
 exact wpAny_bind (wpAny_alloc (wpAny_pure (wpAny_pure h)))
end
end CwK
namespace CwK
open PySem PyProof.Rows
section
variable {prog:Program} {w:World} {A:Around} {E:Value->Shared->Prop} {s:Shared}
theorem set_list{l:Addr}{items:Array Value}{ns:List Int}{Q:Value->Shared->Prop}(hh:A.handled=none)(hl:s.heap.IsList l items)(hi:IntsAre items.toList ns)(hb:items.size+1 < scanBound)
  (h:∀ (h':Heap) (tk:Nat),SetD prog w (ledOf w) h' s.heap.objs.size ns->(∀ b o,s.heap.get? b=some o->h'.get? b=some o)->Q (.ref s.heap.objs.size) { s with heap:=h',toks:=tk }) :
  wpAny (model prog w) A (call (.type "set") [.ref l]) Q E s:=by
 obtain ⟨cc,mr,hmro⟩:=F.called_set.mro
 have a1:=F.called_set.made
 have a2:=F.called_set.sub
 have a3:=F.called_set.notType
 have a4:=F.called_set.canCreate
 have a5:=F.typeCall_set_1 (.ref l)
 refine wpAny_call (codeAny_of_tree ?_)
 show wpAny _ _ (callAny (.type "set") _) _ _ _
 refine wpAny_pure ⟨Code.quiet_builtin _ (by decide +kernel),codeAny_builtin F.entry_type_call ?_⟩
 rw [Around.under_plain (weight_type_call_type "set" [.ref l] []) rfl]
 repeat (any_goals (first | assumption | wp_step))
 refine codeAny_mono (set_new (.ref l) (E:=E) (Q:=fun v s1=>v=.ref s.heap.objs.size∧s1={ s with heap:=s.heap.push (newSetO (ledOf w)) }) ⟨rfl,rfl⟩) fun r s1 hr=>?_
 cases r with
 | error e=>exact hr
 | ok fl =>
  cases fl with
  | ret v =>
   obtain ⟨rfl,rfl⟩:=hr
   have hB:(s.heap.push (newSetO (ledOf w))).get? s.heap.objs.size=some (newSetO (ledOf w)):=Heap.get?_push_size _ rfl
   have hT:Shared.TypeIs { s with heap:=s.heap.push (newSetO (ledOf w)) } (.ref s.heap.objs.size) "set":=⟨_,hB,rfl⟩
   have b1:=F.called_set.init.lookup
   have b2:=F.called_set.init.bind (.ref s.heap.objs.size)
   repeat (any_goals (first | assumption | wp_step))
   refine codeAny_mono (codeAny_call_builtin (R:=wants (fun r s2=>r=.none∧∃ h' tk,s2={ s with heap:=h',toks:=tk }∧SetD prog w (ledOf w) h' s.heap.objs.size ns∧∀ b o,s.heap.get? b=some o->h'.get? b=some o) E) F.called_set.init.plain F.entry_set_init (check_set_init_1 hT ?_)) fun r2 s2 hr2=>?_
   ·obtain ⟨ol,hol,hcl,nl,hdl⟩:=hl
    obtain ⟨c0,d0,dat,sl⟩:=ol
    simp only at hcl hdl
    subst hcl; subst hdl
    have hol':(s.heap.push (newSetO (ledOf w))).get? l=some { cls:=.type "list",dict:=d0,data:=.seq items nl,slots:=sl }:=Heap.get?_push_of_some _ hol
    have c1:=F.sub_list_set
    have c2:=F.sub_list_frozenset
    have c3:(Value.type "list"==Value.type "dict")=false:=by decide
    have hl1:(s.heap.push (newSetO (ledOf w))).IsList l items:=⟨_,hol',rfl,nl,rfl⟩
    unfold Builtin.«set.__init__» noKeywords Builtin.Frozenset.updateFrom
    generalize hPI:pyIter=PI
    wp_walk
    subst hPI
    refine wpAny_pyIter_list hl1 (wpAny_bind (wpAny_runValue ?_))
    have ll:l < s.heap.objs.size:=Heap.lt_size hol
    have h3:A.in1.in1.in1.handled=none:=by simp [hh]
    have nI:l≠(s.heap.push (newSetO (ledOf w))).objs.size:=by rw [Heap.size_push]; exact Nat.ne_of_lt (Nat.lt_succ_of_lt ll)
    have nB:s.heap.objs.size∉[(s.heap.push (newSetO (ledOf w))).objs.size,l]:=by
     rw [Heap.size_push]
     simp only [List.mem_cons,List.not_mem_nil,or_false,not_or]
     exact ⟨Nat.ne_of_lt (Nat.lt_succ_self _),Nat.ne_of_gt ll⟩
    have vl:∀ (i:Nat) (v:Value),items[i]?=some v->∃ k t,ns[i]?=some k∧v=.int k t:=fun i v hv=>by
     obtain ⟨t,rfl⟩:=IntsAre.int_at hi i v (by rw [Array.getElem?_toList]; exact hv)
     have hlt:=(Array.getElem?_eq_some_iff.mp hv).1
     have hll:i < ns.length:=by rw [←hi.length]; simpa using hlt
     exact ⟨ns.getD i 0,t,by rw [List.getD_eq_getElem?_getD,List.getElem?_eq_getElem hll]; rfl,rfl⟩
    refine upd_loop (led:=ledOf w) ((Walks.list h3 _ l nI items).toS) s.heap.objs.size nB ns (by rw [←hi.length]; simp) vl hb (items.size - 0) 0 _ (by omega) (Nat.zero_le _) ⟨⟨_,Heap.get?_push_size _ rfl,rfl,rfl⟩,(hl1.push _)⟩ ?S0 ?fin
    case S0 =>
     refine ⟨newSetO (ledOf w),#[],0,_,⟨Heap.get?_push_of_some _ hB,⟨rfl,rfl,rfl⟩,rfl⟩,⟨fun e he=>by simp at he,fun k=>by simp⟩,⟨by decide,by rfl,rfl⟩,TI.fresh _⟩
    case fin =>
     intro s' mv hS'
     obtain ⟨h',g',d',tk',os'⟩:=s'
     have eg:g'=s.gens:=mv.gens
     have ed:d'=s.drawn:=mv.drawn
     have eo:os'=s.os:=mv.os
     subst eg ed eo
     show wpAny _ _ _ _ _ _
     refine wpAny_pure ?_
     show wpAny _ _ (ret Value.none) _ _ _
     refine wpAny_pure ⟨rfl,h',tk',rfl,hS',fun b o e=>?_⟩
     have bl:=Heap.lt_size e
     refine mv.heap b o ?_ (Heap.get?_push_of_some _ (Heap.get?_push_of_some _ e))
     rw [Heap.size_push]
     simp only [List.mem_cons,List.not_mem_nil,or_false,not_or]
     exact ⟨Nat.ne_of_lt bl,Nat.ne_of_lt (Nat.lt_succ_of_lt bl)⟩
   ·cases r2 with
    | error e=>exact hr2
    | ok f2 =>
     cases f2 with
     | ret r =>
      obtain ⟨rfl,h',tk,rfl,q1,q2⟩:=hr2
      repeat (any_goals (first | assumption | wp_step))
      exact h _ _ q1 q2
     | _=>exact hr2.elim
  | _=>exact hr.elim
end
end CwK
namespace CwK
open PySem PyProof.Rows
theorem slot_sit_next:Slot "set_iterator" "__next__" "set_iterator.__next__" :=
 .of (owner:="set_iterator") (n:="__next__") (by rw [typeLookup_type,builtinLookup_eq_fast]; kernel_rfl) (by decide +kernel) (by decide +kernel) (by decide +kernel) (by first | exact .inl (by decide +kernel) | exact .inr (by decide +kernel)) (by rw [isSubtype_type]; kernel_rfl)
theorem entry_sit_next:entryFor table "set_iterator.__next__"=some Builtin.«set_iterator.__next__»:=entryFor_of_tree (by kernel_rfl)
theorem args_sit_next(a:Value):argsOk "set_iterator.__next__" ⟨[a],[]⟩:=by unfold argsOk; kernel_rfl
theorem entry_set_iter':entryFor table "set.__iter__"=some Builtin.«frozenset.__iter__»:=entryFor_alias (id':="frozenset.__iter__") (by kernel_rfl) rfl (by decide +kernel) (by kernel_rfl)
def ItF(first:Value)(i:Nat)(a:Addr)(n ep:Nat):Array Value:=#[first,.int i 0,.ref a,.int n 0,.int ep 0]
def IsIt(h:Heap)(it:Addr)(first:Value)(i:Nat)(a:Addr)(n ep:Nat):Prop:=∃ o,h.get? it=some o∧o.cls=.type "set_iterator"∧o.data=.fields (ItF first i a n ep)
def SAt(h:Heap)(a:Addr)(es:Array (Int×Value))(ep:Nat)(t:SetTable):Prop:=∃ o,h.get? a=some o∧o.ExactSet∧o.data=.set es ep t∧t.fits es.size=true
theorem IsIt.keep{h h':Heap}{it a:Addr}{first:Value}{i n ep:Nat}(z:IsIt h it first i a n ep)(k:∀ o,h.get? it=some o->h'.get? it=some o):IsIt h' it first i a n ep:=let ⟨o,h1,h2⟩:=z; ⟨o,k o h1,h2⟩
theorem SAt.keep{h h':Heap}{a:Addr}{es:Array (Int×Value)}{ep:Nat}{t:SetTable}(z:SAt h a es ep t)(k:∀ o,h.get? a=some o->h'.get? a=some o):SAt h' a es ep t:=let ⟨o,h1,h2⟩:=z; ⟨o,k o h1,h2⟩
section
variable {prog:Program} {w:World} {A:Around} {E:Value->Shared->Prop} {s:Shared}
theorem next_item{it a:Addr}{slot i n ep nx:Nat}{es:Array (Int×Value)}{t:SetTable}{x:Value}{Q:Option Value->Shared->Prop}(hit:IsIt s.heap it (.int slot 0) i a n ep)(hS:SAt s.heap a es ep t)(hn:es.size=n)
  (hx:∀ (A':Around) (E':Value->Shared->Prop) (Q':Option (Value×Nat)->Shared->Prop),Q' (some (x,nx)) s->wpAny (model prog w) A' (setNext a slot i ep) Q' E' s)
  (hQ:∀ h',IsIt h' it (.int nx 0) (i+1) a n ep->Heap.SameBut it s.heap h'->Q (some x) { s with heap:=h' }):wpAny (model prog w) A (pyNext (.ref it)) Q E s:=by
 obtain ⟨o,ho,hc,hd⟩:=id hit
 obtain ⟨os,hos,hex,hds,hf⟩:=id hS
 have hT:s.TypeIs (.ref it) "set_iterator":=⟨o,ho,hc⟩
 unfold pyNext
 refine wpAny_bind (wpAny_attempt (wpAny_callSpecial?_slot (name:=Str.ofString "__next__") hT slot_sit_next (wpAny_call_entry slot_sit_next hT entry_sit_next ?_ (args_sit_next _))))
 unfold Builtin.«set_iterator.__next__»
 refine wpAny_bind (m:=slotArgs "__next__" 0 _) (wpAny_pure ?_)
 refine wpAny_bind (wpAny_fieldsOf ho hd ?_)
 show wpAny _ _ (setEntries a >>= _) _ _ s
 refine wpAny_bind (wpAny_setEntries_of hos hds hf ?_)
 rw [if_neg (by rw [hn]; simp)]
 show wpAny _ _ (setNext a (Int.toNat (slot:Int)) (Int.toNat (i:Int)) (Int.toNat (ep:Int)) >>= _) _ _ s
 simp only [Int.toNat_natCast]
 refine wpAny_bind (hx _ _ _ ?_)
 dsimp only
 refine wpAny_bind (wpAny_setField ho hd (by unfold ItF; simp) ?_)
 have ho1:=Heap.get?_update_self (Obj.mapFields (·.setIfInBounds 0 (rawInt nx))) ho (Obj.isFreed_of_fields (Obj.data_mapFields hd _))
 have hd1:(Obj.mapFields (·.setIfInBounds 0 (rawInt nx)) o).data=.fields (ItF (.int nx 0) i a n ep):=by rw [Obj.data_mapFields hd]; simp [ItF,rawInt]
 refine wpAny_bind (wpAny_setField ho1 hd1 (by unfold ItF; simp) ?_)
 have ho2:=Heap.get?_update_self (Obj.mapFields (·.setIfInBounds 1 (rawInt ((i:Int)+1)))) ho1 (Obj.isFreed_of_fields (Obj.data_mapFields hd1 _))
 refine wpAny_pure ⟨x,rfl,wpAny_pure (hQ _ ⟨_,ho2,(Obj.cls_mapFields ..).trans ((Obj.cls_mapFields ..).trans hc),?_⟩ ((Heap.SameBut.update ..).trans (Heap.SameBut.update ..)))⟩
 rw [Obj.data_mapFields hd1]
 simp [ItF,rawInt]
theorem next_end{it a:Addr}{slot i n ep:Nat}{es:Array (Int×Value)}{t:SetTable}{Q:Option Value->Shared->Prop}(hh:A.handled=none)(hit:IsIt s.heap it (.int slot 0) i a n ep)(hS:SAt s.heap a es ep t)(hn:es.size=n)
  (hx:∀ (A':Around) (E':Value->Shared->Prop) (Q':Option (Value×Nat)->Shared->Prop),Q' none s->wpAny (model prog w) A' (setNext a slot i ep) Q' E' s)
  (hQ:∀ h',Heap.ExtBut it s.heap h'->Q none { s with heap:=h' }):wpAny (model prog w) A (pyNext (.ref it)) Q E s:=by
 obtain ⟨o,ho,hc,hd⟩:=id hit
 obtain ⟨os,hos,hex,hds,hf⟩:=id hS
 have hT:s.TypeIs (.ref it) "set_iterator":=⟨o,ho,hc⟩
 unfold pyNext
 refine wpAny_bind (wpAny_attempt (wpAny_callSpecial?_slot (name:=Str.ofString "__next__") hT slot_sit_next (wpAny_call_entry slot_sit_next hT entry_sit_next ?_ (args_sit_next _))))
 unfold Builtin.«set_iterator.__next__»
 refine wpAny_bind (m:=slotArgs "__next__" 0 _) (wpAny_pure ?_)
 refine wpAny_bind (wpAny_fieldsOf ho hd ?_)
 show wpAny _ _ (setEntries a >>= _) _ _ s
 refine wpAny_bind (wpAny_setEntries_of hos hds hf ?_)
 rw [if_neg (by rw [hn]; simp)]
 show wpAny _ _ (setNext a (Int.toNat (slot:Int)) (Int.toNat (i:Int)) (Int.toNat (ep:Int)) >>= _) _ _ s
 simp only [Int.toNat_natCast]
 refine wpAny_bind (hx _ _ _ ?_)
 dsimp only
 refine wpAny_bind (wpAny_setField ho hd (by unfold ItF; simp) ?_)
 refine wpAny_bind ?_
 simp only [newExc,newTuple]
 refine wpAny_bind (wpAny_newObj_type ?_ (by size_fits))
 refine wpAny_bind (m:=firstArgMember _ _) (wpAny_of_eq (a:=Value.none) (by first | rfl | (simp only [firstArgMember]; rfl)) ?_)
 refine wpAny_newObj_type ?_ (by size_fits)
 simp only [raiseNew]
 refine wpAny_bind (wpAny_handled ?_)
 rw [show A.in1.handled=none from hh]
 refine wpAny_bind (wpAny_pure (wpAny_throw ?_))
 refine wpAny_bind (wpAny_isInstance (T:="StopIteration") (b:=true) ⟨_,Heap.get?_push_size _ rfl,rfl⟩ isSubtype_stop ?_)
 exact wpAny_pure (hQ _ (((Heap.SameBut.update ..).extBut.push _).push _))
end
end CwK
namespace CwK
open PySem PyProof.Rows
theorem erase_perm{α:Type}:∀ {l:List α} {i:Nat} (h:i < l.length),(l[i]::l.eraseIdx i).Perm l
 | a::l,0,h=>List.Perm.refl _
 | a::l,i+1,h=>by
  have h':i < l.length:=by simpa using h
  show (l[i]::a::l.eraseIdx i).Perm (a::l)
  exact (List.Perm.swap a _ _).trans (List.Perm.cons a (erase_perm h'))
theorem pick_go{α:Type}(next:Nat->Nat):∀ (f k:Nat) (left:List α) (out:Array α),left.length=f->(pickOrder.go next f k left out).toList.Perm (out.toList++left)
 | 0,k,left,out,h=>by
  have:left=[]:=List.length_eq_zero_iff.mp h
  subst this
  unfold pickOrder.go
  simp
 | f+1,k,left,out,h=>by
  unfold pickOrder.go
  have hp:0 < left.length:=by omega
  have hm:next k % left.length < left.length:=Nat.mod_lt _ hp
  rw [List.getElem?_eq_getElem hm]
  dsimp only
  refine (pick_go next f (k+1) _ _ (by rw [List.length_eraseIdx_of_lt hm]; omega)).trans ?_
  rw [Array.toList_push,List.append_assoc]
  refine List.Perm.append_left _ ?_
  exact (erase_perm hm)
theorem pick_perm{α:Type}(next:Nat->Nat)(xs:Array α):(pickOrder next xs).toList.Perm xs.toList:=by
 have:=pick_go next xs.size 0 xs.toList #[] (by simp)
 simpa [pickOrder] using this
theorem pick_size{α:Type}(next:Nat->Nat)(xs:Array α):(pickOrder next xs).size=xs.size:=by
 have:=(pick_perm next xs).length_eq
 simpa using this
section
variable {prog:Program} {w:World} {A:Around} {E:Value->Shared->Prop} {s:Shared}
theorem next_text{a:Addr}{es:Array (Int×Value)}{ep slot i:Nat}{t:SetTable}{Q:Option (Value×Nat)->Shared->Prop}(hS:SAt s.heap a es ep t)(hb:w.params.followText "set-order"=true)
  (h:Q (((pickOrder (w.params.setOrder a ep) es)[i]?).map fun e=>(e.2,slot)) s):wpAny (model prog w) A (setNext a slot i ep) Q E s:=by
 obtain ⟨o,ho,hex,hd,hf⟩:=hS
 unfold setNext setsByText
 refine wpAny_bind (wpAny_setState_of ho hd hf ?_)
 dsimp only
 refine wpAny_bind (wpAny_bind (wpAny_askSetting (wpAny_pure ?_)))
 rw [if_pos (show (model prog w).w.params.followText "set-order"=true from hb),if_neg (by simp)]
 unfold setWalk setsByText
 refine wpAny_bind (wpAny_bind (wpAny_setState_of ho hd hf ?_))
 dsimp only
 refine wpAny_bind (wpAny_bind (wpAny_askSetting (wpAny_pure ?_)))
 rw [if_pos (show (model prog w).w.params.followText "set-order"=true from hb)]
 refine wpAny_bind (wpAny_askSetting (wpAny_pure (wpAny_pure h)))
theorem next_plain{a:Addr}{es:Array (Int×Value)}{ep slot i:Nat}{t:SetTable}{Q:Option (Value×Nat)->Shared->Prop}(hS:SAt s.heap a es ep t)(hb:w.params.followText "set-order"=false)
  (hp:(!t.plain&&decide (es.size > 1))=false) (hl:t.led=true)
  (h:Q (match es[SetTable.below t.place slot]?,t.place[SetTable.below t.place slot]? with
   | some (_,x),some j=>some (x,j+1)
   | _,_=>none) s):wpAny (model prog w) A (setNext a slot i ep) Q E s:=by
 obtain ⟨o,ho,hex,hd,hf⟩:=hS
 unfold setNext setsByText
 refine wpAny_bind (wpAny_setState_of ho hd hf ?_)
 dsimp only
 refine wpAny_bind (wpAny_bind (wpAny_askSetting (wpAny_pure ?_)))
 rw [if_neg (show ¬ (model prog w).w.params.followText "set-order"=true by rw [show (model prog w).w.params.followText "set-order"=false from hb]; simp)]
 refine wpAny_ite_split (fun q=>absurd (show (!t.plain&&decide (es.size > 1))=true from q) (by rw [hp]; simp)) fun _=>?_
 refine wpAny_bind (m:=if (!t.led&&!es.isEmpty)=true then unsupported "set:maker-not-led" else pure ()) ?_
 rw [if_neg (by rw [hl]; simp)]
 exact wpAny_pure (wpAny_pure h)
theorem choose_wp{src:Source}{n:Nat}{Q:Nat->Shared->Prop}(hn:n≠0)(h:∀ i d',i < n->Q i { s with drawn:=d' }):wpAny (model prog w) A (choose src n) Q E s:=by
 intro Γ p hΓ
 unfold choose
 rw [Sem.wp_choose]
 exact ⟨hn,h _ _ (Nat.mod_lt _ (Nat.pos_of_ne_zero hn))⟩
theorem draw_wp{α:Type}:∀ (xs:List α) (s:Shared) (Q:List α->Shared->Prop),(∀ l d',l.Perm xs->Q l { s with drawn:=d' })->wpAny (model prog w) A (drawOrder xs.length xs) Q E s:=by
 intro xs
 generalize hn:xs.length=n
 induction n generalizing xs with
 | zero =>
  intro s Q h
  have:xs=[]:=List.length_eq_zero_iff.mp hn
  subst this
  exact wpAny_pure (h [] s.drawn (List.Perm.refl _))
 | succ n ih =>
  intro s Q h
  match xs,hn with
  | x::r,hn =>
   unfold drawOrder
   refine wpAny_bind (choose_wp (by simp) fun i d' hi=>?_)
   rw [List.getElem?_eq_getElem hi]
   dsimp only
   refine wpAny_bind (ih ((x::r).eraseIdx i) (by rw [List.length_eraseIdx_of_lt hi]; omega) { s with drawn:=d' } _ fun l d2 pm=>?_)
   exact wpAny_pure (h _ d2 ((List.Perm.cons _ pm).trans (erase_perm hi)))
end
end CwK
namespace CwK
open PySem PyProof.Rows
def slotAt(t:SetTable)(i:Nat):Nat:=match i with
 | 0=>0
 | i+1=>t.place.getD i 0+1
theorem slot_below{t:SetTable}(h:Rs t.place){i:Nat}(hi:i≤t.place.size):SetTable.below t.place (slotAt t i)=i:=by
 have B:=bel h (slotAt t i)
 have lo:∀ q,q < i->∀ x,t.place[q]?=some x->x < slotAt t i:=fun q hq x hx=>by
  cases i with
  | zero=>omega
  | succ i =>
   have hlt:i < t.place.size:=by omega
   have hg:t.place[i]?=some t.place[i]:=Array.getElem?_eq_getElem hlt
   have hd:t.place.getD i 0=t.place[i]:=by simp [Array.getD,hlt]
   show x < t.place.getD i 0+1
   rw [hd]
   rcases Nat.lt_or_ge q i with z | z
   ·have:=h.lt z hx hg; omega
   ·have:q=i:=by omega
    subst this
    rw [hg] at hx; injection hx with hx; omega
 have hi':∀ x,t.place[i]?=some x->slotAt t i≤x:=fun x hx=>by
  cases i with
  | zero=>exact Nat.zero_le _
  | succ i =>
   have hlt:i < t.place.size:=by omega
   have hg:t.place[i]?=some t.place[i]:=Array.getElem?_eq_getElem hlt
   have hd:t.place.getD i 0=t.place[i]:=by simp [Array.getD,hlt]
   show t.place.getD i 0+1≤x
   rw [hd]
   have:=h.lt (Nat.lt_succ_self i) hg hx
   omega
 rcases Nat.lt_trichotomy (SetTable.below t.place (slotAt t i)) i with z | z | z
 ·have hlt:SetTable.below t.place (slotAt t i) < t.place.size:=by omega
  have hg:=Array.getElem?_eq_getElem hlt
  have q1:=lo _ z _ hg
  have q2:=B.hi _ _ (Nat.le_refl _) hg
  omega
 ·exact z
 ·have hlt:i < t.place.size:=by have:=B.le; omega
  have hg:=Array.getElem?_eq_getElem hlt
  have q1:=hi' _ hg
  have q2:=B.lo _ _ z hg
  omega
theorem slot_sit_iter:Slot "set_iterator" "__iter__" "set_iterator.__iter__" :=
 .of (owner:="set_iterator") (n:="__iter__") (by rw [typeLookup_type,builtinLookup_eq_fast]; kernel_rfl) (by decide +kernel) (by decide +kernel) (by decide +kernel) (by first | exact .inl (by decide +kernel) | exact .inr (by decide +kernel)) (by rw [isSubtype_type]; kernel_rfl)
theorem entry_sit_iter:entryFor table "set_iterator.__iter__"=some Builtin.«dict_keyiterator.__iter__»:=entryFor_alias (id':="dict_keyiterator.__iter__") (by kernel_rfl) rfl (by decide +kernel) (by kernel_rfl)
theorem args_sit_iter(a:Value):argsOk "set_iterator.__iter__" ⟨[a],[]⟩:=by unfold argsOk; kernel_rfl
theorem self_iter{prog:Program}{w:World}{A:Around}{E:Value->Shared->Prop}{s:Shared}{it a:Addr}{first:Value}{i n ep:Nat}{Q:Value->Shared->Prop}(hit:IsIt s.heap it first i a n ep)(h:Q (.ref it) s):wpAny (model prog w) A (pyIter (.ref it)) Q E s:=by
 obtain ⟨o,ho,hc,hd⟩:=hit
 have hT:s.TypeIs (.ref it) "set_iterator":=⟨o,ho,hc⟩
 refine wpAny_pyIter_slot hT slot_sit_iter (wpAny_call_entry slot_sit_iter hT entry_sit_iter ?_ (args_sit_iter _))
 show wpAny _ _ (ret (.ref it)) _ _ s
 exact wpAny_pure ⟨_,rfl,"set_iterator",_,hT,slot_sit_next.lookup,h⟩
def vsOf(es:Array (Int×Value)):List Value:=es.toList.map (·.2)
section
variable {prog:Program} {w:World} {A:Around}
theorem walk_slot(hh:A.handled=none)(I a:Addr)(ne:a≠I)(es:Array (Int×Value))(ep:Nat)(t:SetTable)(hf:t.fits es.size=true)(hb:w.params.followText "set-order"=false)(hp:(!t.plain&&decide (es.size > 1))=false)(hl:t.led=true)(hr:Rs t.place) :
  Walks prog w A I [I,a] [I] es.size (fun i v=>(vsOf es)[i]?=some v) (fun i h=>IsIt h I (.int (slotAt t i) 0) i a es.size ep∧SAt h a es ep t) where
 sub:=fun b hb=>by simp at hb; simp [hb]
 frame:=fun _ _ _ st k=>⟨st.1.keep fun o e=>k I (by simp) o e,st.2.keep fun o e=>k a (by simp) o e⟩
 item:=fun i s Q E hi st hQ=>by
  have hpl:t.place.size=es.size:=by unfold SetTable.fits at hf; simp at hf; exact hf.1
  have e1:es[i]?=some es[i]:=Array.getElem?_eq_getElem hi
  have hi2:i < t.place.size:=by omega
  have e2:t.place[i]?=some t.place[i]:=Array.getElem?_eq_getElem hi2
  refine next_item (x:=es[i].2) (nx:=slotAt t (i+1)) st.1 st.2 rfl (fun A' E' Q' q=>next_plain st.2 hb hp hl ?_) fun h' z1 z2=>?_
  ·rw [slot_below hr (by omega),e1,e2]
   have:slotAt t (i+1)=t.place[i]+1:=by show t.place.getD i 0+1=_; simp [Array.getD,hi2]
   rw [this] at q
   exact q
  ·refine hQ _ h' s.toks ?_ ⟨z1,st.2.keep fun o e=>by rw [z2.2 a ne]; exact e⟩ fun b o hb' e=>by rw [z2.2 b (fun z=>hb' (by simp [z]))]; exact e
   unfold vsOf
   rw [List.getElem?_map,Array.getElem?_toList,e1]
   rfl
 done:=fun s Q E st hQ=>by
  have hpl:t.place.size=es.size:=by unfold SetTable.fits at hf; simp at hf; exact hf.1
  refine next_end hh st.1 st.2 rfl (fun A' E' Q' q=>next_plain st.2 hb hp hl ?_) fun h' z=>hQ h' s.toks fun b o hb' e=>z b o (fun y=>hb' (by simp [y])) e
  rw [slot_below hr (by omega),Array.getElem?_eq_none (Nat.le_refl _)]
  exact q
 self:=fun i s Q E st hQ=>by
  exact self_iter st.1 hQ
theorem walk_text(hh:A.handled=none)(I a:Addr)(ne:a≠I)(es:Array (Int×Value))(ep:Nat)(t:SetTable)(hb:w.params.followText "set-order"=true) :
  Walks prog w A I [I,a] [I] es.size (fun i v=>(vsOf (pickOrder (w.params.setOrder a ep) es))[i]?=some v) (fun i h=>IsIt h I (.int 0 0) i a es.size ep∧SAt h a es ep t) where
 sub:=fun b hb=>by simp at hb; simp [hb]
 frame:=fun _ _ _ st k=>⟨st.1.keep fun o e=>k I (by simp) o e,st.2.keep fun o e=>k a (by simp) o e⟩
 item:=fun i s Q E hi st hQ=>by
  have hi2:i < (pickOrder (w.params.setOrder a ep) es).size:=by rw [pick_size]; exact hi
  have e1:=Array.getElem?_eq_getElem hi2
  refine next_item (slot:=0) (x:=(pickOrder (w.params.setOrder a ep) es)[i].2) (nx:=0) st.1 st.2 rfl (fun A' E' Q' q=>next_text st.2 hb ?_) fun h' z1 z2=>?_
  ·rw [e1]; exact q
  ·refine hQ _ h' s.toks ?_ ⟨z1,st.2.keep fun o e=>by rw [z2.2 a ne]; exact e⟩ fun b o hb' e=>by rw [z2.2 b (fun z=>hb' (by simp [z]))]; exact e
   unfold vsOf
   rw [List.getElem?_map,Array.getElem?_toList,e1]
   rfl
 done:=fun s Q E st hQ=>by
  refine next_end (slot:=0) hh st.1 st.2 rfl (fun A' E' Q' q=>next_text st.2 hb ?_) fun h' z=>hQ h' s.toks fun b o hb' e=>z b o (fun y=>hb' (by simp [y])) e
  rw [Array.getElem?_eq_none (by rw [pick_size]; exact Nat.le_refl _)]
  exact q
 self:=fun i s Q E st hQ=>self_iter st.1 hQ
end
end CwK
namespace CwK
open PySem PyProof.Rows
abbrev tupO(xs:Array Value):Obj:={ cls:=.type "tuple",data:=.seq xs }
section
variable {prog:Program} {w:World} {A:Around} {E:Value->Shared->Prop} {s:Shared}
theorem draw_item{it a T:Addr}{i n ep p:Nat}{tk:Tok}{es:Array (Int×Value)}{t:SetTable}{hs:Int}{x:Value}{xs:Array Value}{Q:Option Value->Shared->Prop}(hit:IsIt s.heap it (.ref T) i a n ep)(hS:SAt s.heap a es ep t)(hn:es.size=n)
  (hT:s.heap.get? T=some (tupO xs)) (hx:xs[i]?=some (.int p tk)) (hp:es[p]?=some (hs,x))
  (hQ:∀ h',IsIt h' it (.ref T) (i+1) a n ep->Heap.SameBut it s.heap h'->Q (some x) { s with heap:=h' }):wpAny (model prog w) A (pyNext (.ref it)) Q E s:=by
 obtain ⟨o,ho,hc,hd⟩:=id hit
 obtain ⟨os,hos,hex,hds,hf⟩:=id hS
 have hTy:s.TypeIs (.ref it) "set_iterator":=⟨o,ho,hc⟩
 unfold pyNext
 refine wpAny_bind (wpAny_attempt (wpAny_callSpecial?_slot (name:=Str.ofString "__next__") hTy slot_sit_next (wpAny_call_entry slot_sit_next hTy entry_sit_next ?_ (args_sit_next _))))
 unfold Builtin.«set_iterator.__next__»
 refine wpAny_bind (m:=slotArgs "__next__" 0 _) (wpAny_pure ?_)
 refine wpAny_bind (wpAny_fieldsOf ho hd ?_)
 show wpAny _ _ (setEntries a >>= _) _ _ s
 refine wpAny_bind (wpAny_setEntries_of hos hds hf ?_)
 rw [if_neg (by rw [hn]; simp)]
 show wpAny _ _ (seqItems? (.ref T) >>= _) _ _ s
 refine wpAny_bind (wpAny_seqItems hT rfl ?_)
 dsimp only
 simp only [Int.toNat_natCast,hx]
 unfold setNextDrawn
 refine wpAny_bind (wpAny_bind (wpAny_setState_of hos hds hf ?_))
 dsimp only
 rw [if_neg (by simp)]
 simp only [hp]
 refine wpAny_pure (wpAny_bind (wpAny_setField ho hd (by unfold ItF; simp) ?_))
 have ho2:=Heap.get?_update_self (Obj.mapFields (·.setIfInBounds 1 (rawInt ((i:Int)+1)))) ho (Obj.isFreed_of_fields (Obj.data_mapFields hd _))
 refine wpAny_pure ⟨x,rfl,wpAny_pure (hQ _ ⟨_,ho2,(Obj.cls_mapFields ..).trans hc,?_⟩ (Heap.SameBut.update ..))⟩
 rw [Obj.data_mapFields hd]
 simp [ItF,rawInt]
theorem draw_end{it a T:Addr}{i n ep:Nat}{es:Array (Int×Value)}{t:SetTable}{xs:Array Value}{Q:Option Value->Shared->Prop}(hh:A.handled=none)(hit:IsIt s.heap it (.ref T) i a n ep)(hS:SAt s.heap a es ep t)(hn:es.size=n)
  (hT:s.heap.get? T=some (tupO xs)) (hx:xs[i]?=none) (hQ:∀ h',Heap.ExtBut it s.heap h'->Q none { s with heap:=h' }):wpAny (model prog w) A (pyNext (.ref it)) Q E s:=by
 obtain ⟨o,ho,hc,hd⟩:=id hit
 obtain ⟨os,hos,hex,hds,hf⟩:=id hS
 have hTy:s.TypeIs (.ref it) "set_iterator":=⟨o,ho,hc⟩
 unfold pyNext
 refine wpAny_bind (wpAny_attempt (wpAny_callSpecial?_slot (name:=Str.ofString "__next__") hTy slot_sit_next (wpAny_call_entry slot_sit_next hTy entry_sit_next ?_ (args_sit_next _))))
 unfold Builtin.«set_iterator.__next__»
 refine wpAny_bind (m:=slotArgs "__next__" 0 _) (wpAny_pure ?_)
 refine wpAny_bind (wpAny_fieldsOf ho hd ?_)
 show wpAny _ _ (setEntries a >>= _) _ _ s
 refine wpAny_bind (wpAny_setEntries_of hos hds hf ?_)
 rw [if_neg (by rw [hn]; simp)]
 show wpAny _ _ (seqItems? (.ref T) >>= _) _ _ s
 refine wpAny_bind (wpAny_seqItems hT rfl ?_)
 dsimp only
 simp only [Int.toNat_natCast,hx]
 refine wpAny_bind (wpAny_setField ho hd (by unfold ItF; simp) ?_)
 have ho1:=Heap.get?_update_self (Obj.mapFields (·.setIfInBounds 0 (rawInt 0))) ho (Obj.isFreed_of_fields (Obj.data_mapFields hd _))
 have hd1:(Obj.mapFields (·.setIfInBounds 0 (rawInt 0)) o).data=.fields (ItF (.int 0 0) i a n ep):=by rw [Obj.data_mapFields hd]; simp [ItF,rawInt]
 refine wpAny_bind (wpAny_setField ho1 hd1 (by unfold ItF; simp) ?_)
 refine wpAny_bind ?_
 simp only [newExc,newTuple]
 refine wpAny_bind (wpAny_newObj_type ?_ (by size_fits))
 refine wpAny_bind (m:=firstArgMember _ _) (wpAny_of_eq (a:=Value.none) (by first | rfl | (simp only [firstArgMember]; rfl)) ?_)
 refine wpAny_newObj_type ?_ (by size_fits)
 simp only [raiseNew]
 refine wpAny_bind (wpAny_handled ?_)
 rw [show A.in1.handled=none from hh]
 refine wpAny_bind (wpAny_pure (wpAny_throw ?_))
 refine wpAny_bind (wpAny_isInstance (T:="StopIteration") (b:=true) ⟨_,Heap.get?_push_size _ rfl,rfl⟩ isSubtype_stop ?_)
 exact wpAny_pure (hQ _ ((((Heap.SameBut.update ..).trans (Heap.SameBut.update ..)).extBut.push _).push _))
end
section
variable {prog:Program} {w:World} {A:Around}
def ordV(l:List Nat):Array Value:=(l.map fun (i:Nat)=>rawInt i).toArray
theorem walk_draw(hh:A.handled=none)(I a T:Addr)(ne:a≠I)(nT:T≠I)(es:Array (Int×Value))(ep:Nat)(t:SetTable)(l:List Nat)(pm:l.Perm (List.range es.size)) :
  Walks prog w A I [I,a,T] [I] es.size (fun i v=>(l.map fun p=>((es[p]?).map (·.2)).getD .none)[i]?=some v) (fun i h=>IsIt h I (.ref T) i a es.size ep∧SAt h a es ep t∧h.get? T=some (tupO (ordV l))) where
 sub:=fun b hb=>by simp at hb; simp [hb]
 frame:=fun _ _ _ st k=>⟨st.1.keep fun o e=>k I (by simp) o e,st.2.1.keep fun o e=>k a (by simp) o e,k T (by simp) _ st.2.2⟩
 item:=fun i s Q E hi st hQ=>by
  have hl:l.length=es.size:=by have:=pm.length_eq; simpa using this
  have hil:i < l.length:=by omega
  have hp:l[i] < es.size:=List.mem_range.mp (pm.mem_iff.mp (List.getElem_mem hil))
  refine draw_item (p:=l[i]) (tk:=0) (hs:=es[l[i]].1) (x:=es[l[i]].2) st.1 st.2.1 rfl st.2.2 ?_ (by rw [Array.getElem?_eq_getElem hp]) fun h' z1 z2=>?_
  ·unfold ordV
   rw [List.getElem?_toArray,List.getElem?_map,List.getElem?_eq_getElem hil]
   rfl
  ·refine hQ _ h' s.toks ?_ ⟨z1,st.2.1.keep fun o e=>by rw [z2.2 a ne]; exact e,by rw [z2.2 T nT]; exact st.2.2⟩ fun b o hb' e=>by rw [z2.2 b (fun z=>hb' (by simp [z]))]; exact e
   rw [List.getElem?_map,List.getElem?_eq_getElem hil]
   simp [hp]
 done:=fun s Q E st hQ=>by
  have hl:l.length=es.size:=by have:=pm.length_eq; simpa using this
  refine draw_end hh st.1 st.2.1 rfl st.2.2 ?_ fun h' z=>hQ h' s.toks fun b o hb' e=>z b o (fun y=>hb' (by simp [y])) e
  unfold ordV
  rw [List.getElem?_toArray,List.getElem?_eq_none (by simp; omega)]
 self:=fun i s Q E st hQ=>self_iter st.1 hQ
theorem map_range_perm(es:Array (Int×Value)):(List.range es.size).map (fun p=>((es[p]?).map (·.2)).getD .none)=vsOf es:=by
 unfold vsOf
 apply List.ext_getElem?
 intro i
 by_cases h:i < es.size
 ·simp [h]
 ·rw [List.getElem?_eq_none (by simp; omega),List.getElem?_eq_none (by simp; omega)]
variable {E:Value->Shared->Prop} {s:Shared}
theorem set_iter{a:Addr}{es:Array (Int×Value)}{ep:Nat}{t:SetTable}{Q:Value->Shared->Prop}(hh:A.handled=none)(hS:SAt s.heap a es ep t)(Ti:TI (ledOf w) t)(hbig:es.size≤sizeLine)
  (h:∀ (I:Addr) (h':Heap) (d':_) (vs:List Value) (fp:List Addr) (St:Nat->Heap->Prop),vs.Perm (vsOf es)->(∀ b o,s.heap.get? b=some o->h'.get? b=some o)->s.heap.objs.size≤I->(∀ b∈fp,b=a∨s.heap.objs.size≤b) ->
   Walks prog w A I fp [I] vs.length (fun i v=>vs[i]?=some v) St->St 0 h'->Q (.ref I) { s with heap:=h',drawn:=d' }):wpAny (model prog w) A (pyIter (.ref a)) Q E s:=by
 obtain ⟨o,ho,hex,hd,hf⟩:=id hS
 have hT:s.TypeIs (.ref a) "set":=⟨o,ho,hex.1⟩
 have al:a < s.heap.objs.size:=Heap.lt_size ho
 have vl:(vsOf es).length=es.size:=by unfold vsOf; simp
 refine wpAny_pyIter_slot hT F.slot_set_iter (wpAny_call_entry F.slot_set_iter hT entry_set_iter' ?_ (F.args_set_iter_1 _))
 unfold Builtin.«frozenset.__iter__» Builtin.Frozenset.slot0 Builtin.Frozenset.sizeOf
 refine wpAny_bind (wpAny_bind (m:=slotArgs "__iter__" 0 _) (wpAny_pure ?_))
 show wpAny _ _ (pure a) _ _ s
 refine wpAny_pure (wpAny_bind (wpAny_bind (wpAny_setEntries_of ho hd hf (wpAny_pure ?_))))
 unfold setDrawn setsByText
 refine wpAny_bind (wpAny_bind (wpAny_setState_of ho hd hf ?_))
 dsimp only
 refine wpAny_bind (wpAny_bind (wpAny_askSetting (wpAny_pure (wpAny_pure ?_))))
 refine wpAny_ite_split (fun q=>?_) fun q=>?_
 ·have D:=draw_wp (prog:=prog) (w:=w) (A:=A.in1) (E:=E) (List.range es.size) s
  rw [List.length_range] at D
  refine wpAny_bind (D _ fun l d' pm=>?_)
  refine wpAny_bind (wpAny_newTuple ?_ (by
   have:=pm.length_eq
   rw [List.length_map,this,List.length_range]
   exact hbig))
  refine wpAny_bind (wpAny_setEpoch_of (Heap.get?_push_of_some _ ho) hd hf ?_)
  unfold newFields
  refine wpAny_bind (wpAny_newObj_type (wpAny_pure ⟨_,rfl,"set_iterator",_,⟨_,Heap.get?_push_size _ rfl,rfl⟩,slot_sit_next.lookup,?_⟩))
  have z0:(s.heap.push (tupO (ordV l))).objs.size=s.heap.objs.size+1:=Heap.size_push ..
  have len:(l.map fun p=>((es[p]?).map (·.2)).getD Value.none).length=es.size:=by rw [List.length_map,pm.length_eq,List.length_range]
  refine h (s.heap.push (tupO (ordV l))).objs.size _ d' (l.map fun p=>((es[p]?).map (·.2)).getD .none) [(s.heap.push (tupO (ordV l))).objs.size,a,s.heap.objs.size] (fun i h=>IsIt h (s.heap.push (tupO (ordV l))).objs.size (.ref s.heap.objs.size) i a es.size ep∧SAt h a es ep t∧h.get? s.heap.objs.size=some (tupO (ordV l))) ?_ ?_ ?_ ?_ ?_ ?_
  ·rw [←map_range_perm]
   exact pm.map _
  ·exact fun b o e=>Heap.get?_push_of_some _ (Heap.get?_push_of_some _ e)
  ·rw [z0]; exact Nat.le_succ _
  ·intro b hb
   simp only [List.mem_cons,List.not_mem_nil,or_false] at hb
   rcases hb with rfl | rfl | rfl
   ·rw [z0]; exact .inr (Nat.le_succ _)
   ·exact .inl rfl
   ·exact .inr (Nat.le_refl _)
  ·rw [len]
   exact walk_draw hh (s.heap.push (tupO (ordV l))).objs.size a s.heap.objs.size (by rw [z0]; exact Nat.ne_of_lt (Nat.lt_succ_of_lt al)) (by rw [z0]; exact Nat.ne_of_lt (Nat.lt_succ_self _)) es ep t l pm
  ·refine ⟨⟨_,Heap.get?_push_size _ rfl,rfl,rfl⟩,?_,?_⟩
   ·exact hS.keep fun o e=>Heap.get?_push_of_some _ (Heap.get?_push_of_some _ e)
   ·exact Heap.get?_push_of_some _ (Heap.get?_push_size _ rfl)
 ·refine wpAny_bind (wpAny_pure ?_)
  refine wpAny_bind (wpAny_setEpoch_of ho hd hf ?_)
  unfold newFields
  refine wpAny_bind (wpAny_newObj_type (wpAny_pure ⟨_,rfl,"set_iterator",_,⟨_,Heap.get?_push_size _ rfl,rfl⟩,slot_sit_next.lookup,?_⟩))
  have nI:a≠s.heap.objs.size:=Nat.ne_of_lt al
  have fpI:∀ b∈[s.heap.objs.size,a],b=a∨s.heap.objs.size≤b:=fun b hb=>by
   simp only [List.mem_cons,List.not_mem_nil,or_false] at hb
   rcases hb with rfl | rfl
   ·exact .inr (Nat.le_refl _)
   ·exact .inl rfl
  cases hb:w.params.followText "set-order" with
  | true =>
   have lz:(vsOf (pickOrder (w.params.setOrder a ep) es)).length=es.size:=by unfold vsOf; rw [List.length_map,Array.length_toList,pick_size]
   refine h _ _ s.drawn (vsOf (pickOrder (w.params.setOrder a ep) es)) [s.heap.objs.size,a] (fun i h=>IsIt h s.heap.objs.size (.int 0 0) i a es.size ep∧SAt h a es ep t) ((pick_perm _ es).map _) (fun b o e=>Heap.get?_push_of_some _ e) (Nat.le_refl _) fpI ?_ ?_
   ·rw [lz]; exact walk_text hh _ a nI es ep t hb
   ·exact ⟨⟨_,Heap.get?_push_size _ rfl,rfl,rfl⟩,hS.keep fun o e=>Heap.get?_push_of_some _ e⟩
  | false =>
   have hp:(!t.plain&&decide (es.size > 1))=false:=by
    cases z:(!t.plain&&decide (es.size > 1)) with
    | false=>rfl
    | true =>
     refine absurd ?_ q
     show (!w.params.followText "set-order"&&(!t.plain&&decide (es.size > 1)))=true
     rw [hb,z]; rfl
   have hl:t.led=true:=by rw [Ti.led]; unfold ledOf; rw [hb]; rfl
   have hpl:t.place.size=es.size:=by unfold SetTable.fits at hf; simp at hf; exact hf.1
   have hr:Rs t.place:=by
    cases z:t.plain with
    | true=>exact (Ti.rs z).1
    | false =>
     rw [z] at hp
     have:¬ es.size > 1:=by simpa using hp
     unfold Rs
     have l1:t.place.toList.length≤1:=by rw [Array.length_toList]; omega
     match hq:t.place.toList,l1 with
     | [],_=>exact List.Pairwise.nil
     | [x],_=>exact List.pairwise_singleton _ _
   refine h _ _ s.drawn (vsOf es) [s.heap.objs.size,a] (fun i h=>IsIt h s.heap.objs.size (.int (slotAt t i) 0) i a es.size ep∧SAt h a es ep t) (List.Perm.refl _) (fun b o e=>Heap.get?_push_of_some _ e) (Nat.le_refl _) fpI ?_ ?_
   ·rw [vl]; exact walk_slot hh _ a nI es ep t hf hb hp hl hr
   ·exact ⟨⟨_,Heap.get?_push_size _ rfl,rfl,rfl⟩,hS.keep fun o e=>Heap.get?_push_of_some _ e⟩
end
end CwK
namespace CwK
open PySem PyProof.Rows
section
variable {prog:Program} {w:World} {A:Around} {E:Value->Shared->Prop} {s:Shared}
theorem set_hint{r:Addr}{Q:Bool->Shared->Prop}(hT:s.TypeIs (.ref r) "set")(h:Q false s):wpAny (model prog w) A (Builtin.List.listLengthHint (.ref r)) Q E s:=by
 unfold Builtin.List.listLengthHint
 refine wpAny_bind (wpAny_specialOf hT PySem.F.slot_set_len.lookup ?_)
 generalize hid:("set.__len__":String)=id0
 wp_delta
 rw [show splitId id0=some ("set","__len__") from by subst hid; decide +kernel]
 subst hid
 refine wpAny_bind (wpAny_isInstance (T:="set") (b:=true) hT (by rw [isSubtype_type]; kernel_rfl) ?_)
 refine wpAny_ite_split (fun q=>absurd q (by decide)) fun _=>?_
 refine wpAny_ite_split (fun _=>?_) fun q=>absurd (by decide +kernel) q
 exact wpAny_bind (wpAny_typeOf hT (wpAny_pure h))
theorem set_collect{a:Addr}{es:Array (Int×Value)}{ep:Nat}{t:SetTable}{R:List Value->Shared->Prop}(hh:A.handled=none)(hS:SAt s.heap a es ep t)(Ti:TI (ledOf w) t)(hbig:es.size≤sizeLine)
  (h:∀ (h':Heap) (d':Drawn) (tk:Nat) (vs:List Value),vs.Perm (vsOf es)->(∀ b o,s.heap.get? b=some o->h'.get? b=some o)->s.heap.objs.size≤h'.objs.size->R vs { s with heap:=h',drawn:=d',toks:=tk }) :
  wpAny (model prog w) A (collect (.ref a)) R E s:=by
 have al:a < s.heap.objs.size:=by obtain ⟨o,ho,_⟩:=hS; exact Heap.lt_size ho
 unfold collect
 refine wpAny_bind (wpAny_runValue (codeAny_builtin entry_proto_collect' ?_))
 rw [Around.under_plainId PySem.F.plain_proto_collect _]
 show wpAny _ A.in1 (newList [] >>= fun l=>again (.builtin "list.__iadd__" ⟨[l,.ref a],[]⟩)) _ _ s
 refine wpAny_bind (wpAny_newObj_type (wpAny_pure ⟨plainId_quiet PySem.F.plain_list_iadd _,codeAny_builtin entry_list_iadd' ?_⟩))
 rw [Around.under_plainId PySem.F.plain_list_iadd _]
 have hB:(s.heap.push { cls:=.type "list",data:=.seq ([]:List Value).toArray }).get? s.heap.objs.size=some { cls:=.type "list",data:=.seq #[] }:=Heap.get?_push_size _ rfl
 have sz1:(s.heap.push { cls:=.type "list",data:=.seq ([]:List Value).toArray }).objs.size=s.heap.objs.size+1:=Heap.size_push ..
 have hS1:SAt (s.heap.push { cls:=.type "list",data:=.seq ([]:List Value).toArray }) a es ep t:=hS.keep fun o e=>Heap.get?_push_of_some _ e
 have k1:∀ b o,s.heap.get? b=some o->(s.heap.push { cls:=.type "list",data:=.seq ([]:List Value).toArray }).get? b=some o:=fun b o e=>Heap.get?_push_of_some _ e
 show wpAny _ A.in1 (Builtin.List.listExtendWith (.ref s.heap.objs.size) (.ref a) (.ref s.heap.objs.size)) _ _ _
 generalize hg1:s.heap.push { cls:=.type "list",data:=.seq ([]:List Value).toArray }=g1 at *
 unfold Builtin.List.listExtendWith
 have hT:Shared.TypeIs { s with heap:=g1 } (.ref a) "set":=by obtain ⟨o,ho,hex,_⟩:=hS1; exact ⟨o,ho,hex.1⟩
 refine wpAny_bind (wpAny_typeOf (T:="set") hT ?_)
 have e1:Builtin.List.listSameRef (.ref s.heap.objs.size) (.ref a)=false:=by
  have:s.heap.objs.size≠a:=Nat.ne_of_gt al
  simp [Builtin.List.listSameRef,this]
 have e2:(Value.type "set"==Value.type "list")=false:=by decide
 have e3:(Value.type "set"==Value.type "tuple")=false:=by decide
 simp only [e1,e2,e3,Bool.or_false,Bool.false_eq_true,if_false]
 refine wpAny_bind (set_iter (A:=A.in1) (s:={ s with heap:=g1 }) hh hS1 Ti hbig fun I h' d' vs fp St pm kp hI hfp W st=>?_)
 have lv:vs.length≤sizeLine:=by have:=pm.length_eq; unfold vsOf at this; simp only [List.length_map,Array.length_toList] at this; rw [this]; exact hbig
 have hB2:=kp _ _ hB
 have hT2:Shared.TypeIs { s with heap:=h',drawn:=d' } (.ref a) "set":=by obtain ⟨o,ho,hex,_⟩:=hS1; exact ⟨o,kp _ _ ho,hex.1⟩
 have nf:s.heap.objs.size∉fp:=fun z=>by
  rcases hfp _ z with q | q
  ·exact absurd q (Nat.ne_of_gt al)
  ·have q:g1.objs.size≤s.heap.objs.size:=q
   rw [sz1] at q
   exact absurd q (Nat.not_succ_le_self _)
 refine wpAny_bind (wpAny_holding (set_hint hT2 ?_))
 refine wpAny_ite_split (fun _=>?_) fun q=>absurd (by decide +kernel) q
 refine wpAny_bind (wpAny_rule (wpAny_bind ?_))
 show wpAny _ _ (updateSeq s.heap.objs.size (·.push .none) >>= fun _=>updateSeq s.heap.objs.size (·.pop)) _ _ _
 refine wpAny_bind (wpAny_updateSeq hB2 rfl ?_)
 have hB3:=Heap.get?_update_self (Obj.mapSeq (·.push Value.none)) hB2 rfl
 refine wpAny_updateSeq (hz:=by seq_fits) hB3 rfl ?_
 have hB4:=Heap.get?_update_self (Obj.mapSeq (·.pop)) hB3 rfl
 have k4:∀ b o,b≠s.heap.objs.size->h'.get? b=some o->((h'.update s.heap.objs.size (Obj.mapSeq (·.push Value.none))).update s.heap.objs.size (Obj.mapSeq (·.pop))).get? b=some o:=fun b o nb e =>
  (Heap.get?_update_other _ _ (Ne.symm nb)).trans ((Heap.get?_update_other _ _ (Ne.symm nb)).trans e)
 have st4:=W.frame 0 _ ((h'.update s.heap.objs.size (Obj.mapSeq (·.push Value.none))).update s.heap.objs.size (Obj.mapSeq (·.pop))) st fun b hb o e=>k4 b o (fun z=>nf (z▸hb)) e
 refine wpAny_pure ⟨plainId_quiet PySem.F.plain_extend_loop _,codeAny_extend_loopS W.toS lv s.heap.objs.size nf (.ref s.heap.objs.size) vs.length 0 _ #[] _ (by omega) (Nat.zero_le _) st4 hB4 (ItemsOf.nil _) fun s' acc c mv hB5 hit=>?_⟩
 obtain ⟨h5,g5,d5,tk5,os5⟩:=s'
 have eg:g5=s.gens:=mv.gens
 have ed:d5=d':=mv.drawn
 have eo:os5=s.os:=mv.os
 subst eg ed eo
 have ea:acc.toList=vs:=by
  apply List.ext_getElem?
  intro j
  by_cases hj:j < acc.size
  ·have q:=hit.2 j acc[j] (Array.getElem?_eq_getElem hj)
   rw [q]
   simp [hj]
  ·rw [List.getElem?_eq_none (by simpa using hj),List.getElem?_eq_none (by rw [←hit.1]; omega)]
 show wpAny _ A (load s.heap.objs.size >>= _) _ _ _
 refine wpAny_bind (wpAny_load hB5 ?_)
 refine wpAny_pure ?_
 have fin:=h h5 d5 tk5 vs pm fun b o e=>by
  have bl:=Heap.lt_size e
  refine mv.heap b o ?_ (k4 b o (Nat.ne_of_lt bl) (kp b o (k1 b o e)))
  simp only [List.mem_cons,List.not_mem_nil,or_false,not_or]
  refine ⟨Nat.ne_of_lt bl,?_⟩
  have hI:g1.objs.size≤I:=hI
  rw [sz1] at hI
  exact Nat.ne_of_lt (Nat.lt_of_lt_of_le (Nat.lt_succ_of_lt bl) hI)
 have fin:=fin (Nat.le_of_lt (Heap.lt_size hB5))
 show R acc.toList _
 rw [ea]
 exact fin
theorem set_keys{a:Addr}{l:List Int}(hS:SetD prog w (ledOf w) s.heap a l):∃ es ep t,SAt s.heap a es ep t∧TI (ledOf w) t∧es.size < scanBound∧es.size=(dd l).length∧∃ ks:List Int,IntsAre (vsOf es) ks∧ks.Perm (dd l):=by
 obtain ⟨o,es,ep,t,⟨ho,hex,hd⟩,⟨hel,hmem⟩,⟨hb,hf,hn⟩,T⟩:=hS
 refine ⟨es,ep,t,⟨o,ho,hex,hd,hf⟩,T,hb,hn,?_⟩
 have one:∀ (r:List (Int×Value)),ElemsOf (intKind prog w) r->∃ ks:List Int,IntsAre (r.map (·.2)) ks∧∀ k,(∃ e∈r,(intKind prog w).is k e.2=true)->k∈ks:=by
  intro r
  induction r with
  | nil=>intro _; exact ⟨[],.nil,fun k ⟨e,he,_⟩=>by simp at he⟩
  | cons e r ih =>
   intro he
   obtain ⟨ks,h1,h2⟩:=ih he.tail
   obtain ⟨⟨k,hk,_⟩,_⟩:=he.head
   obtain ⟨tk,ev⟩:=Value.isInt_shape (k:=k) (v:=e.2) hk
   refine ⟨k::ks,?_,fun k' hk'=>?_⟩
   ·rw [List.map_cons,ev]
    exact .cons k tk h1
   ·obtain ⟨e',he',q⟩:=hk'
    rcases List.mem_cons.mp he' with z | z
    ·subst z
     have:k'=k:=(intKind prog w).inj e'.2 k' k q hk
     rw [this]; exact List.mem_cons_self ..
    ·exact List.mem_cons_of_mem _ (h2 k' ⟨e',z,q⟩)
 obtain ⟨ks,h1,h2⟩:=one es.toList hel
 refine ⟨ks,h1,cover_perm (dd l) ks (dd_nd l) (fun x hx=>h2 x ((hmem x).mp (by simpa using (dd_mem l x).mp hx))) ?_⟩
 have:=h1.length
 rw [←this,List.length_map,Array.length_toList]
 omega
theorem ints_perm{vs us:List Value}(pm:vs.Perm us):∀ {ks:List Int},IntsAre us ks->∃ js,IntsAre vs js∧js.Perm ks:=by
 induction pm with
 | nil=>intro ks h; exact ⟨ks,h,List.Perm.refl _⟩
 | cons x _ ih =>
  intro ks h
  cases h with
  | cons n t h =>
   obtain ⟨js,h1,h2⟩:=ih h
   exact ⟨n::js,.cons n t h1,h2.cons n⟩
 | swap x y r =>
  intro ks h
  cases h with
  | cons n t h =>
   cases h with
   | cons m u h=>exact ⟨m::n::_,.cons m u (.cons n t h),List.Perm.swap ..⟩
 | trans _ _ ih1 ih2 =>
  intro ks h
  obtain ⟨js,h1,h2⟩:=ih2 h
  obtain ⟨is,h3,h4⟩:=ih1 h1
  exact ⟨is,h3,h4.trans h2⟩
theorem sorted_set{a:Addr}{l:List Int}{Q:Value->Shared->Prop}(hh:A.handled=none)(hS:SetD prog w (ledOf w) s.heap a l)(h64:(dd l).length < 64)
  (h:∀ (D:Addr) (h':Heap) (d':Drawn) (tk c:Nat) (out:Array Value) (js:List Int),IntsAre out.toList js->js.Perm (dd l)->js.Pairwise (·≤·)->(∀ b o,s.heap.get? b=some o->h'.get? b=some o)->s.heap.objs.size≤D ->
   h'.get? D=some (seqObj "list" out c)->Q (.ref D) { s with heap:=h',drawn:=d',toks:=tk }):wpAny (model prog w) A (call (.builtin "sorted") [.ref a]) Q E s:=by
 obtain ⟨es,ep,t,hA,Ti,hb,hn,ks,hk,pk⟩:=set_keys hS
 refine Calls.call_function_entry kind_sorted plain_sorted entry_sorted (args_sorted1 _) ?_
 unfold Builtin.«sorted»
 refine wpAny_bind (m:=checkCount "sorted" 1 1 _) (wpAny_pure ?_)
 refine wpAny_bind (set_collect (A:=A.in1) hh hA Ti (fits_of_scanBound hb) fun h1 d1 tk1 vs pm kp lz=>?_)
 obtain ⟨js,hj,pj⟩:=ints_perm pm hk
 have lv:vs.length < 64:=by rw [hj.length,pj.length_eq,pk.length_eq]; exact h64
 refine wpAny_bind (wpAny_newList ?_ (by rw [sizeLine_eq]; omega))
 have hoD:(h1.push (seqObj "list" vs.toArray 0)).get? h1.objs.size=some (seqObj "list" vs.toArray 0):=Heap.get?_push_size _ rfl
 show wpAny _ _ _ _ _ { s with heap:=h1.push (seqObj "list" vs.toArray 0),drawn:=d1,toks:=tk1 }
 refine wpAny_bind (wpAny_holding (wpAny_call_entry slot_list_sort ⟨_,hoD,rfl⟩ entry_list_sort (list_sort_tree hoD hj lv fun out ns' a1 a2 a3=>⟨_,rfl,?_⟩) (args_list_sort _)))
 obtain ⟨c,hc⟩:=sortedHeap_at (vs:=vs) (out:=out) hoD
 refine wpAny_pure ⟨_,rfl,h h1.objs.size _ d1 tk1 c out ns' a1 (a2.trans (pj.trans pk)) a3 (fun b o e=>?_) ?_ hc⟩
 ·have e1:=kp b o e
  have bl:=Heap.lt_size e1
  rw [sortedHeap_old (Nat.ne_of_lt bl) (by rw [size_push']; exact Nat.lt_succ_of_lt bl)]
  exact Heap.get?_push_of_some _ e1
 ·exact lz
end
end CwK
namespace CwM
open PySem PyProof.Rows
section
variable {prog:Program} {w:World} {A:Around} {R:Result->Shared->Prop} {I:Addr} {fp wr:List Addr} {G:Array GenState->Array GenState->Prop} {n:Nat} {P:Nat->Value->Prop} {St:Nat->Shared->Prop}
abbrev bestO(xs:Array Value)(c:Nat):Obj:={ cls:=.type "list",dict:=none,data:=.seq xs c,slots:=#[] }
theorem first_loop(W:WalksS prog w A.in1 I fp wr G n P St)(B:Addr)(hB:B∉fp)(v0:Value)(dk:List (Str×Value))(Kp:Heap->Prop)(hK:∀ h h':Heap,Kp h->(∀ b o,b∉B::wr->h.get? b=some o->h'.get? b=some o)->Kp h')
  (cmp:∀ (i:Nat) (v:Value) (s':Shared) (Q:Value->Shared->Prop) (E:Value->Shared->Prop),0 < i->P i v->Kp s'.heap->(∀ tk,s'.toks≤tk->Q (.bool false) { s' with toks:=tk })->wpAny (model prog w) A.in1 (richCompare .Lt v v0) Q E s') :
  ∀ (f i:Nat) (s:Shared) (c:Nat),n - i=f->0 < i->i≤n->St i s->Kp s.heap->s.heap.get? B=some (bestO #[v0,v0] c) ->
   (∀ s',Moved (B::wr) G s s'->R (.ok (.ret v0)) s')->codeAny (model prog w) A (.builtin "min.loop" ⟨[.ref I,.none,.ref B],dk⟩) R s:=by
 have nw:B∉wr:=fun h=>hB (W.sub _ h)
 have up:∀ b∈wr,b∈B::wr:=fun b hb=>List.mem_cons_of_mem _ hb
 have nm:(toString "min"++toString ".loop":String)="min.loop":=by decide
 intro f
 induction f with
 | zero =>
  intro i s c hf hi0 hi st hk hb fin
  have ei:i=n:=by omega
  refine codeAny_builtin F.entry_min_loop ?_
  rw [Around.under_plainId F.plain_min_loop _]
  show wpAny _ A.in1 (seqItems? (.ref B) >>= _) _ _ s
  refine wpAny_bind (wpAny_seqItems hb rfl ?_)
  show wpAny _ A.in1 (tryCatch (pyNext (.ref I)) _ >>= _) _ _ s
  refine wpAny_bind (wpAny_tryCatch (W.done s _ _ (ei▸st) fun s' mv=>?_))
  have hb':=mv.heap B _ nw hb
  show wpAny _ A.in1 (updateSeq B (fun _=>#[]) >>= _) _ _ _
  refine wpAny_bind (wpAny_updateSeq hb' rfl (wpAny_bind (wpAny_letGo (wpAny_pure ?_))))
  exact fin _ ((mv.mono up).then_heap (tk:=s'.toks) (Nat.le_refl _) fun b o nb e=>(Heap.get?_update_other _ _ (fun z=>nb (by rw [z]; exact List.mem_cons_self))).trans e)
 | succ f ih =>
  intro i s c hf hi0 hi st hk hb fin
  have il:i < n:=by omega
  refine codeAny_builtin F.entry_min_loop ?_
  rw [Around.under_plainId F.plain_min_loop _]
  show wpAny _ A.in1 (seqItems? (.ref B) >>= _) _ _ s
  refine wpAny_bind (wpAny_seqItems hb rfl ?_)
  show wpAny _ A.in1 (tryCatch (pyNext (.ref I)) _ >>= _) _ _ s
  refine wpAny_bind (wpAny_tryCatch (W.item i s _ _ il st fun v s' hP st' mv=>?_))
  have hb':=mv.heap B _ nw hb
  have hk':Kp s'.heap:=hK _ _ hk fun b o nb e=>mv.heap b o (fun z=>nb (List.mem_cons_of_mem _ z)) e
  show wpAny _ A.in1 (tryCatch (holding [v,v] (richCompare .Lt v v0 >>= _)) _ >>= _) _ _ _
  refine wpAny_bind (wpAny_tryCatch (wpAny_holding (wpAny_bind (cmp i v s' _ _ hi0 hP hk' fun tk htk=>?_))))
  refine wpAny_bind (wpAny_holding (wpAny_truthy_bool ?_))
  refine wpAny_bind (wpAny_letGo (wpAny_pure ?_))
  simp only [Bool.false_eq_true,if_false]
  refine wpAny_bind (wpAny_letGo ?_)
  rw [nm]
  refine wpAny_pure ⟨plainId_quiet F.plain_min_loop _,ih (i+1) { s' with toks:=tk } c (by omega) (by omega) il (W.frame _ s' _ tk st' htk fun b _ o e=>e) hk' hb' fun s2 mv2=>?_⟩
  exact fin s2 (Moved.trans W.gtrans ((mv.mono up).then_heap (tk:=tk) htk fun b o _ e=>e) mv2)
theorem first_min(W:WalksS prog w A.in1 I fp wr G n P St)(B:Addr)(hB:B∉fp)(dk:List (Str×Value))(hn:0 < n)(Kp:Heap->Prop)(hK:∀ h h':Heap,Kp h->(∀ b o,b∉B::wr->h.get? b=some o->h'.get? b=some o)->Kp h')
  (cmp:∀ (i:Nat) (v v0:Value) (s':Shared) (Q:Value->Shared->Prop) (E:Value->Shared->Prop),0 < i->P i v->P 0 v0->Kp s'.heap->(∀ tk,s'.toks≤tk->Q (.bool false) { s' with toks:=tk })->wpAny (model prog w) A.in1 (richCompare .Lt v v0) Q E s')
  {s:Shared} {c:Nat} (st:St 0 s) (hk:Kp s.heap) (hb:s.heap.get? B=some (bestO #[] c)) (fin:∀ v0 s',P 0 v0->Moved (B::wr) G s s'->R (.ok (.ret v0)) s') :
  codeAny (model prog w) A (.builtin "min.loop" ⟨[.ref I,.none,.ref B],dk⟩) R s:=by
 have nw:B∉wr:=fun h=>hB (W.sub _ h)
 have up:∀ b∈wr,b∈B::wr:=fun b hb=>List.mem_cons_of_mem _ hb
 have nm:(toString "min"++toString ".loop":String)="min.loop":=by decide
 refine codeAny_builtin F.entry_min_loop ?_
 rw [Around.under_plainId F.plain_min_loop _]
 show wpAny _ A.in1 (seqItems? (.ref B) >>= _) _ _ s
 refine wpAny_bind (wpAny_seqItems hb rfl ?_)
 show wpAny _ A.in1 (tryCatch (pyNext (.ref I)) _ >>= _) _ _ s
 refine wpAny_bind (wpAny_tryCatch (W.item 0 s _ _ hn st fun v s' hP st' mv=>?_))
 have hb':=mv.heap B _ nw hb
 have hk':Kp s'.heap:=hK _ _ hk fun b o nb e=>mv.heap b o (fun z=>nb (List.mem_cons_of_mem _ z)) e
 show wpAny _ A.in1 (updateSeq B (fun _=>#[v,v]) >>= _) _ _ _
 refine wpAny_bind (wpAny_updateSeq hb' rfl ?_)
 rw [nm]
 have k1:∀ b o,b∉B::wr->s'.heap.get? b=some o->(s'.heap.update B (Obj.mapSeq fun _=>#[v,v])).get? b=some o:=fun b o nb e=>(Heap.get?_update_other _ _ (fun z=>nb (by rw [z]; exact List.mem_cons_self))).trans e
 refine wpAny_pure ⟨plainId_quiet F.plain_min_loop _,first_loop W B hB v dk Kp hK (fun i u s2 Q E h0 hu hq q=>cmp i u v s2 Q E h0 hu hP hq q) (n - 1) 1 _ _ rfl (by omega) hn (W.frame _ s' _ s'.toks st' (Nat.le_refl _) fun b hbf o e=>?_) (hK _ _ hk' k1) (Heap.get?_update_self _ hb' rfl) fun s2 mv2=>?_⟩
 ·exact (Heap.get?_update_other _ _ (fun z=>hB (by rw [z]; exact hbf))).trans e
 ·exact fin v s2 hP (Moved.trans W.gtrans ((mv.mono up).then_heap (tk:=s'.toks) (Nat.le_refl _) k1) mv2)
end
section
variable {prog:Program} {w:World} {A:Around} {E:Value->Shared->Prop} {s:Shared}
def kwD(d:Value):List (Str×Value):=[(Str.ofString "default",d)]
theorem args_min_d(a d:Value):argsOk "min" ⟨[a],kwD d⟩:=by unfold argsOk kwD; kernel_rfl
theorem bind_min_d(d:Value):Builtin.Builtins.bindParams "min" ["key","default"] 0 ⟨[],kwD d⟩=pure [none,some d]:=rfl
theorem call_tree_kw{id:String}{b:Builtin}{args:List Value}{kw:List (Str×Value)}{Q:Value->Shared->Prop}(k1:builtinKind id=none)(k2:plainId id=true)(k3:entryFor table id=some b)(k4:argsOk id ⟨args,kw⟩)
  (k5:wpAny (model prog w) A.in1 (b ⟨args,kw⟩) (fun fin s'=>match fin with
   | .done f=>(match (Except.ok f:Result) with | .ok (.ret v)=>Q v s' | .ok _=>False | .error e=>E e s')
   | .again c'=>c'.quiet=true∧codeAny (model prog w) A c' (fun r s'=>match r with | .ok (.ret v)=>Q v s' | .ok _=>False | .error e=>E e s') s') E s):wpAny (model prog w) A (call (.builtin id) args kw) Q E s:=by
 refine wpAny_call (codeAny_call_builtin k2 k3 ?_)
 simp only [checkBuiltinCall,k1]
 cases sg:Manifest.signature? id with
 | none=>exact wpAny_pure k5
 | some sig =>
  have q:Bind.checkArgs id sig ⟨args,kw⟩=pure ():=by simpa only [argsOk,sg] using k4
  simp only [q]
  exact wpAny_pure k5
theorem min_first{l:Addr}{items:Array Value}{d:Value}{Q:Value->Shared->Prop}(hh:A.handled=none)(hl:s.heap.IsList l items)(Kp:Heap->Prop)(hK:∀ h h':Heap,Kp h->(∀ b o,b < s.heap.objs.size->h.get? b=some o->h'.get? b=some o)->Kp h')(hk:Kp s.heap)
  (cmp:∀ (i:Nat) (v v0:Value) (s':Shared) (Q:Value->Shared->Prop) (E:Value->Shared->Prop),0 < i->items[i]?=some v->items[0]?=some v0->Kp s'.heap->(∀ tk,s'.toks≤tk->Q (.bool false) { s' with toks:=tk })->wpAny (model prog w) A.in1 (richCompare .Lt v v0) Q E s')
  (h:∀ (h':Heap) (tk:Nat),(∀ b o,s.heap.get? b=some o->h'.get? b=some o)->Q ((items[0]?).getD d) { s with heap:=h',toks:=tk }):wpAny (model prog w) A (call (.builtin "min") [.ref l] (kwD d)) Q E s:=by
 have nm:(toString "min"++toString ".loop":String)="min.loop":=by decide
 have ll:l < s.heap.objs.size:=by obtain ⟨o,ho,_⟩:=hl; exact Heap.lt_size ho
 refine call_tree_kw F.kind_min F.plain_min F.entry_min (args_min_d _ _) ?_
 show wpAny _ A.in1 (Builtin.Builtins.bindParams "min" ["key","default"] 0 ⟨[],kwD d⟩ >>= _) _ _ s
 refine wpAny_bind (wpAny_of_eq (bind_min_d d) ?_)
 refine wpAny_bind (wpAny_pure (wpAny_bind (wpAny_pyIter_list hl ?_)))
 refine wpAny_bind (wpAny_newObj_type ?_)
 rw [nm]
 generalize hg:(s.heap.push { cls:=.type "list_iterator",data:=.fields #[.ref l,.int 0 0] })=g1 at *
 have sz:g1.objs.size=s.heap.objs.size+1:=by rw [←hg]; exact Heap.size_push ..
 have nl:l≠s.heap.objs.size:=Nat.ne_of_lt ll
 have W:=(Walks.list (prog:=prog) (w:=w) (A:=A.in1) hh s.heap.objs.size l nl items)
 have st:(g1.push { cls:=.type "list",data:=.seq ([]:List Value).toArray }).IsListIter s.heap.objs.size l 0∧(g1.push { cls:=.type "list",data:=.seq ([]:List Value).toArray }).IsList l items:=by
  rw [←hg]
  exact ⟨⟨_,Heap.get?_push_of_some _ (Heap.get?_push_size _ rfl),rfl,rfl⟩,(hl.push _).push _⟩
 have hb:(g1.push { cls:=.type "list",data:=.seq ([]:List Value).toArray }).get? g1.objs.size=some (bestO #[] 0):=Heap.get?_push_size _ rfl
 have k0:∀ b o,s.heap.get? b=some o->(g1.push { cls:=.type "list",data:=.seq ([]:List Value).toArray }).get? b=some o:=fun b o e=>by rw [←hg]; exact Heap.get?_push_of_some _ (Heap.get?_push_of_some _ e)
 have nB:g1.objs.size∉[s.heap.objs.size,l]:=by
  rw [sz]
  simp only [List.mem_cons,List.not_mem_nil,or_false,not_or]
  exact ⟨Nat.ne_of_gt (Nat.lt_succ_self _),Nat.ne_of_gt (Nat.lt_succ_of_lt ll)⟩
 have low:∀ b,b < s.heap.objs.size->b∉[g1.objs.size,s.heap.objs.size]:=fun b bl=>by
  rw [sz]
  simp only [List.mem_cons,List.not_mem_nil,or_false,not_or]
  exact ⟨Nat.ne_of_lt (Nat.lt_succ_of_lt bl),Nat.ne_of_lt bl⟩
 have last:∀ (v:Value) (s':Shared),v=(items[0]?).getD d->Moved [g1.objs.size,s.heap.objs.size] (fun a b=>b=a) { s with heap:=g1.push { cls:=.type "list",data:=.seq ([]:List Value).toArray } } s'->Q v s':=fun v s' ev mv=>by
  obtain ⟨h5,g5,d5,tk5,os5⟩:=s'
  have eg:g5=s.gens:=mv.gens
  have ed:d5=s.drawn:=mv.drawn
  have eo:os5=s.os:=mv.os
  subst eg ed eo
  rw [ev]
  exact h h5 tk5 fun b o e=>mv.heap b o (low b (Heap.lt_size e)) (k0 b o e)
 by_cases hn:0 < items.size
 ·refine wpAny_pure ⟨plainId_quiet F.plain_min_loop _,first_min (s:={ s with heap:=g1.push { cls:=.type "list",data:=.seq ([]:List Value).toArray } }) W.toS g1.objs.size nB _ hn Kp (fun a b ha hab=>hK a b ha fun c o cl e=>hab c o (low c cl) e) cmp st (hK _ _ hk fun b o _ e=>k0 b o e) hb fun v0 s' hP mv=>last v0 s' (by rw [hP]; rfl) mv⟩
 ·have hn0:items.size=0:=by omega
  refine wpAny_pure ⟨plainId_quiet F.plain_min_loop _,codeAny_builtin F.entry_min_loop ?_⟩
  rw [Around.under_plainId F.plain_min_loop _]
  show wpAny _ A.in1 (seqItems? (.ref g1.objs.size) >>= _) _ _ _
  refine wpAny_bind (wpAny_seqItems hb rfl ?_)
  show wpAny _ A.in1 (tryCatch (pyNext (.ref s.heap.objs.size)) _ >>= _) _ _ _
  refine wpAny_bind (wpAny_tryCatch (W.toS.done _ _ _ (by rw [hn0]; exact st) fun s' mv=>?_))
  show wpAny _ A.in1 (rule _ >>= fun _=>ret d) _ _ _
  refine wpAny_bind (wpAny_rule (wpAny_pure ?_))
  exact last d s' (by rw [Array.getElem?_eq_none (by omega)]; rfl) (mv.mono fun b hb=>List.mem_cons_of_mem _ hb)
end
end CwM
namespace Cw
open PySem PySem.Spec PyProof.Rows L2
section
variable {X:Cx}
theorem Inv.drew{pins:List (Addr×Obj)}{σ:L2.St}{H:Hp}{s:Shared}(I:Inv X pins σ H s)(d':Drawn):Inv X pins σ H { s with drawn:=d' }:=⟨I.ok,I.os,I.bare,I.base,I.loc,I.cell,I.free,I.freeC,I.pin,I.hok,I.len⟩
def setO(P:Program)(w:World)(p:Addr)(ns:List Int):HO:=.ext fun h=>CwK.SetD P w (CwK.ledOf w) h p ns
theorem cr_set(hc:X.calm=true):CallR X (.type "set") (fun vs H Q=>∃ (a:Addr) (ns:List Int),vs=[V.ref a]∧SqL X.K H a (ns.map V.int)∧ns.length+1 < scanBound∧∀ p,H p=none->Q (.ref p) (upd H p (setO X.prog X.w p ns))):=by
 intro pins s σ H vs us Q I r h
 obtain ⟨a,ns,rfl,hs,hb,q⟩:=h
 obtain ⟨its,rv,hl,_⟩:=I.list hs
 rw [Vals.ref1 r]
 have hi:=rv.ints
 refine CwK.set_list (I.ok.hd hc) hl.isList hi (by have:=hi.length; simp only [List.size_toArray]; omega) fun h' tk hS kp=>?_
 refine ⟨.ref _,upd H s.heap.objs.size (setO X.prog X.w s.heap.objs.size ns),I.laid (t':=tk) kp (Nat.le_refl _) ?_,rfl,q _ (I.hok.fresh (Nat.le_refl _))⟩
 refine ⟨hS,?_,fun h1 h2 z k=>CwK.SetD.keep z k⟩
 obtain ⟨o,es,ep,t,⟨ho,_⟩,_⟩:=hS
 exact ⟨o,ho⟩
theorem cr_sortedSet(hc:X.calm=true):CallR X (.builtin "sorted") (fun vs H Q=>∃ (a:Addr) (ns:List Int),vs=[V.ref a]∧H a=some (setO X.prog X.w a ns)∧(CwK.dd ns).length < 64 ∧
  ∀ (js:List Int) (p:Addr),js.Perm (CwK.dd ns)->js.Pairwise (·≤·)->H p=none->Q (.ref p) (upd H p (.lst (js.map V.int)))):=by
 intro pins s σ H vs us Q I r h
 obtain ⟨a,ns,rfl,hs,h64,q⟩:=h
 rw [Vals.ref1 r]
 obtain ⟨hS,_⟩:=(show ObjOk X.prog X.w H s.heap a (setO X.prog X.w a ns) from I.hok a _ hs)
 refine CwK.sorted_set (I.ok.hd hc) hS h64 fun D h' d' tk c out js h1 h2 h3 kp hD hl=>?_
 have hlen:(js.map V.int).length≤sizeLine:=by rw [List.length_map,h2.length_eq]; exact small64 h64
 exact ⟨.ref _,upd H D (.lst (js.map V.int)),(Inv.drew I d').laid (t':=tk) kp hD ⟨hlen,out.toList,c,vals_of_ints h1,hl⟩,rfl,q js D h2 h3 (I.hok.fresh hD)⟩
end
def lt3I(a b:Int×Int×Int):Prop:=a.1 < b.1∨(a.1=b.1∧(a.2.1 < b.2.1∨(a.2.1=b.2.1∧a.2.2 < b.2.2)))
def T3(H:Hp)(t:Addr)(r:Int×Int×Int):Prop:=H t=some (.tup [.int r.1,.int r.2.1,.int r.2.2])
def rowAt(H:Hp)(t:Addr):Int×Int×Int:=match H t with
 | some (.tup [.int a,.int b,.int c])=>(a,b,c)
 | _=>(0,0,0)
theorem row_of{H:Hp}{t:Addr}{r:Int×Int×Int}(h:T3 H t r):rowAt H t=r:=by unfold rowAt; rw [show H t=_ from h]
theorem rows_of{H:Hp}:∀ {ts:List Addr} {rs:List (Int×Int×Int)},Paired (T3 H) ts rs->rs=ts.map (rowAt H)
 | _,_,.nil=>rfl
 | _,_,.cons h r=>by rw [List.map_cons,row_of h,←rows_of r]
theorem paired_map{H:Hp}:∀ {ts:List Addr},(∀ t∈ts,T3 H t (rowAt H t))->Paired (T3 H) ts (ts.map (rowAt H))
 | [],_=>.nil
 | t::ts,h=>.cons (h t (List.mem_cons_self ..)) (paired_map fun u hu=>h u (List.mem_cons_of_mem _ hu))
theorem paired_mem{H:Hp}:∀ {ts:List Addr} {rs:List (Int×Int×Int)},Paired (T3 H) ts rs->∀ t∈ts,T3 H t (rowAt H t)
 | _,_,.nil,t,h=>absurd h (by simp)
 | _,_,.cons (a:=a) h r,t,ht=>by
  rcases List.mem_cons.mp ht with e | e
  ·subst e; rw [row_of h]; exact h
  ·exact paired_mem r t e
def shp:Nat->Bool:=fun _=>false
def key3(r:Int×Int×Int):List (Int ⊕ List Nat):=[.inl r.1,.inl r.2.1,.inl r.2.2]
theorem key_lt{a b:Int×Int×Int}(h:lexLt itemOrd (key3 a) (key3 b)=false):¬ lt3I a b:=by
 obtain ⟨a1,a2,a3⟩:=a
 obtain ⟨b1,b2,b3⟩:=b
 unfold key3 at h
 have e:∀ x y:Int,itemOrd.blt (Sum.inl x) (Sum.inl y)=decide (x < y):=fun _ _=>rfl
 rw [lex_false,e,e] at h
 obtain ⟨h1,h2⟩:=h
 have h1:=of_decide_eq_false h1
 unfold lt3I
 dsimp only at h1 h2 ⊢
 rcases h2 with h2 | h2
 ·have:=of_decide_eq_true h2
  omega
 ·rw [lex_false,e,e] at h2
  obtain ⟨h3,h4⟩:=h2
  have h3:=of_decide_eq_false h3
  rcases h4 with h4 | h4
  ·have:=of_decide_eq_true h4
   omega
  ·rw [lex_false,e,e] at h4
   have h5:=of_decide_eq_false h4.1
   omega
section
variable {X:Cx}
theorem vals3{a b c:Int}{its:List Value}(r:Vals [.int a,.int b,.int c] its):∃ t u v,its=[.int a t,.int b u,.int c v]:=by
 obtain ⟨t,e1⟩:∃ t,its.head?=some (.int a t):=by
  cases r with
  | cons r1 _=>obtain ⟨t,rfl⟩:=r1; exact ⟨t,rfl⟩
 cases r with
 | cons r1 r =>
  cases r with
  | cons r2 r =>
   cases r with
   | cons r3 r =>
    cases r
    obtain ⟨t,rfl⟩:=r1
    obtain ⟨u,rfl⟩:=r2
    obtain ⟨v,rfl⟩:=r3
    exact ⟨t,u,v,rfl⟩
theorem tup3{pins:List (Addr×Obj)}{σ:L2.St}{H:Hp}{s:Shared}(I:Inv X pins σ H s){t:Addr}(h:T3 H t (rowAt H t)):G.tupKeyC s.heap shp (.ref t)=some (key3 (rowAt H t))∧∃ f,TupOf s.heap shp (.ref t) f:=by
 obtain ⟨_,its,r,o,ho,hc,n,hd⟩:=(show ObjOk X.prog X.w H s.heap t (.tup _) from I.hok t _ h)
 obtain ⟨t1,t2,t3,rfl⟩:=vals3 r
 constructor
 ·unfold G.tupKeyC G.isTupObj tupKey
  simp only [ho,hc,hd]
  simp [tupItems,shp,key3]
 ·exact ⟨_,t,o,_,n,rfl,ho,hc,hd,rfl,fun _=>⟨_,_,rfl⟩,fun e=>by simp [shp] at e⟩
theorem vals_refs:∀ {ts:List Addr} {its:List Value},Vals (ts.map V.ref) its->its=ts.map Value.ref
 | [],_,h=>by cases h; rfl
 | t::ts,_,h=>by
  cases h with
  | cons r1 r =>
   cases r1
   rw [vals_refs r]
   rfl
theorem refs_vals:∀ ts:List Addr,Vals (ts.map V.ref) (ts.map Value.ref)
 | []=>.nil
 | t::ts=>.cons rfl (refs_vals ts)
theorem tupsOf_all{h:Heap}:∀ {ts:List Addr},(∀ t∈ts,∃ f,TupOf h shp (.ref t) f)->∃ fs,TupsOf h shp (ts.map Value.ref) fs
 | [],_=>⟨[],.nil⟩
 | t::ts,q=>by
  obtain ⟨f,hf⟩:=q t (List.mem_cons_self ..)
  obtain ⟨fs,hfs⟩:=tupsOf_all fun u hu=>q u (List.mem_cons_of_mem _ hu)
  exact ⟨f::fs,.cons hf hfs⟩
theorem perm_refs:∀ {vs:List Value} {ts:List Addr},vs.Perm (ts.map Value.ref)->∃ ts':List Addr,vs=ts'.map Value.ref∧ts'.Perm ts:=by
 intro vs ts pm
 have all:∀ v∈vs,∃ t,v=Value.ref t:=fun v hv=>by
  obtain ⟨t,_,e⟩:=List.mem_map.mp (pm.mem_iff.mp hv)
  exact ⟨t,e.symm⟩
 have ex:∀ us:List Value,(∀ v∈us,∃ t,v=Value.ref t)->∃ ts':List Addr,us=ts'.map Value.ref:=by
  intro us
  induction us with
  | nil=>intro _; exact ⟨[],rfl⟩
  | cons v us ih =>
   intro h
   obtain ⟨t,rfl⟩:=h v (List.mem_cons_self ..)
   obtain ⟨ts',rfl⟩:=ih fun u hu=>h u (List.mem_cons_of_mem _ hu)
   exact ⟨t::ts',rfl⟩
 obtain ⟨ts',rfl⟩:=ex vs all
 refine ⟨ts',rfl,?_⟩
 have:=pm.map (fun v:Value=>match v with | .ref a=>a | _=>0)
 simpa [List.map_map,Function.comp_def] using this
theorem cr_sorted3:CallR X (.builtin "sorted") (fun vs H Q=>∃ (a:Addr) (ts:List Addr) (rs:List (Int×Int×Int)),vs=[V.ref a]∧SqL X.K H a (ts.map V.ref)∧Paired (T3 H) ts rs ∧
  ∀ (ts':List Addr) (rs':List (Int×Int×Int)) (p:Addr),Paired (T3 H) ts' rs'->rs'.Perm rs->rs'.Pairwise (fun a b=>¬ lt3I b a)->H p=none->Q (.ref p) (upd H p (.lst (ts'.map V.ref)))):=by
 intro pins s σ H vs us Q I r h
 obtain ⟨a,ts,rs,rfl,hs,hp,q⟩:=h
 obtain ⟨its,rv,hl,hz⟩:=I.list hs
 rw [Vals.ref1 r]
 have ei:=vals_refs rv
 subst ei
 rw [List.length_map] at hz
 have hm:=paired_mem hp
 obtain ⟨fs,hfs⟩:=tupsOf_all (h:=s.heap) fun t ht=>(tup3 I (hm t ht)).2
 refine G.sorted_tups (shape:=shp) hl.isList hfs (fun v hv=>?_) (by rw [List.length_map]; exact hz) fun st' p1 p2 _=>?_
 ·obtain ⟨t,ht,rfl⟩:=List.mem_map.mp hv
  exact ⟨_,(tup3 I (hm t ht)).1⟩
 ·have pz:∀ l:List Value,(l.zip l).map (·.2)=l:=fun l=>by
   induction l with
   | nil=>rfl
   | cons x l ih=>rw [List.zip_cons_cons,List.map_cons,ih]
  have zz:∀ l:List Value,∀ p∈l.zip l,p.1=p.2:=fun l=>by
   induction l with
   | nil=>intro p hp; simp at hp
   | cons x l ih =>
    intro p hp
    rcases List.mem_cons.mp (by rw [List.zip_cons_cons] at hp; exact hp) with e | e
    ·rw [e]
    ·exact ih p e
  have pl:(arrOf st').toList.Perm ((ts.map Value.ref).zip (ts.map Value.ref)):=by
   have:=p1.toList
   rw [pairsOf_toList] at this
   exact this
  have same:∀ p∈(arrOf st').toList,p.1=p.2:=fun p hp=>zz _ p (pl.mem_iff.mp hp)
  have pv:((arrOf st').map (·.2)).toList.Perm (ts.map Value.ref):=by
   rw [Array.toList_map]
   have:=pl.map (fun p:Keyed=>p.2)
   rw [pz] at this
   exact this
  obtain ⟨ts',e',pt⟩:=perm_refs pv
  have hm':∀ t∈ts',T3 H t (rowAt H t):=fun t ht=>hm t (pt.mem_iff.mp ht)
  obtain ⟨ep,he'⟩:=PyProof.Rows.sortedAll_at s.heap (ts.map Value.ref) ((arrOf st').map (·.2))
  have hlen:(ts'.map V.ref).length≤sizeLine:=by rw [List.length_map,pt.length_eq]; exact hz
  refine ⟨.ref _,upd H (s.heap.objs.size+1) (.lst (ts'.map V.ref)),I.laid (t':=s.toks) (fun _ _=>PyProof.Rows.sortedAll_old) (Nat.le_succ _) ⟨hlen,ts'.map Value.ref,ep,refs_vals ts',by rw [←e']; exact he'⟩,rfl,
   q ts' (ts'.map (rowAt H)) _ (paired_map hm') ?_ ?_ (I.hok.fresh (Nat.le_succ _))⟩
  ·rw [rows_of hp]
   exact pt.map _
  ·rw [List.pairwise_map,List.pairwise_iff_getElem]
   intro i j hi hj hij
   have sz:(pairsOf (ts.map Value.ref)).size=ts.length:=by rw [pairsOf_size,List.length_map]
   have szA:(arrOf st').size=ts.length:=by rw [p1.size_eq,sz]
   have lt':ts'.length=ts.length:=pt.length_eq
   have kk:∀ m (hm2:m < ts'.length),KK (G.tupKindC s.heap shp) (arrOf st') m=key3 (rowAt H ts'[m]):=fun m hm2=>by
    have hA:m < (arrOf st').size:=by omega
    have e1:(arrOf st')[m]?=some (arrOf st')[m]:=Array.getElem?_eq_getElem hA
    have e2:((arrOf st').map (·.2)).toList[m]?=some (arrOf st')[m].2:=by rw [Array.getElem?_toList,Array.getElem?_map,e1]; rfl
    rw [e',List.getElem?_map,List.getElem?_eq_getElem hm2] at e2
    have e3:(arrOf st')[m].2=Value.ref ts'[m]:=(Option.some.inj e2).symm
    have e4:(arrOf st')[m].1=Value.ref ts'[m]:=by rw [same _ (by simp [Array.getElem_mem]),e3]
    unfold KK
    rw [e1]
    dsimp only
    rw [e4,(tup3 I (hm' _ (List.getElem_mem hm2))).1]
    rfl
   have:=p2 i j (Nat.le_of_lt hij) (by rw [sz]; omega)
   rw [kk i hi,kk j hj] at this
   exact key_lt this
end
end Cw
namespace Cw
open PySem PySem.Spec PyProof.Rows L2
def TI2(K:PySem.W.Frag)(H:Hp)(t:Addr)(r:List Int):Prop:=SqT K H t (r.map V.int)
def tMinD(K:PySem.W.Frag)(te td:TE):TE:=fun σ H Q=>te σ H fun x H1=>td σ H1 fun y H2=>∃ (a:Addr) (ts:List Addr) (rs:List (List Int)),x=.ref a∧SqL K H2 a (ts.map V.ref)∧Paired (TI2 K H2) ts rs ∧
 (∀ (i:Nat) (r r0:List Int),0 < i->rs[i]?=some r->rs[0]?=some r0->HT.lexLt r r0=false)∧Q ((ts.head?.map V.ref).getD y) H2
section
variable {X:Cx} {e d:Expr} {te td:TE} {p pos kp:Pos}
theorem pe_minD(hc:X.calm=true)(hu:X.A.units+2 < cLine)(hg:Gl X "min")(hm:X.mg "min"=none)(he:PE X e te)(hd:PE X d td)(hs:starEach [e] X.env=[(false,eval e X.env)]:=by rfl) :
  PE X (.Call (.Name "min" p) [e] [⟨some "default",d,kp⟩] pos) (tMinD X.K te td):=by
 intro pins s σ H Q I h
 refine wpAny_Call_Name_kw (ld_blt I hg hm PyProof.Rows.boot_min ?_)
 have P1:PA X [e] (tCons te tNil):=pa_cons he pa_nil hs
 refine callWith_kw ?_ (by rw [hs]; rfl) (by rw [hs]; rfl)
 refine thn (P1 pos pins s σ H (fun xs H1=>match xs with
  | [x]=>td σ H1 fun y H2=>∃ (a:Addr) (ts:List Addr) (rs:List (List Int)),x=.ref a∧SqL X.K H2 a (ts.map V.ref)∧Paired (TI2 X.K H2) ts rs ∧
  (∀ (i:Nat) (r r0:List Int),0 < i->rs[i]?=some r->rs[0]?=some r0->HT.lexLt r r0=false)∧Q ((ts.head?.map V.ref).getD y) H2
  | _=>False) I h) fun us s1 ⟨xs,H1,I1,r1,q1⟩=>?_
 ·obtain ⟨x,rfl⟩:∃ x,xs=[x]:=by
   match xs,q1 with
   | [x],_=>exact ⟨x,rfl⟩
  obtain ⟨u,rfl,ru⟩:=r1.one
  refine kws_cons (thn (hd pins s1 σ H1 _ I1 q1) fun dv s2 ⟨y,H2,I2,r2,q2⟩=>kws_nil ?_)
  obtain ⟨a,ts,rs,rfl,hl,hp,hlt,q⟩:=q2
  cases ru
  obtain ⟨its,rv,pl,hz⟩:=I2.list hl
  have ei:=vals_refs rv
  subst ei
  show wpAny _ _ (call (.builtin "min") [.ref a] (CwM.kwD dv)) _ _ s2
  have get:∀ (i:Nat) (v:Value),(ts.map Value.ref).toArray[i]?=some v->∃ t r,ts[i]?=some t∧v=.ref t∧rs[i]?=some r∧TI2 X.K H2 t r:=fun i v hv=>by
   rw [List.getElem?_toArray,List.getElem?_map] at hv
   cases et:ts[i]? with
   | none=>rw [et] at hv; cases hv
   | some t =>
    rw [et] at hv
    have:∀ {ts:List Addr} {rs:List (List Int)} {i:Nat},Paired (TI2 X.K H2) ts rs->ts[i]?=some t->∃ r,rs[i]?=some r∧TI2 X.K H2 t r:=by
     intro ts rs i h
     induction h generalizing i with
     | nil=>intro e; simp at e
     | cons h1 _ ih =>
      intro e
      cases i with
      | zero=>simp at e; subst e; exact ⟨_,rfl,h1⟩
      | succ i=>simpa using ih (i:=i) (by simpa using e)
    obtain ⟨r,hr,hT⟩:=this hp et
    exact ⟨t,r,rfl,(Option.some.inj hv).symm,hr,hT⟩
  refine CwM.min_first (A:=X.A) (s:=s2) (I2.ok.hd hc) pl.isList (fun h=>∀ t∈ts,∀ its,IsTup s2.heap t its->IsTup h t its) (fun h h' k kp t ht its hit=>?_) (fun t ht its hit=>hit) ?_ fun h' tk kp=>?_
  ·obtain ⟨o,ho,r⟩:=k t ht its hit
   obtain ⟨o2,ho2,_⟩:=hit
   exact ⟨o,kp t o (Heap.lt_size ho2) ho,r⟩
  ·intro i v v0 s' Q' E' hi hv hv0 hk fin
   obtain ⟨t,r,et,rfl,er,hT⟩:=get i v hv
   obtain ⟨t0,r0,et0,rfl,er0,hT0⟩:=get 0 v0 hv0
   obtain ⟨i1,w1,p1,_⟩:=I2.tuple hT
   obtain ⟨i2,w2,p2,_⟩:=I2.tuple hT0
   have q1:=hk t (List.mem_of_getElem? et) _ p1
   have q2:=hk t0 (List.mem_of_getElem? et0) _ p2
   refine HT.lt_tupInts (A:=X.A.in1) q1 q2 (intsAre_of w1) (intsAre_of w2) (by show X.A.units+1 < cLine; omega) ?_
   rw [hlt i r r0 hi er er0]
   exact fin s'.toks (Nat.le_refl _)
  ·refine ⟨(ts.head?.map V.ref).getD y,H2,I2.kept (t':=tk) kp,?_,q⟩
   cases ts with
   | nil=>exact r2
   | cons t ts=>rfl
end
end Cw
namespace Cw
open PySem PySem.Spec PyProof.Rows L2
def KInts(K:PySem.W.Frag)(d:Addr)(kvs:List (Int×Int)):Prop:=∃ (o:Obj) (es:Array DictEntry) (ep:Nat),K.lookup d=some o∧o.ExactDict∧o.data=.dict es ep ∧
 (∀ (P:Program) (w:World),PySem.KeysOf (PySem.intKind P w) es∧∃ vs:List (Int×Value),Pairs (PySem.intKind P w) es.toList vs∧(vs.map (·.1)).Nodup∧∀ k v,(k,v)∈kvs->∃ t,valueAt vs k=some (.int v t))
def tKGet(K:PySem.W.Frag)(td ty:TE):TE:=fun σ H Q=>td σ H fun x H1=>ty σ H1 fun y H2=>∃ (a:Addr) (kvs:List (Int×Int)) (k v:Int),x=.ref a∧KInts K a kvs∧y=.int k∧(k,v)∈kvs∧Q (.int v) H2
section
variable {X:Cx} {o i:Expr} {pos:Pos} {td ty:TE}
theorem pe_kget(ho:PE X o td)(hi:PE X i ty)(hs:NoSl i):PE X (.Subscript o i pos) (tKGet X.K td ty):=by
 intro pins s σ H Q I h
 refine subD_of PySem.F.slot_dict_getitem.lookup hs (thn (ho pins s σ H _ I h) fun u s1 ⟨x,H1,I1,rx,q1⟩=>thn (hi pins s1 σ H1 _ I1 q1) fun iv s2 ⟨y,H2,I2,ry,a,kvs,k,v,ex,g,ey,hm,q2⟩=>?_)
 subst ex ey
 obtain rfl:u=Value.ref a:=rx
 obtain ⟨t0,rfl⟩:=ry
 obtain ⟨ob,es,ep,hk,hex,hd,g⟩:=g
 obtain ⟨g1,vs,g2,g3,g4⟩:=g X.prog X.w
 have dd:s2.heap.DictOf (PySem.intKind X.prog X.w) a vs:=⟨ob,es,ep,I2.kIn a ob hk,hex,hd,g1,g2,g3⟩
 obtain ⟨t,hv⟩:=g4 k v hm
 exact ⟨dd.typeIs,wpAny_getItem_of (intKind_is _ _ _ _) dd.mapOf hv ⟨.int v,H2,I2.tok _,⟨t,rfl⟩,q2⟩⟩
end
end Cw
namespace Cw
open PySem PySem.Spec PyProof.Rows L2
def top(i:Nat):Stmt:=PySem.Challenge.pw_contactways_s01_answers.main.body.getD i (.Pass ⟨0,0,0,0⟩)
abbrev sContactI:Stmt:=inClass (top 5) 0
abbrev sSchemeI:Stmt:=inClass (top 6) 0
abbrev sIsState:Stmt:=top 7
abbrev sIsNode:Stmt:=top 8
abbrev sOffIn:Stmt:=top 10
abbrev sLets:Stmt:=top 11
abbrev sLinks:Stmt:=top 12
abbrev sDist:Stmt:=top 13
abbrev sLive:Stmt:=top 14
abbrev sAmong:Stmt:=top 15
abbrev sFirstN:Stmt:=top 16
abbrev sWayTold:Stmt:=top 17
abbrev sBorderOf:Stmt:=top 18
abbrev sClash:Stmt:=top 20
abbrev sSuff:Stmt:=top 21
abbrev sCondsOn:Stmt:=top 22
abbrev sLeftOut:Stmt:=top 23
abbrev sLeast:Stmt:=top 24
abbrev sSums:Stmt:=top 25
abbrev sStates:Stmt:=top 27
abbrev sLiveTab:Stmt:=top 28
abbrev sFirstA:Stmt:=top 29
abbrev sMatters:Stmt:=top 30
abbrev sVarsM:Stmt:=top 31
structure TxA(K:PySem.W.Frag)(mg:Str->Option Value)(CC CS:Addr):Prop where
 cc:Cls K CC
 nLow:NoAttr K CC "low"
 nHigh:NoAttr K CC "high"
 nClo:NoAttr K CC "closer"
 nVar:NoAttr K CC "variable"
 mgC:mg "Contact"=some (.ref CC)
 cs:Cls K CS
 nBits:NoAttr K CS "bits"
 nCon:NoAttr K CS "contacts"
 nUsed:NoAttr K CS "used"
 nLc:NoAttr K CS "least_conditions"
 nLt:NoAttr K CS "live_table"
 mgS:mg "Scheme"=some (.ref CS)
 rail:∃ t,mg "RAIL"=some (.int 0 t)
 nodes:∃ t,mg "NODES"=some (.int 64 t)
 great:∃ t,mg "GREATEST_STATE"=some (.int 4294967295 t)
 range:mg "range"=none
 enum:mg "enumerate"=none
 len:mg "len"=none
 set:mg "set"=none
 sorted:mg "sorted"=none
 sum:mg "sum"=none
theorem pe_gI{X:Cx}{x:Str}{i:Int}{pos:Pos}(hg:Gl X x)(hm:∃ t,X.mg x=some (.int i t))(hd:(x==("__debug__":Str))=false:=by decide):PE X (.Name x pos) (tC (.int i)):=by
 obtain ⟨t,hm⟩:=hm
 exact pe_glob hg hm ⟨t,rfl⟩ hd
def ctF(c:Rung.Contact):List (Str×V):=[("low",.int c.a),("high",.int c.b),("closer",.bl c.closer),("variable",.int c.var)]
theorem ct_low(c:Rung.Contact):(ctF c).lookup ("low":Str)=some (.int c.a):=rfl
theorem ct_high(c:Rung.Contact):(ctF c).lookup ("high":Str)=some (.int c.b):=rfl
theorem ct_clo(c:Rung.Contact):(ctF c).lookup ("closer":Str)=some (.bl c.closer):=rfl
theorem ct_var(c:Rung.Contact):(ctF c).lookup ("variable":Str)=some (.int c.var):=rfl
def ConAt(CC:Addr)(H:Hp)(a:Addr)(c:Rung.Contact):Prop:=∃ dx,H a=some (.ins CC dx (ctF c))
section
variable {P:Program} {w:World} {K:PySem.W.Frag} {mg:Str->Option Value} {base:Heap} {CC CS:Addr}
def spContactI(CC:Addr):Sp:=fun vs H Q _=>∃ (p dx:Addr) (c:Rung.Contact),vs=[.ref p,.int c.a,.int c.b,.bl c.closer,.int c.var]∧H p=some (.ins CC dx [])∧∀ H':Hp,ConAt CC H' p c->(∀ b o,H b=some o->b≠p->H' b=some o)->Q .non H'
theorem scContactI:FnScope ["self","low","high","closer","variable"] ["self","low","high","closer","variable"] (defScope sContactI):=⟨rfl,rfl,rfl,by decide +kernel,rfl,by decide +kernel,by decide +kernel⟩
theorem ok_contactI{f:Addr}{fd:FuncData}(F:Fun K "__init__" "Contact.__init__" sContactI f fd)(T:TxA K mg CC CS):FnOk P w K mg base CX0 1 f fd ["self","low","high","closer","variable"] (spContactI CC):=by
 refine F.ok scContactI (fun vs H Q E h=>?_) (fun cdv A outer s H vs Q E hr h=>?_)
 ·obtain ⟨p,dx,c,rfl,_⟩:=h
  rfl
 ·obtain ⟨p,dx,c,rfl,hp,k⟩:=h
  refine ⟨_,pss_cons (ps_fld (pv 0) (pv 1) rfl) (pss_cons (ps_fld (pv 0) (pv 2) rfl) (pss_cons (ps_fld (pv 0) (pv 3) rfl) (pss_one (ps_fld (pv 0) (pv 4) rfl)))),?_⟩
  refine ⟨_,rfl,_,rfl,p,CC,dx,[],rfl,hp,T.cc,T.nLow,(by show 0 < 1000; decide),?_⟩
  refine ⟨_,rfl,_,rfl,p,CC,dx,_,rfl,upd_same,T.cc,T.nHigh,(by show 1 < 1000; decide),?_⟩
  refine ⟨_,rfl,_,rfl,p,CC,dx,_,rfl,upd_same,T.cc,T.nClo,(by show 2 < 1000; decide),?_⟩
  refine ⟨_,rfl,_,rfl,p,CC,dx,_,rfl,upd_same,T.cc,T.nVar,(by show 3 < 1000; decide),?_⟩
  exact k _ ⟨dx,upd_same⟩ fun b o e hb=>by rw [upd_ne hb,upd_ne hb,upd_ne hb,upd_ne hb]; exact e
def scF(b:Int)(l u:Addr)(lc lt:V):List (Str×V):=[("bits",.int b),("contacts",.ref l),("used",.ref u),("least_conditions",lc),("live_table",lt)]
theorem sc_bits(b:Int)(l u:Addr)(lc lt:V):(scF b l u lc lt).lookup ("bits":Str)=some (V.int b):=rfl
theorem sc_con(b:Int)(l u:Addr)(lc lt:V):(scF b l u lc lt).lookup ("contacts":Str)=some (V.ref l):=rfl
theorem sc_used(b:Int)(l u:Addr)(lc lt:V):(scF b l u lc lt).lookup ("used":Str)=some (V.ref u):=rfl
theorem sc_lc(b:Int)(l u:Addr)(lc lt:V):(scF b l u lc lt).lookup ("least_conditions":Str)=some lc:=rfl
theorem sc_lt(b:Int)(l u:Addr)(lc lt:V):(scF b l u lc lt).lookup ("live_table":Str)=some lt:=rfl
def ScAt(CS:Addr)(H:Hp)(a:Addr)(bits:Int)(l u:Addr)(lc lt:V):Prop:=∃ dx,H a=some (.ins CS dx (scF bits l u lc lt))
def spIsState:Sp:=fun vs H Q _=>∃ n:Int,vs=[.int n]∧Q (.bl (decide (0≤n)&&decide (n≤4294967295))) H
theorem scIsState:FnScope ["number"] ["number"] (defScope sIsState):=⟨rfl,rfl,rfl,by decide +kernel,rfl,by decide +kernel,by decide +kernel⟩
theorem ok_isState{f:Addr}{fd:FuncData}(F:Fun K "is_state" "is_state" sIsState f fd)(T:TxA K mg CC CS):FnOk P w K mg base CX0 1 f fd ["number"] spIsState:=by
 refine F.ok scIsState (fun vs H Q E h=>?_) (fun cdv A outer s H vs Q E hr h=>?_)
 ·obtain ⟨n,rfl,_⟩:=h
  rfl
 ·obtain ⟨n,rfl,k⟩:=h
  refine ⟨_,pss_one (ps_ret (pe_chain op_le op_le pe_int (pv 0) (pe_gI rfl T.great) )),?_⟩
  refine ⟨_,rfl,_,_,rfl,rfl,_,rfl,?_⟩
  by_cases h:0≤n
  ·rw [decide_eq_true h] at k ⊢
   rw [if_pos rfl]
   exact ⟨_,_,rfl,rfl,k⟩
  ·rw [decide_eq_false h] at k ⊢
   rw [if_neg (by simp)]
   exact k
end
end Cw
namespace Cw
open PySem PySem.Spec PyProof.Rows L2
theorem Same.new{H:Hp}{a:Addr}{o:HO}(h:H a=none):Same H (upd H a o):=fun b u e=>by rw [upd_ne (ne_of_none e h)]; exact e
theorem Same.put{H H':Hp}{a:Addr}{o:HO}(s:Same H H')(h:H a=none):Same H (upd H' a o):=fun b u e=>by rw [upd_ne (ne_of_none e h)]; exact s b u e
theorem for_enum{K:PySem.W.Frag}{a:Addr}{xs:List V}{p q:Nat}{tb:TS}{D:Ends}{σ:L2.St}{H:Hp}(Pv:Nat->L2.St->Hp->Prop)(h0:Pv 0 σ H)(hl:∀ i σ H,i≤xs.length->Pv i σ H->SqL K H a xs)
  (hs:∀ i x σ H T,xs[i]?=some x->Pv i σ H->H T=none->tb { D with nx:=Pv (i+1),ct:=Pv (i+1),bk:=D.nx } ((σ.set p (some (.int i))).set q (some x)) (upd H T (.tup [.int i,x]))) (hd:∀ σ H,Pv xs.length σ H->D.nx σ H) :
  ∃ W:Nat->Nat->L2.St->Hp->Prop,(∃ m,W 0 m σ H)∧∀ i m σ H,W i m σ H ->
   ((Ite K a).stop i H∧D.nx σ H)∨((Ite K a).go i H∧∃ N:L2.St->Hp->Prop,(∀ σ' H',N σ' H'->∃ m',m' < m∧W (i+1) m' σ' H')∧∀ x H',(Ite K a).yld i H x H'->(gTup K 2 (gCons (gName p) (gCons (gName q) gNil))) x σ H' fun σ2 H2=>tb { D with nx:=N,ct:=N,bk:=D.nx } σ2 H2):=by
 refine ⟨fun i m σ H=>m=xs.length - i∧i≤xs.length∧Pv i σ H,⟨xs.length,by simp,Nat.zero_le _,h0⟩,?_⟩
 rintro i m σ H ⟨rfl,hi,pp⟩
 have hq:=hl i σ H hi pp
 by_cases hlt:i < xs.length
 ·refine .inr ⟨⟨xs,xs[i],hq,by simp [hlt]⟩,Pv (i+1),fun σ' H' p'=>⟨xs.length - (i+1),by omega,rfl,hlt,p'⟩,fun v H' y=>?_⟩
  obtain ⟨T,x,rfl,hT,rfl,y⟩:=y
  exact ⟨T,_,rfl,SqT.of upd_same,rfl,_,_,rfl,_,_,rfl,rfl,hs i x σ H T (y xs hq) pp hT⟩
 ·have e:i=xs.length:=by omega
  subst e
  exact .inl ⟨⟨xs,hq,Nat.le_refl _⟩,hd σ H pp⟩
theorem for_pairs{K:PySem.W.Frag}{a:Addr}{xs:List Addr}{p q:Nat}{tb:TS}{D:Ends}{σ:L2.St}{H:Hp}(Pv:Nat->L2.St->Hp->Prop)(h0:Pv 0 σ H)(hl:∀ i σ H,i≤xs.length->Pv i σ H->SqL K H a (xs.map V.ref))
  (hs:∀ i t σ H,xs[i]?=some t->Pv i σ H->∃ x y,SqT K H t [x,y]∧tb { D with nx:=Pv (i+1),ct:=Pv (i+1),bk:=D.nx } ((σ.set p (some x)).set q (some y)) H) (hd:∀ σ H,Pv xs.length σ H->D.nx σ H) :
  ∃ W:Nat->Nat->L2.St->Hp->Prop,(∃ m,W 0 m σ H)∧∀ i m σ H,W i m σ H ->
   ((Itl K a).stop i H∧D.nx σ H)∨((Itl K a).go i H∧∃ N:L2.St->Hp->Prop,(∀ σ' H',N σ' H'->∃ m',m' < m∧W (i+1) m' σ' H')∧∀ x H',(Itl K a).yld i H x H'->(gTup K 2 (gCons (gName p) (gCons (gName q) gNil))) x σ H' fun σ2 H2=>tb { D with nx:=N,ct:=N,bk:=D.nx } σ2 H2):=by
 refine for_list (xs:=xs.map V.ref) Pv h0 (fun i σ H hi=>hl i σ H (by simpa using hi)) (fun i v σ H hv pp=>?_) (fun σ H pp=>hd σ H (by simpa using pp))
 rw [List.getElem?_map] at hv
 cases e:xs[i]? with
 | none=>rw [e] at hv; cases hv
 | some t =>
  rw [e] at hv
  cases hv
  obtain ⟨x,y,h1,h2⟩:=hs i t σ H e pp
  exact ⟨t,_,rfl,h1,rfl,_,_,rfl,_,_,rfl,rfl,h2⟩
section
variable {P:Program} {w:World} {K:PySem.W.Frag} {mg:Str->Option Value} {base:Heap} {CC CS:Addr}
def spIsNode:Sp:=fun vs H Q _=>∃ n:Int,vs=[.int n]∧Q (.bl (decide (0≤n)&&decide (n < 64))) H
theorem scIsNode:FnScope ["number"] ["number"] (defScope sIsNode):=⟨rfl,rfl,rfl,by decide +kernel,rfl,by decide +kernel,by decide +kernel⟩
theorem ok_isNode{f:Addr}{fd:FuncData}(F:Fun K "is_node" "is_node" sIsNode f fd)(T:TxA K mg CC CS):FnOk P w K mg base CX0 1 f fd ["number"] spIsNode:=by
 refine F.ok scIsNode (fun vs H Q E h=>?_) (fun cdv A outer s H vs Q E hr h=>?_)
 ·obtain ⟨n,rfl,_⟩:=h
  rfl
 ·obtain ⟨n,rfl,k⟩:=h
  refine ⟨_,pss_one (ps_ret (pe_chain op_le op_lt pe_int (pv 0) (pe_gI rfl T.nodes))),?_⟩
  refine ⟨_,rfl,_,_,rfl,rfl,_,rfl,?_⟩
  by_cases h:0≤n
  ·rw [decide_eq_true h] at k ⊢
   rw [if_pos rfl]
   exact ⟨_,_,rfl,rfl,k⟩
  ·rw [decide_eq_false h] at k ⊢
   rw [if_neg (by simp)]
   exact k
def spOffIn:Sp:=fun vs H Q _=>∃ n:Int,vs=[.int n]∧Q (.int (4294967295 - n)) H
theorem scOffIn:FnScope ["state"] ["state"] (defScope sOffIn):=⟨rfl,rfl,rfl,by decide +kernel,rfl,by decide +kernel,by decide +kernel⟩
theorem ok_offIn{f:Addr}{fd:FuncData}(F:Fun K "off_in" "off_in" sOffIn f fd)(T:TxA K mg CC CS):FnOk P w K mg base CX0 1 f fd ["state"] spOffIn:=by
 refine F.ok scOffIn (fun vs H Q E h=>?_) (fun cdv A outer s H vs Q E hr h=>?_)
 ·obtain ⟨n,rfl,_⟩:=h
  rfl
 ·obtain ⟨n,rfl,k⟩:=h
  refine ⟨_,pss_one (ps_ret (pe_op op_sub (pe_gI rfl T.great) (pv 0))),?_⟩
  exact ⟨_,rfl,_,_,rfl,rfl,k⟩
theorem bit_int(x v:Nat):decide (V.int ((x:Int) / 2 ^ v % 2)=V.int 1)=x.testBit v:=by
 have e:((x:Int) / 2 ^ v % 2)=((x / 2 ^ v % 2:Nat):Int):=by
  have:(2:Int) ^ v=((2 ^ v:Nat):Int):=by simp
  rw [this]
  omega
 rw [e,Nat.testBit_eq_decide_div_mod_eq]
 by_cases h:x / 2 ^ v % 2=1
 ·rw [h]; rfl
 ·rw [decide_eq_false h,decide_eq_false]
  intro z
  injection z with z
  omega
def spLets(CC:Addr):Sp:=fun vs H Q _=>∃ (a:Addr) (c:Rung.Contact) (on off:Nat),vs=[.ref a,.int on,.int off]∧ConAt CC H a c∧Q (.bl (c.by_ ⟨on,off⟩)) H
theorem scLets:FnScope ["contact","on","off","working"] ["contact","on","off"] (defScope sLets):=⟨rfl,rfl,rfl,by decide +kernel,rfl,by decide +kernel,by decide +kernel⟩
theorem ok_lets{f:Addr}{fd:FuncData}(F:Fun K "lets_through" "lets_through" sLets f fd)(T:TxA K mg CC CS):FnOk P w K mg base CX0 1 f fd ["contact","on","off"] (spLets CC):=by
 refine F.ok scLets (fun vs H Q E h=>?_) (fun cdv A outer s H vs Q E hr h=>?_)
 ·obtain ⟨a,c,on,off,rfl,_⟩:=h
  rfl
 ·obtain ⟨a,c,on,off,rfl,⟨dx,hc⟩,k⟩:=h
  refine ⟨_,pss_cons (ps_set (i:=3) scLets.nd rfl (Or.inl rfl) (pe_ifExp (pt_truth (pe_fld (pv 0) rfl) (fun _=>rfl)) (pv 1) (pv 2)))
   (pss_one (ps_ret (pe_cmpR op_eq (pe_op op_mod (pe_op op_shr (pv 3) (pe_fld (pv 0) rfl)) pe_int) pe_int (nomark _)))),?_⟩
  refine ⟨_,rfl,a,CC,dx,_,_,rfl,hc,T.cc,T.nClo,ct_clo c,_,rfl,?_⟩
  unfold Rung.Contact.by_ at k
  cases e:c.closer with
  | true =>
   rw [e,if_pos rfl] at k
   rw [if_pos rfl]
   refine ⟨_,rfl,_,rfl,_,rfl,a,CC,dx,_,_,rfl,hc,T.cc,T.nVar,ct_var c,_,_,rfl,rfl,Int.natCast_nonneg _,_,_,rfl,rfl,(by show (0:Int) < 2; decide),rfl,?_⟩
   rw [Int.toNat_natCast,bit_int]
   exact k
  | false =>
   rw [e,if_neg (by simp)] at k
   rw [if_neg (by simp)]
   refine ⟨_,rfl,_,rfl,_,rfl,a,CC,dx,_,_,rfl,hc,T.cc,T.nVar,ct_var c,_,_,rfl,rfl,Int.natCast_nonneg _,_,_,rfl,rfl,(by show (0:Int) < 2; decide),rfl,?_⟩
   rw [Int.toNat_natCast,bit_int]
   exact k
end
end Cw
namespace Cw
open PySem PySem.Spec PyProof.Rows L2 CwG
theorem Pd.snoc{α β:Type}{F:α->β->Prop}:∀ {l₁:List α} {l₂:List β} {a:α} {b:β},Paired F l₁ l₂->F a b->Paired F (l₁++[a]) (l₂++[b])
 | _,_,_,_,.nil,h=>.cons h .nil
 | _,_,_,_,.cons r t,h=>.cons r (Pd.snoc t h)
theorem Pd.get{α β:Type}{F:α->β->Prop}:∀ {l₁:List α} {l₂:List β} {i:Nat} {a:α},Paired F l₁ l₂->l₁[i]?=some a->∃ b,l₂[i]?=some b∧F a b
 | _,_,_,_,.nil,e=>by simp at e
 | _,_,0,_,.cons r _,e=>by simp at e; subst e; exact ⟨_,rfl,r⟩
 | _,_,i+1,a,.cons _ t,e=>by
  obtain ⟨u,h1,h2⟩:=Pd.get (i:=i) (a:=a) t (by simpa using e)
  exact ⟨u,by simpa using h1,h2⟩
theorem Pd.get'{α β:Type}{F:α->β->Prop}:∀ {l₁:List α} {l₂:List β} {i:Nat} {b:β},Paired F l₁ l₂->l₂[i]?=some b->∃ a,l₁[i]?=some a∧F a b
 | _,_,_,_,.nil,e=>by simp at e
 | _,_,0,_,.cons r _,e=>by simp at e; subst e; exact ⟨_,rfl,r⟩
 | _,_,i+1,a,.cons _ t,e=>by
  obtain ⟨u,h1,h2⟩:=Pd.get' (i:=i) (b:=a) t (by simpa using e)
  exact ⟨u,by simpa using h1,h2⟩
theorem Pd.imp{α β:Type}{F G:α->β->Prop}(f:∀ a b,F a b->G a b):∀ {l₁:List α} {l₂:List β},Paired F l₁ l₂->Paired G l₁ l₂
 | _,_,.nil=>.nil
 | _,_,.cons r t=>.cons (f _ _ r) (Pd.imp f t)
theorem Pd.len{α β:Type}{F:α->β->Prop}:∀ {l₁:List α} {l₂:List β},Paired F l₁ l₂->l₁.length=l₂.length
 | _,_,.nil=>rfl
 | _,_,.cons _ t=>by simp [Pd.len t]
theorem map_get{α β:Type}{f:α->β}{l:List α}{i:Nat}{y:β}(h:(l.map f)[i]?=some y):∃ x,l[i]?=some x∧y=f x:=by
 rw [List.getElem?_map] at h
 cases e:l[i]? with
 | none=>rw [e] at h; cases h
 | some x=>rw [e] at h; exact ⟨x,rfl,(Option.some.inj h).symm⟩
theorem atR{as:List Addr}{u:Nat}{b:Addr}(h:as[u]?=some b):atI (as.map V.ref) (u:Int)=some (V.ref b):=atI_nat (by rw [List.getElem?_map,h]; rfl)
def ConsAt(CC:Addr)(H:Hp)(l:Addr)(cs:List Rung.Contact):Prop:=∃ as:List Addr,H l=some (.lst (as.map V.ref))∧Paired (ConAt CC H) as cs
theorem ConAt.same{CC:Addr}{H H':Hp}(s:Same H H'){a:Addr}{c:Rung.Contact}(h:ConAt CC H a c):ConAt CC H' a c:=let ⟨dx,e⟩:=h; ⟨dx,s _ _ e⟩
theorem ConsAt.same{CC:Addr}{H H':Hp}(s:Same H H'){l:Addr}{cs:List Rung.Contact}(h:ConsAt CC H l cs):ConsAt CC H' l cs:=let ⟨as,e,r⟩:=h; ⟨as,s _ _ e,Pd.imp (fun _ _=>ConAt.same s) r⟩
def TpA(H:Hp)(t:Addr)(x:Nat×Nat):Prop:=H t=some (.tup [.int x.1,.int x.2])
structure LI(H:Hp)(as:List Addr)(L:Nat->List (Nat×Nat)):Prop where
 len:as.length=64
 nd:as.Nodup
 at_:∀ u a,as[u]?=some a->∃ ts:List Addr,H a=some (.lst (ts.map V.ref))∧Paired (TpA H) ts (L u)
def LinksAt(H:Hp)(r:Addr)(L:Nat->List (Nat×Nat)):Prop:=∃ as,H r=some (.lst (as.map V.ref))∧LI H as L
theorem LI.same{H H':Hp}{as:List Addr}{L:Nat->List (Nat×Nat)}(s:Same H H')(h:LI H as L):LI H' as L :=
 ⟨h.len,h.nd,fun u a e=>let ⟨ts,h1,h2⟩:=h.at_ u a e; ⟨ts,s _ _ h1,Pd.imp (fun _ _ z=>s _ _ z) h2⟩⟩
theorem LinksAt.same{H H':Hp}{r:Addr}{L:Nat->List (Nat×Nat)}(s:Same H H')(h:LinksAt H r L):LinksAt H' r L:=let ⟨as,e,z⟩:=h; ⟨as,s _ _ e,z.same s⟩
def pushL(L:Nat->List (Nat×Nat))(u:Nat)(x:Nat×Nat):Nat->List (Nat×Nat):=fun w=>if w=u then L w++[x] else L w
theorem LI.push{H:Hp}{as ts:List Addr}{L:Nat->List (Nat×Nat)}{u:Nat}{a t:Addr}{x:Nat×Nat}(h:LI H as L)(ha:as[u]?=some a)(hts:H a=some (.lst (ts.map V.ref)))(hr:Paired (TpA H) ts (L u))(ht:TpA H t x) :
  LI (upd H a (.lst (ts.map V.ref++[.ref t]))) as (pushL L u x):=by
 have keep:∀ t x,TpA H t x->TpA (upd H a (.lst (ts.map V.ref++[.ref t]))) t x:=fun t x e=>by
  unfold TpA at e ⊢
  rw [upd_ne (ne_of e hts (by intro z; cases z))]
  exact e
 have keep':∀ t' x',TpA H t' x'->TpA (upd H a (.lst (ts.map V.ref++[.ref t]))) t' x':=fun t' x' e=>by
  unfold TpA at e ⊢
  rw [upd_ne (ne_of e hts (by intro z; cases z))]
  exact e
 refine ⟨h.len,h.nd,fun v b hb=>?_⟩
 by_cases e:v=u
 ·subst e
  rw [ha] at hb
  cases hb
  refine ⟨ts++[t],by rw [upd_same,List.map_append]; rfl,?_⟩
  unfold pushL
  rw [if_pos rfl]
  exact Pd.snoc (Pd.imp keep' hr) (keep' _ _ ht)
 ·obtain ⟨ts',h1,h2⟩:=h.at_ v b hb
  have nb:b≠a:=fun q=>e (nd_ix h.nd hb (by rw [q]; exact ha))
  refine ⟨ts',by rw [upd_ne nb]; exact h1,?_⟩
  unfold pushL
  rw [if_neg e]
  exact Pd.imp keep' h2
theorem lnk_step{cs:List Rung.Contact}{p:Rung.Contact->Bool}{i:Nat}{c:Rung.Contact}(ok:Okc cs)(h:cs[i]?=some c):lnk (cs.take (i+1)) p=if p c=true then pushL (pushL (lnk (cs.take i) p) c.a (i,c.b)) c.b (i,c.a) else lnk (cs.take i) p:=by
 have hc:=ok c (List.mem_of_getElem? h)
 have hl:(cs.take i).length=i:=by
  have:=(List.getElem?_eq_some_iff.mp h).1
  rw [List.length_take]
  omega
 funext u
 rw [CwG.take_snoc h,lnk_snoc,hl]
 unfold lnk1
 by_cases hp:p c=true
 ·simp only [hp,if_true]
  unfold pushL
  by_cases e1:c.a=u
  ·have e2:¬ u=c.b:=by omega
   simp only [if_pos e1,if_neg e2,if_pos e1.symm]
   rfl
  ·by_cases e2:c.b=u
   ·have e3:¬ c.b=c.a:=by omega
    simp only [if_neg e1,if_pos e2,if_pos e2.symm]
    rw [if_neg (by omega)]
    rfl
   ·have e3:¬ u=c.a:=by omega
    have e4:¬ u=c.b:=by omega
    simp only [if_neg e1,if_neg e2,if_neg e3,if_neg e4]
    simp
 ·simp only [hp]
  simp
theorem lnk_len(cs:List Rung.Contact)(p:Rung.Contact->Bool)(u:Nat):(lnk cs p u).length≤cs.length:=by
 have:=List.length_filterMap_le (lnk1 p u) cs.zipIdx
 rw [List.length_zipIdx] at this
 exact this
theorem push_len(L:Nat->List (Nat×Nat))(u v:Nat)(x:Nat×Nat):(pushL L u x v).length≤(L v).length+1:=by
 unfold pushL
 split
 ·simp
 ·omega
section
variable {P:Program} {w:World} {K:PySem.W.Frag} {mg:Str->Option Value} {base:Heap} {CC CS:Addr}
def spLinks(CC:Addr):Sp:=fun vs H Q _=>∃ (l:Addr) (cs:List Rung.Contact) (on off:Nat),vs=[.ref l,.int on,.int off]∧ConsAt CC H l cs∧Okc cs∧cs.length≤256 ∧
 ∀ (H':Hp) (r:Addr),Same H H'->LinksAt H' r (lnk cs fun c=>c.by_ ⟨on,off⟩)->Q (.ref r) H'
theorem scLinks:FnScope ["contacts","on","off","links","number","contact","node"] ["contacts","on","off"] (defScope sLinks):=⟨rfl,rfl,rfl,by decide +kernel,rfl,by decide +kernel,by decide +kernel⟩
theorem ok_links{f fL:Addr}{fd fdL:FuncData}(F:Fun K "links_of" "links_of" sLinks f fd)(T:TxA K mg CC CS)(FL:Fun K "lets_through" "lets_through" sLets fL fdL)(bL:Binds K fdL ["contact","on","off"] [])(mL:mg "lets_through"=some (.ref fL)) :
  FnOk P w K mg base CX0 2 f fd ["contacts","on","off"] (spLinks CC):=by
 have GL:FnOk P w K mg base CX0 1 fL fdL ["contact","on","off"] (spLets CC):=ok_lets FL T
 refine F.ok scLinks (fun vs H Q E h=>?_) (fun cdv A outer s H vs Q E hr h=>?_)
 ·obtain ⟨l,cs,on,off,rfl,_⟩:=h
  rfl
 ·obtain ⟨l,cs,on,off,rfl,hcs,ok,hlen,k⟩:=h
  have hr1:Room 1 _:=hr.mono (by decide)
  refine ⟨_,pss_cons (ps_setLc (i:=3) (own:=[("node",6)]) rfl scLinks.nd rfl rfl (sw_true rfl rfl rfl (by decide +kernel)) (pi_range1 rfl T.range (pa_cons (pe_gI rfl T.nodes) pa_nil)) (by exact blkOk_by (N:=["contacts","on","off","links","number","contact","node"]) (sc:=defScope sLinks) (by decide +kernel))
    (fun _ _ _ _ _=>pg_name (i:=6) scLinks.nd rfl (Or.inl rfl)) (fun _ _ _ _ _=>pts_nil) (fun _ _ _ _ _=>pe_lst pa_nil))
   (pss_cons (ps_for PassesOwn.never rfl (pi_enum rfl T.enum (pa_cons (pv 0) pa_nil)) (pg_tup rfl (pgs_cons (pg_name (i:=4) scLinks.nd rfl (Or.inl rfl)) (pgs_cons (pg_name (i:=5) scLinks.nd rfl (Or.inl rfl)) pgs_nil)))
    (pss_one (ps_if (pt_truth (pe_call GL hr1 rfl mL FL.kp bL .nil pass0 (pa_cons (pv 5) (pa_cons (pv 1) (pa_cons (pv 2) pa_nil)))) (fun _=>rfl))
     (pss_cons (ps_expr (pe_bm PySem.F.plainAttrs_list PySem.F.slot_list_append PySem.F.type_list_append mt_append (pe_ix ix_list (pv 3) (pe_fld (pv 5) rfl) (fun _ _=>rfl)) (pa_cons (pe_tup (pa_cons (pv 4) (pa_cons (pe_fld (pv 5) rfl) pa_nil))) pa_nil)))
      (pss_one (ps_expr (pe_bm PySem.F.plainAttrs_list PySem.F.slot_list_append PySem.F.type_list_append mt_append (pe_ix ix_list (pv 3) (pe_fld (pv 5) rfl) (fun _ _=>rfl)) (pa_cons (pe_tup (pa_cons (pv 4) (pa_cons (pe_fld (pv 5) rfl) pa_nil))) pa_nil)))))
     pss_nil)))
   (pss_one (ps_ret (pv 3)))),?_⟩
  obtain ⟨as0,hl0,hp0⟩:=hcs
  refine ⟨64,rfl,by decide,by decide,fun D hD=>lc_range (n:=64) (fun i H'=>∃ as:List Addr,as.length=i∧as.Nodup∧(∀ a∈as,H a=none∧a≠D∧H' a=some (.lst []))∧Same H H'∧H' D=some (.lst (as.map V.ref))) ?_ ?_ ?_⟩
  ·exact ⟨[],rfl,List.nodup_nil,fun a h=>absurd h (by simp),Same.new hD,upd_same⟩
  ·rintro i H1 hi ⟨as,e1,e2,e3,e4,e5⟩
   refine ⟨rfl,Nat.zero_le _,fun q hq=>⟨as.map V.ref,?_,?_,as++[q],?_,?_,?_,?_,?_⟩⟩
   ·rw [upd_ne (ne_of_none e5 hq)]; exact e5
   ·rw [List.length_map,e1]; exact small1000 (by omega)
   ·rw [List.length_append,e1]; rfl
   ·rw [List.nodup_append]
    refine ⟨e2,by simp,fun a ha b hb=>?_⟩
    rw [List.mem_singleton.mp hb]
    exact ne_of_none (e3 a ha).2.2 hq
   ·intro a ha
    have nqD:q≠D:=(ne_of_none e5 hq).symm
    rcases List.mem_append.mp ha with z | z
    ·obtain ⟨z1,z2,z3⟩:=e3 a z
     exact ⟨z1,z2,by rw [upd_ne z2,upd_ne (ne_of_none z3 hq)]; exact z3⟩
    ·rw [List.mem_singleton.mp z]
     exact ⟨e4.free hq,nqD,by rw [upd_ne nqD,upd_same]⟩
   ·exact Same.put (Same.put e4 (e4.free hq)) hD
   ·rw [upd_same,List.map_append]; rfl
  ·rintro H1 ⟨as,e1,e2,e3,e4,e5⟩
   have L0:LI H1 as (lnk (cs.take 0) fun c=>c.by_ ⟨on,off⟩):=⟨e1,e2,fun u a ha=>⟨[],(e3 a (List.mem_of_getElem? ha)).2.2,.nil⟩⟩
   have fr:∀ a∈as,H a=none:=fun a ha=>(e3 a ha).1
   refine ⟨_,rfl,l,_,rfl,SqL.of (e4 _ _ hl0),for_enum (xs:=as0.map V.ref) (fun i σ H'=>∃ v4 v5:Option V,σ=[some (.ref l),some (.int on),some (.int off),some (.ref D),v4,v5,none]∧Same H H'∧H' D=some (.lst (as.map V.ref))∧LI H' as (lnk (cs.take i) fun c=>c.by_ ⟨on,off⟩)) ?_ ?_ ?_ ?_⟩
   ·exact ⟨none,none,rfl,e4,e5,L0⟩
   ·rintro i σ H' hi ⟨v4,v5,rfl,z1,_⟩
    exact SqL.of (z1 _ _ hl0)
   ·rintro i x σ H' t hx ⟨v4,v5,rfl,z1,z2,z3⟩ ht
    obtain ⟨a,ha,rfl⟩:=map_get hx
    obtain ⟨c,hc,hca⟩:=Pd.get hp0 ha
    have hca':ConAt CC (upd H' t (.tup [.int i,.ref a])) a c:=(hca.same z1).same (Same.new ht)
    have st:=lnk_step (p:=fun c=>c.by_ ⟨on,off⟩) ok hc
    have okc:=ok c (List.mem_of_getElem? hc)
    refine ⟨_,rfl,_,rfl,_,rfl,a,c,on,off,rfl,hca',_,rfl,?_⟩
    have s0:Same H' (upd H' t (.tup [.int i,.ref a])):=Same.new ht
    have s1:Same H (upd H' t (.tup [.int i,.ref a])):=z1.trans s0
    have D1:=s0 _ _ z2
    have L1:=z3.same s0
    generalize upd H' t (.tup [.int i,.ref a])=H2 at *
    by_cases hp:c.by_ ⟨on,off⟩=true
    ·rw [hp]
     refine iteT ?_
     simp only [hp,if_true] at st
     obtain ⟨dx,hdx⟩:=hca'
     obtain ⟨b1,hb1⟩:∃ b,as[c.a]?=some b:=⟨_,List.getElem?_eq_getElem (by rw [e1]; omega)⟩
     obtain ⟨b2,hb2⟩:∃ b,as[c.b]?=some b:=⟨_,List.getElem?_eq_getElem (by rw [e1]; omega)⟩
     obtain ⟨ts1,g1,g2⟩:=L1.at_ _ _ hb1
     refine ⟨_,rfl,_,rfl,a,CC,dx,_,_,rfl,hdx,T.cc,T.nLow,ct_low c,D,_,_,_,rfl,rfl,SqL.of D1,atR hb1,.inl ⟨rfl,_,SqL.of g1⟩,?_⟩
     refine ⟨_,rfl,_,rfl,a,CC,dx,_,_,rfl,hdx,T.cc,T.nHigh,ct_high c,(by show 2≤sizeLine; decide),fun q1 hq1=>?_⟩
     have s3:Same H2 (upd H2 q1 (.tup [.int i,.int c.b])):=Same.new hq1
     refine ⟨b1,_,_,rfl,rfl,s3 _ _ g1,?_,?_⟩
     ·rw [List.length_map,Pd.len g2]
      exact small1000 (by have:=lnk_len (cs.take i) (fun c=>c.by_ ⟨on,off⟩) c.a; rw [List.length_take] at this; omega)
     have L2':=(L1.same s3).push (x:=(i,c.b)) hb1 (s3 _ _ g1) (Pd.imp (fun _ _ z=>s3 _ _ z) g2) upd_same
     have s4:Same H (upd H2 q1 (.tup [.int i,.int c.b])):=s1.trans s3
     have D2:upd (upd H2 q1 (.tup [.int i,.int c.b])) b1 (.lst (ts1.map V.ref++[.ref q1])) D=some (.lst (as.map V.ref)):=by
      rw [upd_ne (Ne.symm (e3 b1 (List.mem_of_getElem? hb1)).2.1)]; exact s3 _ _ D1
     have A2:upd (upd H2 q1 (.tup [.int i,.int c.b])) b1 (.lst (ts1.map V.ref++[.ref q1])) a=some (.ins CC dx (ctF c)):=by
      rw [upd_ne (ne_of (s3 _ _ hdx) (s3 _ _ g1) (by intro z; cases z))]; exact s3 _ _ hdx
     have S2:Same H (upd (upd H2 q1 (.tup [.int i,.int c.b])) b1 (.lst (ts1.map V.ref++[.ref q1]))):=Same.put s4 (fr b1 (List.mem_of_getElem? hb1))
     generalize upd (upd H2 q1 (.tup [.int i,.int c.b])) b1 (.lst (ts1.map V.ref++[.ref q1]))=H3 at *
     obtain ⟨ts2,g3,g4⟩:=L2'.at_ _ _ hb2
     refine ⟨_,rfl,_,rfl,a,CC,dx,_,_,rfl,A2,T.cc,T.nHigh,ct_high c,D,_,_,_,rfl,rfl,SqL.of D2,atR hb2,.inl ⟨rfl,_,SqL.of g3⟩,?_⟩
     refine ⟨_,rfl,_,rfl,a,CC,dx,_,_,rfl,A2,T.cc,T.nLow,ct_low c,(by show 2≤sizeLine; decide),fun q2 hq2=>?_⟩
     have s5:Same H3 (upd H3 q2 (.tup [.int i,.int c.a])):=Same.new hq2
     refine ⟨b2,_,_,rfl,rfl,s5 _ _ g3,?_,?_⟩
     ·rw [List.length_map,Pd.len g4]
      exact small1000 (by have:=lnk_len (cs.take i) (fun c=>c.by_ ⟨on,off⟩) c.b; have:=push_len (lnk (cs.take i) (fun c=>c.by_ ⟨on,off⟩)) c.a c.b (i,c.b); rw [List.length_take] at *; omega)
     have L4:=(L2'.same s5).push (x:=(i,c.a)) hb2 (s5 _ _ g3) (Pd.imp (fun _ _ z=>s5 _ _ z) g4) upd_same
     refine ⟨_,_,rfl,Same.put (S2.trans s5) (fr b2 (List.mem_of_getElem? hb2)),?_,by rw [st]; exact L4⟩
     rw [upd_ne (Ne.symm (e3 b2 (List.mem_of_getElem? hb2)).2.1)]; exact s5 _ _ D2
    ·have hp':c.by_ ⟨on,off⟩=false:=by simpa using hp
     rw [hp']
     refine iteF ?_
     simp only [hp',Bool.false_eq_true,if_false] at st
     exact ⟨_,_,rfl,s1,D1,by rw [st]; exact L1⟩
   ·rintro σ H' ⟨v4,v5,rfl,z1,z2,z3⟩
    refine ⟨_,rfl,?_⟩
    have el:as0.length=cs.length:=Pd.len hp0
    rw [List.length_map,el,List.take_length] at z3
    exact k H' D z1 ⟨as,z2,z3⟩
end
end Cw
namespace Cw
open PySem PySem.Spec PyProof.Rows L2 CwG
def oV:Option Nat->V
 | none=>.non
 | some d=>.int d
def awV(A:Nat->Option Nat):List V:=(List.range 64).map fun v=>oV (A v)
theorem awV_len(A:Nat->Option Nat):(awV A).length=64:=by simp [awV]
theorem awV_get(A:Nat->Option Nat){v:Nat}(h:v < 64):(awV A)[v]?=some (oV (A v)):=by
 unfold awV
 rw [List.getElem?_map,List.getElem?_range h]
 rfl
theorem awV_set(A:Nat->Option Nat){v d:Nat}(h:v < 64):(awV A).set v (.int d)=awV (setA A v d):=by
 apply List.ext_getElem?
 intro i
 by_cases hi:i < 64
 ·by_cases e:i=v
  ·subst e
   rw [List.getElem?_set_self (by rw [awV_len]; exact h),awV_get _ hi]
   simp [setA,oV]
  ·rw [List.getElem?_set_ne (fun q=>e q.symm),awV_get _ hi,awV_get _ hi]
   simp [setA,e]
 ·rw [List.getElem?_eq_none (by simp [awV_len]; omega),List.getElem?_eq_none (by simp [awV_len]; omega)]
theorem awV_at(A:Nat->Option Nat){v:Nat}(h:v < 64):atI (awV A) (v:Int)=some (oV (A v)):=atI_nat (awV_get A h)
theorem ixN_nat{n v:Nat}(h:v < n):ixN n (v:Int)=some v:=by
 unfold ixN
 rw [if_pos (Int.natCast_nonneg _),if_pos (by omega),Int.toNat_natCast]
def nV(n:Nat):V:=.int n
theorem nV_at{re:List Nat}{i u:Nat}(h:re[i]?=some u):atI (re.map nV) (i:Int)=some (.int u):=atI_nat (by rw [List.getElem?_map,h]; rfl)
section
variable {P:Program} {w:World} {K:PySem.W.Frag} {mg:Str->Option Value} {base:Heap} {CC CS:Addr}
structure DistAt(L:Nat->List (Nat×Nat))(t:Nat)(H:Hp)(a:Addr)(A:Nat->Option Nat):Prop where
 at_:H a=some (.lst (awV A))
 bfs:∃ re dn,Bfs L t A re dn∧re.length≤dn
def spDist:Sp:=fun vs H Q _=>∃ (r:Addr) (L:Nat->List (Nat×Nat)) (t:Nat),vs=[.ref r,.int t]∧LinksAt H r L∧t < 64∧(∀ u n v,(n,v)∈L u->v < 64) ∧
 ∀ (H':Hp) (a:Addr) (A:Nat->Option Nat),Same H H'->DistAt L t H' a A->Q (.ref a) H'
theorem scDist:FnScope ["links","start","away","reached","done","here","number","node"] ["links","start"] (defScope sDist):=⟨rfl,rfl,rfl,by decide +kernel,rfl,by decide +kernel,by decide +kernel⟩
theorem ok_dist{f:Addr}{fd:FuncData}(F:Fun K "distances" "distances" sDist f fd)(T:TxA K mg CC CS):FnOk P w K mg base CX0 1 f fd ["links","start"] spDist:=by
 refine F.ok scDist (fun vs H Q E h=>?_) (fun cdv A outer s H vs Q E hr h=>?_)
 ·obtain ⟨r,L,t,rfl,_⟩:=h
  rfl
 ·obtain ⟨r,L,t,rfl,hL,ht,hlt,k⟩:=h
  refine ⟨_,pss_cons (ps_setLc (i:=2) (own:=[("node",7)]) rfl scDist.nd rfl rfl (sw_true rfl rfl rfl (by decide +kernel)) (pi_range1 rfl T.range (pa_cons (pe_gI rfl T.nodes) pa_nil))
    (by exact blkOk_by (N:=["links","start","away","reached","done","here","number","node"]) (sc:=defScope sDist) (by decide +kernel))
    (fun _ _ _ _ _=>pg_name (i:=7) scDist.nd rfl (Or.inl rfl)) (fun _ _ _ _ _=>pts_nil) (fun _ _ _ _ _=>pe_non))
   (pss_cons (ps_asg pe_int (pg_sub (pv 2) (pv 1) set_list))
   (pss_cons (ps_set (i:=3) scDist.nd rfl (Or.inl rfl) (pe_lst (pa_cons (pv 1) pa_nil)))
   (pss_cons (ps_set (i:=4) scDist.nd rfl (Or.inl rfl) pe_int)
   (pss_cons (ps_while PassesOwn.never (pt_cmpR op_lt (pv 4) (pe_callB call_len_seq (by rfl) T.len PySem.boot_len (pa_cons (pv 3) pa_nil)) (nomark _))
    (pss_cons (ps_set (i:=5) scDist.nd rfl (Or.inl rfl) (pe_ix ix_list (pv 3) (pv 4) (fun _ _=>rfl)))
    (pss_cons (ps_aug (i:=4) scDist.nd rfl (Or.inl rfl) pe_int ip_add)
    (pss_one (ps_for PassesOwn.never rfl (pi_list (pe_ix ix_list (pv 0) (pv 5) (fun _ _=>rfl))) (pg_tup rfl (pgs_cons (pg_name (i:=6) scDist.nd rfl (Or.inl rfl)) (pgs_cons (pg_name (i:=7) scDist.nd rfl (Or.inl rfl)) pgs_nil)))
     (pss_one (ps_if (pt_cmp (pc_isN (pe_ix ix_list (pv 2) (pv 7) (fun _ _=>rfl))))
      (pss_cons (ps_asg (pe_op op_add (pe_ix ix_list (pv 2) (pv 5) (fun _ _=>rfl)) pe_int) (pg_sub (pv 2) (pv 7) set_list))
       (pss_one (ps_expr (pe_bm PySem.F.plainAttrs_list PySem.F.slot_list_append PySem.F.type_list_append mt_append (pv 3) (pa_cons (pv 7) pa_nil)))))
      pss_nil)))))))
   (pss_one (ps_ret (pv 2))))))),?_⟩
  refine ⟨64,rfl,by decide,by decide,fun aw haw=>lc_range (n:=64) (fun i H'=>Same H H'∧H' aw=some (.lst (List.replicate i V.non))) ?_ ?_ ?_⟩
  ·exact ⟨Same.new haw,upd_same⟩
  ·rintro i H1 hi ⟨e1,e2⟩
   refine ⟨rfl,List.replicate i V.non,e2,?_,Same.put e1 haw,?_⟩
   ·rw [List.length_replicate]; exact small1000 (by omega)
   ·rw [upd_same,List.replicate_succ']
  ·rintro H1 ⟨e1,e2⟩
   have e2':H1 aw=some (.lst (awV fun _=>none)):=e2
   refine ⟨_,rfl,_,rfl,aw,_,_,t,rfl,rfl,e2',by rw [awV_len]; exact ixN_nat ht,?_⟩
   have S2:Same H (upd H1 aw (.lst ((awV fun _=>none).set t (.int 0)))):=Same.put e1 haw
   have A2:upd H1 aw (.lst ((awV fun _=>none).set t (.int 0))) aw=some (.lst (awV (setA (fun _=>none) t 0))):=by rw [upd_same]; exact congrArg (fun q=>some (HO.lst q)) (awV_set _ ht)
   generalize upd H1 aw (.lst ((awV fun _=>none).set t (.int 0)))=H2 at *
   refine ⟨_,rfl,(by show 1≤sizeLine; decide),fun rc hrc=>?_⟩
   have ne:aw≠rc:=ne_of_none A2 hrc
   have frc:H rc=none:=S2.free hrc
   have S3:Same H (upd H2 rc (.lst [.int t])):=Same.put S2 frc
   have A3:upd H2 rc (.lst [.int t]) aw=some (.lst (awV (setA (fun _=>none) t 0))):=by rw [upd_ne ne]; exact A2
   have R3:upd H2 rc (.lst [.int t]) rc=some (.lst ([t].map nV)):=upd_same
   generalize upd H2 rc (.lst [.int t])=H3 at *
   refine ⟨fun m σ H'=>∃ (A:Nat->Option Nat) (re:List Nat) (dn:Nat) (v5 v6 v7:Option V),σ=[some (.ref r),some (.int t),some (.ref aw),some (.ref rc),some (.int dn),v5,v6,v7]∧m=64 - dn∧Same H H'∧H' aw=some (.lst (awV A))∧H' rc=some (.lst (re.map nV))∧Bfs L t A re dn,
    ⟨64,_,[t],0,none,none,none,rfl,rfl,S3,A3,R3,bfs0 ht⟩,?_⟩
   rintro m σ H' ⟨A,re,dn,v5,v6,v7,rfl,rfl,S,hA,hR,B⟩
   refine ⟨_,rfl,_,rfl,rc,_,rfl,.inl (SqL.of hR),_,_,rfl,rfl,_,rfl,?_⟩
   rw [List.length_map]
   by_cases hdn:dn < re.length
   ·rw [decide_eq_true (by omega:(dn:Int) < (re.length:Int))]
    refine ⟨fun σ' H'=>∃ (A:Nat->Option Nat) (re:List Nat) (v5 v6 v7:Option V),σ'=[some (.ref r),some (.int t),some (.ref aw),some (.ref rc),some (.int (dn+1:Nat)),v5,v6,v7]∧Same H H'∧H' aw=some (.lst (awV A))∧H' rc=some (.lst (re.map nV))∧Bfs L t A re (dn+1),?_,?_⟩
    ·rintro σ' H' ⟨A,re',v5,v6,v7,rfl,h1,h2,h3,h4⟩
     have:=B.len
     exact ⟨64 - (dn+1),by omega,A,re',dn+1,v5,v6,v7,rfl,rfl,h1,h2,h3,h4⟩
    ·obtain ⟨u,hu⟩:∃ u,re[dn]?=some u:=⟨_,List.getElem?_eq_getElem hdn⟩
     obtain ⟨d,hd,M⟩:=B.mid hu
     have hu64:=B.lt u (List.mem_of_getElem? hu)
     refine ⟨_,rfl,_,rfl,rc,_,_,_,rfl,rfl,SqL.of hR,nV_at hu,_,rfl,_,_,rfl,rfl,?_⟩
     obtain ⟨as,hr',hLI⟩:=hL
     obtain ⟨b,hb⟩:∃ b,as[u]?=some b:=⟨_,List.getElem?_eq_getElem (by rw [hLI.len]; exact hu64)⟩
     obtain ⟨ts,hts,hPd⟩:=hLI.at_ u b hb
     refine ⟨_,rfl,_,rfl,r,_,_,_,rfl,rfl,SqL.of (S _ _ hr'),atR hb,b,rfl,⟨_,SqL.of (S _ _ hts)⟩,for_pairs (xs:=ts) (fun i σ H'=>∃ (A:Nat->Option Nat) (re:List Nat) (v6 v7:Option V),σ=[some (.ref r),some (.int t),some (.ref aw),some (.ref rc),some (.int (dn+1:Nat)),some (.int u),v6,v7]∧Same H H'∧H' aw=some (.lst (awV A))∧H' rc=some (.lst (re.map nV))∧Mid L t A re dn u d i) ?_ ?_ ?_ ?_⟩
     ·exact ⟨A,re,v6,v7,rfl,S,hA,hR,M⟩
     ·rintro i σ H' hi ⟨_,_,_,_,_,z,_⟩
      exact SqL.of (z _ _ hts)
     ·rintro i tp σ H' htp ⟨A,re,v6,v7,rfl,S,hA,hR,M⟩
      obtain ⟨⟨n,v⟩,hnv,hT⟩:=Pd.get hPd htp
      have hv64:v < 64:=hlt u n v (List.mem_of_getElem? hnv)
      refine ⟨_,_,SqT.of (S _ _ hT),?_⟩
      refine ⟨_,rfl,_,rfl,aw,_,_,_,rfl,rfl,SqL.of hA,awV_at A hv64,_,rfl,?_⟩
      cases hAv:A v with
      | some e =>
       exact ⟨A,re,_,_,rfl,S,hA,hR,M.seen hnv hAv⟩
      | none =>
       refine ⟨_,rfl,_,rfl,aw,_,_,_,rfl,rfl,SqL.of hA,awV_at A hu64,d,1,by rw [M.hd]; rfl,rfl,?_⟩
       refine ⟨_,rfl,_,rfl,aw,_,_,v,rfl,rfl,hA,by rw [awV_len]; exact ixN_nat hv64,?_⟩
       have hA2:upd H' aw (.lst ((awV A).set v (.int (d+1:Int)))) aw=some (.lst (awV (setA A v (d+1)))):=by rw [upd_same]; exact congrArg (fun q=>some (HO.lst q)) (awV_set A hv64)
       have hR2:upd H' aw (.lst ((awV A).set v (.int (d+1:Int)))) rc=some (.lst (re.map nV)):=by rw [upd_ne ne.symm]; exact hR
       have S2:Same H (upd H' aw (.lst ((awV A).set v (.int (d+1:Int))))):=Same.put S haw
       generalize upd H' aw (.lst ((awV A).set v (.int (d+1:Int))))=H4 at *
       refine ⟨_,rfl,.inl ⟨rfl,_,SqL.of hR2⟩,_,rfl,rc,_,_,rfl,rfl,hR2,?_,?_⟩
       ·rw [List.length_map]; exact small1000 (by have:=M.len; omega)
       ·refine ⟨_,re++[v],_,_,rfl,Same.put S2 frc,?_,?_,M.new hnv hAv hv64⟩
        ·rw [upd_ne ne]; exact hA2
        ·rw [upd_same,List.map_append]; rfl
     ·rintro σ H' ⟨A,re,v6,v7,rfl,S,hA,hR,M⟩
      rw [Pd.len hPd] at M
      exact ⟨A,re,_,_,_,rfl,S,hA,hR,M.fin⟩
   ·rw [decide_eq_false (by omega:¬ (dn:Int) < (re.length:Int))]
    exact ⟨_,rfl,k H' aw A S ⟨hA,re,dn,B,by omega⟩⟩
end
end Cw
namespace Cw
open PySem PySem.Spec PyProof.Rows L2 CwG
section
variable {P:Program} {w:World} {K:PySem.W.Frag} {mg:Str->Option Value} {base:Heap} {CC CS:Addr}
def FirstL(L:List (Nat×Nat))(A:Nat->Option Nat)(d:Nat)(x:Nat×Nat):Prop:=∃ i,L[i]?=some x∧A x.2=some d∧∀ (j:Nat) (y:Nat×Nat),j < i->L[j]?=some y->A y.2≠some d
def spFirstN:Sp:=fun vs H Q _=>∃ (r aw:Addr) (L:Nat->List (Nat×Nat)) (A:Nat->Option Nat) (u d:Nat),vs=[.ref r,.ref aw,.int u]∧LinksAt H r L∧H aw=some (.lst (awV A))∧u < 64∧(∀ u n v,(n,v)∈L u->v < 64)∧A u=some (d+1)∧(∃ x∈L u,A x.2=some d) ∧
 ∀ (t:Addr) (x:Nat×Nat),TpA H t x->FirstL (L u) A d x->Q (.ref t) H
theorem scFirstN:FnScope ["links","away","here","link"] ["links","away","here"] (defScope sFirstN):=⟨rfl,rfl,rfl,by decide +kernel,rfl,by decide +kernel,by decide +kernel⟩
theorem ok_firstN{f:Addr}{fd:FuncData}(F:Fun K "first_nearer" "first_nearer" sFirstN f fd)(T:TxA K mg CC CS):FnOk P w K mg base CX0 1 f fd ["links","away","here"] spFirstN:=by
 refine F.ok scFirstN (fun vs H Q E h=>?_) (fun cdv A outer s H vs Q E hr h=>?_)
 ·obtain ⟨r,aw,L,A,u,d,rfl,_⟩:=h
  rfl
 ·obtain ⟨r,aw,L,A,u,d,rfl,⟨as,hr',hLI⟩,hA,hu,hlt,hd,⟨x0,hx0,hx0d⟩,k⟩:=h
  refine ⟨_,pss_cons (ps_for PassesOwn.never rfl (pi_list (pe_ix ix_list (pv 0) (pv 2) (fun _ _=>rfl))) (pg_name (i:=3) scFirstN.nd rfl (Or.inl rfl))
    (pss_one (ps_if (pt_cmpR op_eq (pe_ix ix_list (pv 1) (pe_ix ix_tup (pv 3) pe_int (fun _ _=>rfl)) (fun _ _=>rfl)) (pe_op op_sub (pe_ix ix_list (pv 1) (pv 2) (fun _ _=>rfl)) pe_int) (nomark _))
     (pss_one (ps_ret (pv 3))) pss_nil)))
   (pss_one (ps_ret pe_non)),?_⟩
  obtain ⟨b,hb⟩:∃ b,as[u]?=some b:=⟨_,List.getElem?_eq_getElem (by rw [hLI.len]; exact hu)⟩
  obtain ⟨ts,hts,hPd⟩:=hLI.at_ u b hb
  refine ⟨_,rfl,_,rfl,r,_,_,_,rfl,rfl,SqL.of hr',atR hb,b,rfl,⟨_,SqL.of hts⟩,for_list (xs:=ts.map V.ref) (fun i σ H'=>∃ v3:Option V,σ=[some (.ref r),some (.ref aw),some (.int u),v3]∧H'=H∧∀ (j:Nat) (y:Nat×Nat),j < i->(L u)[j]?=some y->A y.2≠some d) ?_ ?_ ?_ ?_⟩
  ·exact ⟨none,rfl,rfl,fun j y hj=>absurd hj (Nat.not_lt_zero _)⟩
  ·rintro i σ H' hi ⟨_,_,rfl,_⟩
   exact SqL.of hts
  ·rintro i y σ H' hy ⟨v3,rfl,rfl,hno⟩
   obtain ⟨t,ht,rfl⟩:=map_get hy
   obtain ⟨⟨n,v⟩,hnv,hT⟩:=Pd.get hPd ht
   have hv64:v < 64:=hlt u n v (List.mem_of_getElem? hnv)
   refine ⟨_,rfl,_,rfl,t,_,_,_,rfl,rfl,SqT.of hT,atI_nat (j:=1) rfl,aw,_,_,_,rfl,rfl,SqL.of hA,awV_at A hv64,?_⟩
   refine ⟨_,rfl,_,rfl,aw,_,_,_,rfl,rfl,SqL.of hA,awV_at A hu,(d+1:Nat),1,by rw [hd]; rfl,rfl,?_⟩
   have e1:((d+1:Nat):Int) - 1=(d:Int):=by omega
   show rEq (oV (A v)) (V.int (((d+1:Nat):Int) - 1)) H' _
   rw [e1]
   refine ⟨by cases A v<;>rfl,_,rfl,?_⟩
   by_cases q:A v=some d
   ·rw [decide_eq_true (by rw [q]; rfl)]
    exact ⟨_,rfl,k t (n,v) hT ⟨i,hnv,q,hno⟩⟩
   ·rw [decide_eq_false (by
     intro z
     cases e:A v with
     | none=>rw [e] at z; cases z
     | some e' =>
      rw [e] at z
      have z:V.int (e':Int)=V.int (d:Int):=z
      injection z with z
      exact q (by rw [e]; congr 1; omega))]
    refine ⟨_,rfl,rfl,fun j y hj hyj=>?_⟩
    by_cases e:j=i
    ·subst e
     rw [hnv] at hyj
     cases hyj
     exact q
    ·exact hno j y (by omega) hyj
  ·rintro σ H' ⟨v3,rfl,rfl,hno⟩
   exfalso
   obtain ⟨j,hj⟩:=List.getElem?_of_mem hx0
   have:=(List.getElem?_eq_some_iff.mp hj).1
   rw [List.length_map,Pd.len hPd] at hno
   exact hno j x0 this hj hx0d
def spWay(CC:Addr):Sp:=fun vs H Q _=>∃ (l:Addr) (s:Rung.Scheme) (x k:Nat),vs=[.ref l,.int x,.int k]∧ConsAt CC H l s.contacts∧Ws s∧x < 4294967296∧k < 64 ∧
 ∀ H':Hp,Same H H'->(Rung.pathTo s x k=none->Q .non H')∧∀ (q:Addr) (wl:List Nat),Rung.pathTo s x k=some wl->H' q=some (.lst (wl.map nV))->H q=none->Q (.ref q) H'
theorem scWay:FnScope ["contacts","state","node","links","away","way","here","link"] ["contacts","state","node"] (defScope sWayTold):=⟨rfl,rfl,rfl,by decide +kernel,rfl,by decide +kernel,by decide +kernel⟩
theorem firstL_least{cs:List Rung.Contact}{p:Rung.Contact->Bool}{u d n v:Nat}{A:Nat->Option Nat}(ok:Okc cs)(h:FirstL (lnk cs p u) A d (n,v)):Joins cs p n u v∧A v=some d∧∀ n' v',Joins cs p n' u v'->A v'=some d->n≤n':=by
 obtain ⟨i,h1,h2,h3⟩:=h
 refine ⟨(mem_lnk ok).mp (List.mem_of_getElem? h1),h2,fun n' v' j hv'=>?_⟩
 obtain ⟨q,hq⟩:=List.getElem?_of_mem ((mem_lnk ok).mpr j)
 by_cases e:q < i
 ·exact absurd hv' (h3 q _ e hq)
 ·by_cases e2:q=i
  ·subst e2
   rw [h1] at hq
   cases hq
   exact Nat.le_refl _
  ·have so:=lnk_sorted (cs:=cs) (p:=p) u
   obtain ⟨l1,e3⟩:=List.getElem?_eq_some_iff.mp h1
   obtain ⟨l2,e4⟩:=List.getElem?_eq_some_iff.mp hq
   have:=List.pairwise_iff_getElem.mp so i q (by simpa using l1) (by simpa using l2) (by omega)
   simp only [List.getElem_map,e3,e4] at this
   omega
theorem lnk_lt{cs:List Rung.Contact}{p:Rung.Contact->Bool}(ok:Okc cs):∀ u n v,(n,v)∈lnk cs p u->v < 64:=fun u n v h=>(joins_ne ok ((mem_lnk ok).mp h)).2.2
theorem ok_way{f fL fO fD fN fE:Addr}{fd fdL fdO fdD fdN fdE:FuncData}(F:Fun K "way_told" "way_told" sWayTold f fd)(T:TxA K mg CC CS)
  (FL:Fun K "links_of" "links_of" sLinks fL fdL) (bL:Binds K fdL ["contacts","on","off"] []) (mL:mg "links_of"=some (.ref fL)) (GL:FnOk P w K mg base CX0 2 fL fdL ["contacts","on","off"] (spLinks CC))
  (FO:Fun K "off_in" "off_in" sOffIn fO fdO) (bO:Binds K fdO ["state"] []) (mO:mg "off_in"=some (.ref fO)) (GO:FnOk P w K mg base CX0 1 fO fdO ["state"] spOffIn)
  (FD:Fun K "distances" "distances" sDist fD fdD) (bD:Binds K fdD ["links","start"] []) (mD:mg "distances"=some (.ref fD)) (GD:FnOk P w K mg base CX0 1 fD fdD ["links","start"] spDist)
  (FN:Fun K "first_nearer" "first_nearer" sFirstN fN fdN) (bN:Binds K fdN ["links","away","here"] []) (mN:mg "first_nearer"=some (.ref fN)) (GN:FnOk P w K mg base CX0 1 fN fdN ["links","away","here"] spFirstN) :
  FnOk P w K mg base CX0 3 f fd ["contacts","state","node"] (spWay CC):=by
 refine F.ok scWay (fun vs H Q E h=>?_) (fun cdv A outer s H vs Q E hr h=>?_)
 ·obtain ⟨l,s,x,k,rfl,_⟩:=h
  rfl
 ·obtain ⟨l,sc,x,t,rfl,hcs,W,hx,ht,k⟩:=h
  have hr1:Room 1 _:=hr.mono (by decide)
  have hr2:Room 2 _:=hr.mono (by decide)
  refine ⟨_,pss_cons (ps_set (i:=3) scWay.nd rfl (Or.inl rfl) (pe_call GL hr2 rfl mL FL.kp bL .nil pass0 (pa_cons (pv 0) (pa_cons (pv 1) (pa_cons (pe_call GO hr1 rfl mO FO.kp bO .nil pass0 (pa_cons (pv 1) pa_nil)) pa_nil)))))
   (pss_cons (ps_set (i:=4) scWay.nd rfl (Or.inl rfl) (pe_call GD hr1 rfl mD FD.kp bD .nil pass0 (pa_cons (pv 3) (pa_cons (pv 2) pa_nil))))
   (pss_cons (ps_if (pt_cmp (pc_isN (pe_ix ix_list (pv 4) (pe_gI rfl T.rail) (fun _ _=>rfl)))) (pss_one (ps_ret pe_non)) pss_nil)
   (pss_cons (ps_set (i:=5) scWay.nd rfl (Or.inl rfl) (pe_lst pa_nil))
   (pss_cons (ps_set (i:=6) scWay.nd rfl (Or.inl rfl) (pe_gI rfl T.rail))
   (pss_cons (ps_while PassesOwn.never (pt_cmpR op_ne (pv 6) (pv 2) (nomark _))
    (pss_cons (ps_set (i:=7) scWay.nd rfl (Or.inl rfl) (pe_call GN hr1 rfl mN FN.kp bN .nil pass0 (pa_cons (pv 3) (pa_cons (pv 4) (pa_cons (pv 6) pa_nil)))))
    (pss_cons (ps_expr (pe_bm PySem.F.plainAttrs_list PySem.F.slot_list_append PySem.F.type_list_append mt_append (pv 5) (pa_cons (pe_ix ix_tup (pv 7) pe_int (fun _ _=>rfl)) pa_nil)))
    (pss_one (ps_set (i:=6) scWay.nd rfl (Or.inl rfl) (pe_ix ix_tup (pv 7) pe_int (fun _ _=>rfl)))))))
   (pss_one (ps_ret (pv 5)))))))),?_⟩
  refine ⟨_,rfl,_,rfl,_,rfl,x,rfl,?_⟩
  refine ⟨l,sc.contacts,x,4294967295 - x,by rw [show (4294967295:Int) - (x:Int)=((4294967295 - x:Nat):Int) by omega]; rfl,hcs,W.okc,W.len,fun H1 r S1 hL=>?_⟩
  rw [W.links hx] at hL
  refine ⟨_,rfl,_,rfl,r,_,t,rfl,hL,ht,lnk_lt W.okc,fun H2 aw A S2 hD=>?_⟩
  obtain ⟨hA,re,dn,B,hdn⟩:=hD
  have D0:=B.dist W.okc hdn
  have S12:=S1.trans S2
  refine ⟨_,rfl,aw,_,_,_,rfl,rfl,SqL.of hA,awV_at A (v:=0) (by decide),_,rfl,?_⟩
  cases h0:A 0 with
  | none=>exact (k H2 S12).1 (D0.path_no W.okc h0)
  | some d0 =>
   refine ⟨Nat.zero_le _,fun q hq=>?_⟩
   have fq:H q=none:=S12.free hq
   have S3:Same H2 (upd H2 q (.lst [])):=Same.new hq
   have hL3:=(hL.same S2).same S3
   have hA3:=S3 _ _ hA
   have SH3:=S12.trans S3
   have hq3:upd H2 q (.lst []) q=some (.lst (([]:List Nat).map nV)):=upd_same
   have naq:aw≠q:=ne_of_none hA hq
   generalize upd H2 q (.lst [])=H3 at *
   refine ⟨fun m σ H'=>∃ (pre:List Nat) (u d:Nat) (v7:Option V),σ=[some (.ref l),some (.int x),some (.int t),some (.ref r),some (.ref aw),some (.ref q),some (.int u),v7]∧m=d∧A u=some d∧Same H H'∧Same H2 H'∧H' q=some (.lst (pre.map nV))∧u < 64 ∧
     (∀ l',Greedy sc.contacts (fun c=>c.closed x) t A u l'->Greedy sc.contacts (fun c=>c.closed x) t A 0 (pre++l'))∧pre.length+d=d0,
    ⟨d0,[],0,d0,none,rfl,rfl,h0,SH3,S3,hq3,by decide,fun l' g=>g,by simp⟩,?_⟩
   have d0lt:d0 < 64:=by
    obtain ⟨l',w',e'⟩:=D0.way d0 0 h0
    obtain ⟨m,hm,dm⟩:=d_ex _ l' rfl w'
    have:=d_small W.okc dm
    obtain ⟨⟨l'',w'',e''⟩,_⟩:=dm
    obtain ⟨e3,h3,h4⟩:=D0.of_way w''.rev D0.zero
    rw [h0] at h3
    cases h3
    simp at h4
    omega
   rintro m σ H' ⟨pre,u,d,v7,rfl,rfl,hu,SH,SH2,hq',hu64,acc,hlen⟩
   refine ⟨_,rfl,_,rfl,rfl,_,rfl,?_⟩
   by_cases e:u=t
   ·subst e
    rw [decide_eq_true rfl]
    have g:=acc [] .nil
    rw [List.append_nil] at g
    exact ⟨_,rfl,(k H' SH).2 q pre (g.path W.okc D0) hq' fq⟩
   ·rw [decide_eq_false (by intro z; injection z with z; exact e (by omega))]
    obtain ⟨d',rfl⟩:∃ d',m=d'+1:=by
     cases m with
     | zero=>exact absurd (D0.only u hu) e
     | succ d'=>exact ⟨d',rfl⟩
    refine ⟨_,fun σ' H' h=>h,?_⟩
    obtain ⟨n0,u0,j0,a0⟩:=D0.pred u d' hu
    refine ⟨_,rfl,_,rfl,_,rfl,r,aw,_,A,u,d',rfl,(hL.same S2).same SH2,SH2 _ _ hA,hu64,lnk_lt W.okc,hu,⟨(n0,u0),(mem_lnk W.okc).mpr j0.symm,a0⟩,fun tp y hT hF=>?_⟩
    obtain ⟨n,v⟩:=y
    obtain ⟨hj,hv,hleast⟩:=firstL_least W.okc hF
    refine ⟨_,rfl,.inl ⟨rfl,_,SqL.of hq'⟩,_,rfl,tp,_,_,_,rfl,rfl,SqT.of hT,atI_nat (j:=0) rfl,q,_,_,rfl,rfl,hq',?_,?_⟩
    ·rw [List.length_map]; exact small1000 (by omega)
    ·have hT':upd H' q (.lst (pre.map nV++[.int n])) tp=some (.tup [.int n,.int v]):=by
      rw [upd_ne (ne_of hT hq' (by intro z; cases z))]; exact hT
     refine ⟨_,rfl,tp,_,_,_,rfl,rfl,SqT.of hT',atI_nat (j:=1) rfl,d',by omega,pre++[n],v,d',_,rfl,rfl,hv,Same.put SH fq,Same.put SH2 hq,?_,(joins_ne W.okc hj).2.2,fun l' g=>?_,by simp; omega⟩
     ·rw [upd_same,List.map_append]; rfl
     ·rw [List.append_assoc]
      exact acc _ (.cons hu hj hv hleast g)
end
end Cw
namespace Cw
open PySem PySem.Spec PyProof.Rows L2 CwG
structure Cal(P:Program)(w:World)(K:PySem.W.Frag)(mg:Str->Option Value)(base:Heap)(x:Str)(ps:List Str)(sp:Sp)(k:Nat)(f:Addr)(fd:FuncData):Prop where
 ok:FnOk P w K mg base CX0 k f fd ps sp
 m:mg x=some (.ref f)
 kp:PySem.W.keepIn K (.ref f)=true
 b:Binds K fd ps []
theorem band_nat(a b:Nat):Builtin.bitAnd (a:Int) (b:Int)=((a&&&b:Nat):Int):=by
 rw [PyProof.Rows.bitAnd_pp (Int.natCast_nonneg _) (Int.natCast_nonneg _)]
 simp
section
variable {P:Program} {w:World} {K:PySem.W.Frag} {mg:Str->Option Value} {base:Heap} {CC CS:Addr}
def spBorder(CC:Addr):Sp:=fun vs H Q _=>∃ (l:Addr) (s:Rung.Scheme) (x:Nat),vs=[.ref l,.int x]∧ConsAt CC H l s.contacts∧Ws s∧x < 4294967296 ∧
 ∀ (H':Hp) (q:Addr),Same H H'->H' q=some (.lst ((Rung.border s x).map nV))->H q=none->Q (.ref q) H'
theorem scBorder:FnScope ["contacts","state","away","border","number","contact"] ["contacts","state"] (defScope sBorderOf):=⟨rfl,rfl,rfl,by decide +kernel,rfl,by decide +kernel,by decide +kernel⟩
theorem ok_border{f fL fO fD:Addr}{fd fdL fdO fdD:FuncData}(F:Fun K "border_of" "border_of" sBorderOf f fd)(T:TxA K mg CC CS)
  (CL:Cal P w K mg base "links_of" ["contacts","on","off"] (spLinks CC) 2 fL fdL) (CO:Cal P w K mg base "off_in" ["state"] spOffIn 1 fO fdO) (CD:Cal P w K mg base "distances" ["links","start"] spDist 1 fD fdD) :
  FnOk P w K mg base CX0 3 f fd ["contacts","state"] (spBorder CC):=by
 refine F.ok scBorder (fun vs H Q E h=>?_) (fun cdv A outer s H vs Q E hr h=>?_)
 ·obtain ⟨l,s,x,rfl,_⟩:=h
  rfl
 ·obtain ⟨l,sc,x,rfl,hcs,W,hx,k⟩:=h
  have hr1:Room 1 _:=hr.mono (by decide)
  have hr2:Room 2 _:=hr.mono (by decide)
  refine ⟨_,pss_cons (ps_set (i:=2) scBorder.nd rfl (Or.inl rfl) (pe_call CD.ok hr1 rfl CD.m CD.kp CD.b .nil pass0 (pa_cons (pe_call CL.ok hr2 rfl CL.m CL.kp CL.b .nil pass0 (pa_cons (pv 0) (pa_cons (pv 1) (pa_cons (pe_call CO.ok hr1 rfl CO.m CO.kp CO.b .nil pass0 (pa_cons (pv 1) pa_nil)) pa_nil)))) (pa_cons (pe_gI rfl T.rail) pa_nil))))
   (pss_cons (ps_set (i:=3) scBorder.nd rfl (Or.inl rfl) (pe_lst pa_nil))
   (pss_cons (ps_for PassesOwn.never rfl (pi_enum rfl T.enum (pa_cons (pv 0) pa_nil)) (pg_tup rfl (pgs_cons (pg_name (i:=4) scBorder.nd rfl (Or.inl rfl)) (pgs_cons (pg_name (i:=5) scBorder.nd rfl (Or.inl rfl)) pgs_nil)))
    (pss_one (ps_if (pt_cmpR op_ne (pe_cmp (pc_isN (pe_ix ix_list (pv 2) (pe_fld (pv 5) rfl) (fun _ _=>rfl)))) (pe_cmp (pc_isN (pe_ix ix_list (pv 2) (pe_fld (pv 5) rfl) (fun _ _=>rfl)))) (nomark _))
     (pss_one (ps_expr (pe_bm PySem.F.plainAttrs_list PySem.F.slot_list_append PySem.F.type_list_append mt_append (pv 3) (pa_cons (pv 4) pa_nil)))) pss_nil)))
   (pss_one (ps_ret (pv 3))))),?_⟩
  refine ⟨_,rfl,_,rfl,_,rfl,x,rfl,?_⟩
  refine ⟨l,sc.contacts,x,4294967295 - x,by rw [show (4294967295:Int) - (x:Int)=((4294967295 - x:Nat):Int) by omega]; rfl,hcs,W.okc,W.len,fun H1 r S1 hL=>?_⟩
  rw [W.links hx] at hL
  refine ⟨r,_,0,rfl,hL,by decide,lnk_lt W.okc,fun H2 aw A S2 hD=>?_⟩
  obtain ⟨hA,re,dn,B,hdn⟩:=hD
  have D0:=B.dist W.okc hdn
  have S12:=S1.trans S2
  refine ⟨Nat.zero_le _,fun q hq=>?_⟩
  have fq:H q=none:=S12.free hq
  have S3:Same H2 (upd H2 q (.lst [])):=Same.new hq
  have SH3:=S12.trans S3
  have hq3:upd H2 q (.lst []) q=some (.lst ((bdr A (sc.contacts.take 0)).map nV)):=upd_same
  generalize upd H2 q (.lst [])=H3 at *
  obtain ⟨as0,hl0,hp0⟩:=hcs
  refine ⟨_,rfl,l,_,rfl,SqL.of (SH3 _ _ hl0),for_enum (xs:=as0.map V.ref) (fun i σ H'=>∃ v4 v5:Option V,σ=[some (.ref l),some (.int x),some (.ref aw),some (.ref q),v4,v5]∧Same H H'∧Same H2 H'∧H' q=some (.lst ((bdr A (sc.contacts.take i)).map nV))) ?_ ?_ ?_ ?_⟩
  ·exact ⟨none,none,rfl,SH3,S3,hq3⟩
  ·rintro i σ H' hi ⟨_,_,rfl,z,_⟩
   exact SqL.of (z _ _ hl0)
  ·rintro i y σ H' t hy ⟨v4,v5,rfl,z1,z2,z3⟩ ht
   obtain ⟨a,ha,rfl⟩:=map_get hy
   obtain ⟨c,hc,hca⟩:=Pd.get hp0 ha
   have s0:Same H' (upd H' t (.tup [.int i,.ref a])):=Same.new ht
   have okc:=W.okc c (List.mem_of_getElem? hc)
   have y1:=z1.trans s0
   have y2:=z2.trans s0
   have y3:=s0 _ _ z3
   generalize upd H' t (.tup [.int i,.ref a])=H4 at *
   obtain ⟨dx,hdx⟩:=hca.same y1
   refine ⟨_,rfl,_,rfl,a,CC,dx,_,_,rfl,hdx,T.cc,T.nLow,ct_low c,aw,_,_,_,rfl,rfl,SqL.of (y2 _ _ hA),awV_at A (by omega),?_⟩
   refine ⟨_,rfl,_,rfl,a,CC,dx,_,_,rfl,hdx,T.cc,T.nHigh,ct_high c,aw,_,_,_,rfl,rfl,SqL.of (y2 _ _ hA),awV_at A (by omega),rfl,_,rfl,?_⟩
   have e1:∀ o:Option Nat,decide (oV o=V.non)=!o.isSome:=fun o=>by cases o<;>rfl
   rw [e1,e1]
   have st:=bdr_snoc (A:=A) hc
   by_cases e:(A c.a).isSome=(A c.b).isSome
   ·rw [e,decide_eq_true rfl]
    refine iteF ⟨_,_,rfl,y1,y2,?_⟩
    rw [st,if_neg (by simpa using e),List.append_nil]
    exact y3
   ·rw [decide_eq_false (by intro z; injection z with z; apply e; revert z; cases (A c.a).isSome<;>cases (A c.b).isSome<;>simp)]
    refine ⟨_,rfl,.inl ⟨rfl,_,SqL.of y3⟩,_,rfl,q,_,_,rfl,rfl,y3,?_,_,_,rfl,Same.put y1 fq,Same.put y2 hq,?_⟩
    ·rw [List.length_map]
     have:=bdr_len A (sc.contacts.take i)
     have:=W.len
     rw [List.length_take] at *
     exact small1000 (by omega)
    ·rw [upd_same,st,if_pos e,List.map_append]; rfl
  ·rintro σ H' ⟨v4,v5,rfl,z1,z2,z3⟩
   rw [List.length_map,Pd.len hp0,List.take_length,←border_eq W D0] at z3
   exact ⟨_,rfl,k H' q z1 z3 fq⟩
def Tp3(H:Hp)(t:Addr)(r:CwG.Row):Prop:=H t=some (.tup [.int r.1,.int r.2.1,.int r.2.2])
def LcOk(H:Hp)(s:Rung.Scheme)(v:V):Prop:=v=.non∨∃ (q:Addr) (C:List CwG.Row) (ts:List Addr),v=.ref q∧Rows s C∧H q=some (.lst (ts.map V.ref))∧Paired (Tp3 H) ts (leastOf s C)
def ltK(s:Rung.Scheme)(l:List Nat):List (Key×V):=l.map fun (x:Nat)=>(Sum.inl (x:Int),V.int ((lvN s x:Nat):Int))
def LtOk(H:Hp)(s:Rung.Scheme)(v:V):Prop:=v=.non∨∃ d:Addr,v=.ref d∧H d=some (.dK (ltK s (stOf s.used)))
theorem LcOk.same{H H':Hp}(S:Same H H'){s:Rung.Scheme}{v:V}(h:LcOk H s v):LcOk H' s v:=h.imp id fun ⟨q,C,ts,h1,h2,h3,h4⟩=>⟨q,C,ts,h1,h2,S _ _ h3,Pd.imp (fun _ _ z=>S _ _ z) h4⟩
theorem LtOk.same{H H':Hp}(S:Same H H'){s:Rung.Scheme}{v:V}(h:LtOk H s v):LtOk H' s v:=h.imp id fun ⟨d,h1,h2⟩=>⟨d,h1,S _ _ h2⟩
def SchAt(CC CS:Addr)(H:Hp)(a:Addr)(s:Rung.Scheme):Prop:=∃ (l u:Addr) (b:Nat) (lc lt:V),ScAt CS H a b l u lc lt∧ConsAt CC H l s.contacts∧BitsOf s b∧H u=some (.lst (s.used.map nV))∧LcOk H s lc∧LtOk H s lt
theorem SchAt.same{H H':Hp}(S:Same H H'){a:Addr}{s:Rung.Scheme}(h:SchAt CC CS H a s):SchAt CC CS H' a s:=let ⟨l,u,b,lc,lt,⟨dx,e⟩,h2,h3,h4,h5,h6⟩:=h; ⟨l,u,b,lc,lt,⟨dx,S _ _ e⟩,h2.same S,h3,S _ _ h4,h5.same S,h6.same S⟩
def spClash(CC CS:Addr):Sp:=fun vs H Q _=>∃ (a:Addr) (s:Rung.Scheme) (p q:Nat),vs=[.ref a,.int p,.int q]∧SchAt CC CS H a s∧Q (.bl (decide ((s.clean p&&&s.clean q)≠0))) H
theorem scClash:FnScope ["scheme","on","off"] ["scheme","on","off"] (defScope sClash):=⟨rfl,rfl,rfl,by decide +kernel,rfl,by decide +kernel,by decide +kernel⟩
theorem ok_clash{f:Addr}{fd:FuncData}(F:Fun K "are_clashing" "are_clashing" sClash f fd)(T:TxA K mg CC CS):FnOk P w K mg base CX0 1 f fd ["scheme","on","off"] (spClash CC CS):=by
 refine F.ok scClash (fun vs H Q E h=>?_) (fun cdv A outer s H vs Q E hr h=>?_)
 ·obtain ⟨a,s,p,q,rfl,_⟩:=h
  rfl
 ·obtain ⟨a,s,p,q,rfl,⟨l,u,b,lc,lt,⟨dx,hs⟩,_,hb,_⟩,k⟩:=h
  refine ⟨_,pss_one (ps_ret (pe_cmpR op_ne (pe_op op_and (pe_op op_and (pv 1) (pv 2)) (pe_fld (pv 0) rfl)) pe_int (nomark _))),?_⟩
  refine ⟨_,rfl,_,rfl,_,_,rfl,rfl,_,rfl,a,CS,dx,_,_,rfl,hs,T.cs,T.nBits,sc_bits _ _ _ _ _,_,_,rfl,rfl,rfl,?_⟩
  show Q (.bl (!decide (V.int (Builtin.bitAnd (Builtin.bitAnd (p:Int) (q:Int)) (b:Int))=V.int 0))) H
  rw [band_nat,band_nat]
  have e:(!decide (V.int (((p&&&q)&&&b:Nat):Int)=V.int 0))=decide ((s.clean p&&&s.clean q)≠0):=by
   have h1:=clash_iff (p:=p) (q:=q) hb
   by_cases z:((p&&&q)&&&b)=0
   ·rw [decide_eq_true (by rw [z]; rfl),decide_eq_false (fun y=>(h1.mpr y) z)]; rfl
   ·rw [decide_eq_false (by intro y; injection y with y; exact z (by omega)),decide_eq_true (h1.mp z)]; rfl
  rw [e]
  exact k
def spSuff(CC CS:Addr):Sp:=fun vs H Q _=>∃ (a:Addr) (s:Rung.Scheme) (p q k:Nat),vs=[.ref a,.int p,.int q,.int k]∧SchAt CC CS H a s∧Ws s∧k < 64∧∀ H':Hp,Same H H'->Q (.bl (Rung.suffice s ⟨s.clean p,s.clean q⟩ k)) H'
theorem scSuff:FnScope ["scheme","on","off","node","away"] ["scheme","on","off","node"] (defScope sSuff):=⟨rfl,rfl,rfl,by decide +kernel,rfl,by decide +kernel,by decide +kernel⟩
theorem ok_suff{f fL fD:Addr}{fd fdL fdD:FuncData}(F:Fun K "are_sufficient" "are_sufficient" sSuff f fd)(T:TxA K mg CC CS)
  (CL:Cal P w K mg base "links_of" ["contacts","on","off"] (spLinks CC) 2 fL fdL) (CD:Cal P w K mg base "distances" ["links","start"] spDist 1 fD fdD):FnOk P w K mg base CX0 3 f fd ["scheme","on","off","node"] (spSuff CC CS):=by
 refine F.ok scSuff (fun vs H Q E h=>?_) (fun cdv A outer s H vs Q E hr h=>?_)
 ·obtain ⟨a,s,p,q,k,rfl,_⟩:=h
  rfl
 ·obtain ⟨a,s,p,q,t,rfl,⟨l,u,b,lc,lt,⟨dx,hs⟩,hcs,hb,_⟩,W,ht,k⟩:=h
  have hr1:Room 1 _:=hr.mono (by decide)
  have hr2:Room 2 _:=hr.mono (by decide)
  refine ⟨_,pss_cons (ps_set (i:=4) scSuff.nd rfl (Or.inl rfl) (pe_call CD.ok hr1 rfl CD.m CD.kp CD.b .nil pass0 (pa_cons (pe_call CL.ok hr2 rfl CL.m CL.kp CL.b .nil pass0 (pa_cons (pe_fld (pv 0) rfl) (pa_cons (pv 1) (pa_cons (pv 2) pa_nil)))) (pa_cons (pe_gI rfl T.rail) pa_nil))))
   (pss_one (ps_ret (pe_cmp (pc_notN (pe_ix ix_list (pv 4) (pv 3) (fun _ _=>rfl)))))),?_⟩
  refine ⟨_,rfl,a,CS,dx,_,_,rfl,hs,T.cs,T.nCon,sc_con _ _ _ _ _,_,rfl,_,rfl,l,s.contacts,p,q,rfl,hcs,W.okc,W.len,fun H1 r S1 hL=>?_⟩
  refine ⟨r,_,0,rfl,hL,by decide,lnk_lt W.okc,fun H2 aw A S2 hD=>?_⟩
  obtain ⟨hA,re,dn,B,hdn⟩:=hD
  have D0:=B.dist W.okc hdn
  refine ⟨_,rfl,_,rfl,aw,_,_,_,rfl,rfl,SqL.of hA,awV_at A ht,?_⟩
  have z:=k H2 (S1.trans S2)
  rw [suffice_eq W D0] at z
  have e1:∀ o:Option Nat,(!decide (oV o=V.non))=o.isSome:=fun o=>by cases o<;>rfl
  show Q (.bl (!decide (oV (A t)=V.non))) H2
  rw [e1]
  exact z
end
end Cw
namespace Cw
open PySem PySem.Spec PyProof.Rows L2 CwG CwR TL
abbrev sLineI:Stmt:=inClass (top 42) 0
abbrev sIsName:Stmt:=top 43
abbrev sReadNum:Stmt:=top 44
abbrev sReadNode:Stmt:=top 45
abbrev sIsTicks:Stmt:=top 46
abbrev sDelays:Stmt:=top 47
abbrev sIsPlace:Stmt:=top 48
abbrev sReadCon:Stmt:=top 49
abbrev sReadLine:Stmt:=top 50
theorem lc_str{x:Str}{g:TG}{tt:TT}{te:TE}{vs:List Nat}{σ:L2.St}{H1:Hp}{D:Addr}{Qd:Hp->Prop}(Pv:Nat->Hp->Prop)(h0:Pv 0 (upd H1 D (.lst [])))
  (hs:∀ i c H,(tl x)[i]?=some c->Pv i H->g (.str ⟨#[c]⟩) (wipe σ vs) H fun σ2 H2=>wipe σ2 vs=wipe σ vs∧tt σ2 H2 fun b H3 =>
   if b=true then te σ2 H3 fun y H4=>∃ acc,H4 D=some (.lst acc)∧acc.length < sizeLine∧Pv (i+1) (upd H4 D (.lst (acc++[y]))) else Pv (i+1) H3) (hd:∀ H,Pv (tl x).length H->Qd H) :
  ∃ W:Nat->Nat->Hp->Prop,(∃ m,W 0 m (upd H1 D (.lst [])))∧∀ i m H,W i m H ->
   ((Its x).stop i H∧Qd H)∨((Its x).go i H∧∃ Nx:Hp->Prop,(∀ H',Nx H'->∃ m',m' < m∧W (i+1) m' H')∧∀ v H',(Its x).yld i H v H'->g v (wipe σ vs) H' fun σ2 H2=>wipe σ2 vs=wipe σ vs∧tt σ2 H2 fun b H3 =>
    if b=true then te σ2 H3 fun y H4=>∃ acc,H4 D=some (.lst acc)∧acc.length < sizeLine∧Nx (upd H4 D (.lst (acc++[y]))) else Nx H3):=by
 have el:(tl x).length=x.cps.size:=by simp [tl]
 refine ⟨fun i m H=>m=(tl x).length - i∧i≤(tl x).length∧Pv i H,⟨(tl x).length,by simp,Nat.zero_le _,h0⟩,?_⟩
 rintro i m H ⟨rfl,hi,p⟩
 by_cases hlt:i < (tl x).length
 ·refine .inr ⟨by rw [el] at hlt; exact hlt,Pv (i+1),fun H' p'=>⟨(tl x).length - (i+1),by omega,rfl,hlt,p'⟩,fun v H' y=>?_⟩
  obtain ⟨rfl,c,hc,rfl⟩:=y
  exact hs i c _ (by rw [←hc]; simp [tl]) p
 ·have e:i=(tl x).length:=by omega
  subst e
  exact .inl ⟨by rw [el]; exact Nat.le_refl _,hd H p⟩
theorem pe_gS{X:Cx}{x:Str}{z:Str}{pos:Pos}(hg:Gl X x)(hm:∃ t,X.mg x=some (.str z t))(hd:(x==("__debug__":Str))=false:=by decide):PE X (.Name x pos) (tC (.str z)):=by
 obtain ⟨t,hm⟩:=hm
 exact pe_glob hg hm ⟨t,rfl⟩ hd
def LETTERS:Str:="abcdefghijklmnopqrstuvwxyz"
def DIGITS:Str:="0123456789"
theorem tl_letters:tl LETTERS=List.range' 97 26:=by rw [LETTERS,tl_ofString]; rfl
theorem tl_digits:tl DIGITS=List.range' 48 10:=by rw [DIGITS,tl_ofString]; rfl
theorem in_letters(c:Nat):decide (c∈tl LETTERS)=decide (97≤c∧c≤122):=by
 rw [tl_letters]
 apply decide_eq_decide.mpr
 rw [List.mem_range'_1]
 omega
theorem in_digits(c:Nat):decide (c∈tl DIGITS)=decide (48≤c∧c≤57):=by
 rw [tl_digits]
 apply decide_eq_decide.mpr
 rw [List.mem_range'_1]
 omega
theorem dec_small(c:UInt8):decide (97≤sg c.toNat∧sg c.toNat≤122)=Rung.isSmall c:=by rw [small_iff]; exact decide_eq_decide.mpr (sg_small _)
theorem dec_digit(c:UInt8):decide (48≤sg c.toNat∧sg c.toNat≤57)=Rung.isDigit c:=by rw [digit_iff]; exact decide_eq_decide.mpr (sg_digit _)
structure TxR(K:PySem.W.Frag)(mg:Str->Option Value)(CL:Addr):Prop where
 cl:Cls K CL
 nRank:NoAttr K CL "rank"
 nName:NoAttr K CL "name"
 nLow:NoAttr K CL "low"
 nHigh:NoAttr K CL "high"
 nClo:NoAttr K CL "closer"
 mgL:mg "Line"=some (.ref CL)
 inputs:∃ t,mg "INPUTS"=some (.int 0 t)
 relays:∃ t,mg "RELAYS"=some (.int 1 t)
 lamps:∃ t,mg "LAMPS"=some (.int 2 t)
 contacts:∃ t,mg "CONTACTS"=some (.int 3 t)
 letters:∃ t,mg "LETTERS"=some (.str LETTERS t)
 digits:∃ t,mg "DIGITS"=some (.str DIGITS t)
 longName:∃ t,mg "LONGEST_NAME"=some (.int 12 t)
 longNum:∃ t,mg "LONGEST_NUMBER"=some (.int 5 t)
 mostTicks:∃ t,mg "MOST_TICKS"=some (.int 65535 t)
 nodes:∃ t,mg "NODES"=some (.int 64 t)
 len:mg "len"=none
 all:mg "all"=none
 int:mg "int"=none
def SB(z:Str)(b:Rung.Bytes):Prop:=tl z=en b∧b.length≤20000
theorem SB.len{z:Str}{b:Rung.Bytes}(h:SB z b):z.length=b.length:=by rw [len_tl,h.1,en_len]
theorem line_big:20002 < sizeLine:=by rw [sizeLine_eq]; decide
theorem SB.small{z:Str}{b:Rung.Bytes}(h:SB z b):z.length≤sizeLine:=by have:=h.len; have:=h.2; have:=line_big; omega
theorem str_dec{z:Str}{b w:Rung.Bytes}{x:Str}(h:SB z b)(hx:tl x=w.map UInt8.toNat)(hw:∀ c∈w,plainN c.toNat):decide (V.str z=V.str x)=decide (b=w):=by
 apply decide_eq_decide.mpr
 rw [←word_iff hw,←h.1,←hx]
 exact ⟨fun e=>by injection e with e; rw [e],fun e=>by rw [ext_tl e]⟩
section
variable {P:Program} {w:World} {K:PySem.W.Frag} {mg:Str->Option Value} {base:Heap} {CL:Addr}
def spIsName:Sp:=fun vs H Q _=>∃ (z:Str) (b:Rung.Bytes),vs=[.str z]∧SB z b∧∀ H':Hp,Same H H'->Q (.bl (Rung.isName b)) H'
theorem scIsName:FnScope ["part","sign"] ["part"] (defScope sIsName):=⟨rfl,rfl,rfl,by decide +kernel,rfl,by decide +kernel,by decide +kernel⟩
theorem name_eq(c:UInt8)(r:Rung.Bytes)(h:(c::r).length≤12):Rung.isName (c::r)=(Rung.isSmall c&&(c::r).all fun d=>Rung.isSmall d||Rung.isDigit d):=by
 unfold Rung.isName
 rw [decide_eq_true h]
 simp only [List.all_cons,Bool.true_and]
 cases Rung.isSmall c<;>simp
theorem ok_isName{f:Addr}{fd:FuncData}(F:Fun K "is_name" "is_name" sIsName f fd)(T:TxR K mg CL):FnOk P w K mg base CX0 1 f fd ["part"] spIsName:=by
 refine F.ok scIsName (fun vs H Q E h=>?_) (fun cdv A outer s H vs Q E hr h=>?_)
 ·obtain ⟨z,b,rfl,_⟩:=h
  rfl
 ·obtain ⟨z,b,rfl,hz,k⟩:=h
  refine ⟨_,pss_cons (ps_if (PW.pt (pw_or (pt_cmpR op_eq (pv 0) pe_str (nomark _)) (pw_or1 (pt_cmpR op_gt (pe_callB call_len_str (by rfl) T.len PySem.boot_len (pa_cons (pv 0) pa_nil)) (pe_gI rfl T.longName) (nomark _))))) (pss_one (ps_ret pe_bl)) pss_nil)
   (pss_one (ps_ret (pe_and (pe_cmpR op_in_sign (pe_ix ix_str (pv 0) pe_int (fun _ _=>rfl)) (pe_gS rfl T.letters) (by with_unfolding_all rfl))
    (pe_one (pe_callB (cr_all rfl) (by rfl) T.all boot_all (pa_cons (pe_lc (own:=[("sign",1)]) rfl scIsName.nd (pi_str (pv 0)) (by exact blkOk_by (N:=["part","sign"]) (sc:=defScope sIsName) (by decide +kernel))
     (fun _ _ _ _ _=>pg_name (i:=1) scIsName.nd rfl (Or.inl rfl)) (fun _ _ _ _ _=>pts_nil)
     (fun _ _ _ _ _=>pe_or (pe_cmpR op_in_sign (pv 1) (pe_gS rfl T.letters) (by with_unfolding_all rfl)) (pe_one (pe_cmpR op_in_sign (pv 1) (pe_gS rfl T.digits) (by with_unfolding_all rfl))))) pa_nil)))))),?_⟩
  refine ⟨_,rfl,rfl,_,rfl,?_⟩
  rw [str_dec (w:=[]) hz (by rfl) (by simp)]
  cases b with
  | nil=>exact k H (Same.refl H)
  | cons c r =>
   rw [decide_eq_false (by simp)]
   refine ⟨_,rfl,z,rfl,hz.small,_,_,rfl,rfl,_,rfl,?_⟩
   rw [hz.len]
   by_cases h12:(c::r).length≤12
   ·rw [decide_eq_false (by omega)]
    have e0:tl z=sg c.toNat::en r:=hz.1
    refine ⟨_,rfl,z,_,sg c.toNat,rfl,rfl,hz.small,atI_nat (j:=0) (by rw [show z.cps.toList=sg c.toNat::en r from e0]; rfl),_,_,rfl,rfl,_,rfl,?_⟩
    show if decide (sg c.toNat∈tl LETTERS)=true then (_:Prop) else (_:Prop)
    rw [in_letters,dec_small]
    have kk:=fun H' S=>k H' S
    rw [name_eq c r h12] at kk
    cases hc:Rung.isSmall c with
    | false =>
     rw [hc] at kk
     exact kk H (Same.refl H)
    | true =>
     rw [hc,Bool.true_and] at kk
     refine ⟨_,rfl,z,rfl,fun D hD=>lc_str (fun i H'=>Same H H'∧H' D=some (.lst ((((c::r).take i).map fun d=>Rung.isSmall d||Rung.isDigit d).map V.bl))) ⟨Same.new hD,upd_same⟩ ?_ ?_⟩
     ·rintro i d H' hd ⟨S,hDl⟩
      rw [hz.1] at hd
      obtain ⟨d',hd',rfl⟩:=(by exact Cw.map_get hd:∃ x,(c::r)[i]?=some x∧d=sg x.toNat)
      refine ⟨rfl,_,rfl,_,_,rfl,rfl,_,rfl,?_⟩
      show if decide (sg d'.toNat∈tl LETTERS)=true then (_:Prop) else (_:Prop)
      rw [in_letters,dec_small]
      have fin:∀ q:Bool,q=(Rung.isSmall d'||Rung.isDigit d')->∃ acc,H' D=some (.lst acc)∧acc.length < sizeLine∧Same H (upd H' D (.lst (acc++[V.bl q])))∧upd H' D (.lst (acc++[V.bl q])) D=some (.lst ((((c::r).take (i+1)).map fun d=>Rung.isSmall d||Rung.isDigit d).map V.bl)):=fun q hq=>by
       refine ⟨_,hDl,?_,Same.put S hD,?_⟩
       ·rw [List.length_map,List.length_map,List.length_take]; exact small1000 (by omega)
       ·rw [upd_same,CwG.take_snoc hd',hq]; simp
      cases hs:Rung.isSmall d' with
      | true=>exact fin true (by rw [hs]; rfl)
      | false =>
       refine ⟨_,rfl,_,_,rfl,rfl,?_⟩
       have:=fin (Rung.isDigit d') (by rw [hs]; rfl)
       show ∃ acc,H' D=some (.lst acc)∧acc.length < sizeLine∧Same H (upd H' D (.lst (acc++[V.bl (decide (sg d'.toNat∈tl DIGITS))])))∧upd H' D (.lst (acc++[V.bl (decide (sg d'.toNat∈tl DIGITS))])) D=some (.lst ((((c::r).take (i+1)).map fun d=>Rung.isSmall d||Rung.isDigit d).map V.bl))
       rw [in_digits,dec_digit]
       exact this
     ·rintro H' ⟨S,hDl⟩
      rw [hz.1,en_len,List.take_length] at hDl
      refine ⟨D,_,rfl,SqL.of hDl,?_⟩
      have:=kk H' S
      rw [List.all_map]
      exact this
   ·rw [decide_eq_true (by omega)]
    have:Rung.isName (c::r)=false:=by
     unfold Rung.isName
     rw [decide_eq_false h12]
     rfl
    rw [this] at k
    exact k H (Same.refl H)
end
end Cw
namespace Cw
open PySem PySem.Spec PyProof.Rows L2 CwG CwR TL
theorem tAnd_of{t u:TT}{σ:L2.St}{H:Hp}{Q:Bool->Hp->Prop}(p q:Bool)(ht:∀ Q':Bool->Hp->Prop,Q' p H->t σ H Q')(hu:p=true->∀ Q':Bool->Hp->Prop,Q' q H->u σ H Q')(h:Q (p&&q) H):tAnd t u σ H Q:=by
 refine ht _ ?_
 cases p with
 | true=>exact hu rfl Q h
 | false=>exact h
theorem tOr_of{t u:TT}{σ:L2.St}{H:Hp}{Q:Bool->Hp->Prop}(p q:Bool)(ht:∀ Q':Bool->Hp->Prop,Q' p H->t σ H Q')(hu:p=false->∀ Q':Bool->Hp->Prop,Q' q H->u σ H Q')(h:Q (p||q) H):tOr t u σ H Q:=by
 refine ht _ ?_
 cases p with
 | true=>exact h
 | false=>exact hu rfl Q h
theorem nxI{D:Ends}{σ:L2.St}{H:Hp}(h:D.nx σ H):tNext D σ H:=h
theorem ifB{b:Bool}{A B:Prop}(h1:b=true->A)(h2:b=false->B):if b=true then A else B:=by
 cases b with
 | true=>exact h1 rfl
 | false=>exact h2 rfl
section
variable {P:Program} {w:World} {K:PySem.W.Frag} {mg:Str->Option Value} {base:Heap} {CL:Addr}
def spReadNum:Sp:=fun vs H Q _=>∃ (z:Str) (b:Rung.Bytes),vs=[.str z]∧SB z b∧∀ H':Hp,Same H H'->Q (oV (rn b)) H'
theorem scReadNum:FnScope ["part","sign"] ["part"] (defScope sReadNum):=⟨rfl,rfl,rfl,by decide +kernel,rfl,by decide +kernel,by decide +kernel⟩
theorem all_digits{b:Rung.Bytes}(h:b.all Rung.isDigit=true):NumText.AllDigits (en b):=fun c hc=>by
 obtain ⟨d,hd,rfl⟩:=List.mem_map.mp hc
 have:=List.all_eq_true.mp h d hd
 rw [←dec_digit,decide_eq_true_eq] at this
 exact this
theorem sign0(c:UInt8):decide (V.str ⟨#[sg c.toNat]⟩=V.str "0")=decide (c=48):=by
 apply decide_eq_decide.mpr
 have q:=sg_eq (n:=c.toNat) (m:=48) (by omega)
 constructor
 ·intro e
  injection e with e
  have e2:tl ⟨#[sg c.toNat]⟩=tl "0":=by rw [e]
  rw [tl_ofString] at e2
  have e3:sg c.toNat=48:=by injection e2
  exact UInt8.toNat_inj.mp (q.mp e3)
 ·rintro rfl
  rfl
theorem ok_readNum{f:Addr}{fd:FuncData}(F:Fun K "read_number" "read_number" sReadNum f fd)(T:TxR K mg CL):FnOk P w K mg base CX0 1 f fd ["part"] spReadNum:=by
 refine F.ok scReadNum (fun vs H Q E h=>?_) (fun cdv A outer s H vs Q E hr h=>?_)
 ·obtain ⟨z,b,rfl,_⟩:=h
  rfl
 ·obtain ⟨z,b,rfl,hz,k⟩:=h
  refine ⟨_,pss_cons (ps_if (PW.pt (pw_or (pt_cmpR op_eq (pv 0) pe_str (nomark _)) (pw_or1 (pt_cmpR op_gt (pe_callB call_len_str (by rfl) T.len PySem.boot_len (pa_cons (pv 0) pa_nil)) (pe_gI rfl T.longNum) (nomark _))))) (pss_one (ps_ret pe_non)) pss_nil)
   (pss_cons (ps_if (PW.pt (pw_and (pt_cmpR op_eq (pe_ix ix_str (pv 0) pe_int (fun _ _=>rfl)) pe_str (nomark _)) (pw_and1 (pt_cmpR op_ne (pv 0) pe_str (nomark _))))) (pss_one (ps_ret pe_non)) pss_nil)
   (pss_cons (ps_if (pt_not (pt_truth (pe_callB (cr_all rfl) (by rfl) T.all boot_all (pa_cons (pe_lc (own:=[("sign",1)]) rfl scReadNum.nd (pi_str (pv 0)) (by exact blkOk_by (N:=["part","sign"]) (sc:=defScope sReadNum) (by decide +kernel))
     (fun _ _ _ _ _=>pg_name (i:=1) scReadNum.nd rfl (Or.inl rfl)) (fun _ _ _ _ _=>pts_nil)
     (fun _ _ _ _ _=>pe_cmpR op_in_sign (pv 1) (pe_gS rfl T.digits) (by with_unfolding_all rfl))) pa_nil)) (fun _=>rfl))) (pss_one (ps_ret pe_non)) pss_nil)
   (pss_one (ps_ret (pe_callTy call_int_str (by rfl) T.int PyProof.Rows.boot_int (pa_cons (pv 0) pa_nil)))))),?_⟩
  refine tOr_of (decide (b=[])) (decide (5 < b.length)) (fun Q' h=>⟨_,rfl,rfl,_,rfl,by rw [str_dec (w:=[]) hz (by rfl) (by simp)]; exact h⟩)
   (fun _ Q' h=>⟨_,rfl,z,rfl,hz.small,_,_,rfl,rfl,_,rfl,by rw [hz.len,show decide ((5:Int) < (b.length:Int))=decide (5 < b.length) from decide_eq_decide.mpr (by omega)]; exact h⟩) (ifB (fun e=>?_) fun e=>?_)
  ·have:rn b=none:=if_pos (by simp only [Bool.or_eq_true,decide_eq_true_eq] at e; exact e.imp_right .inl)
   rw [this] at k
   exact k H (Same.refl H)
  ·simp only [Bool.or_eq_false_iff,decide_eq_false_iff_not] at e
   cases b with
   | nil=>exact (e.1 rfl).elim
   | cons c r =>
    have e0:tl z=sg c.toNat::en r:=hz.1
    refine nxI ?_
    dsimp only
    refine tAnd_of (decide (c=48)) (decide ((c::r)≠[48])) (fun Q' h=>⟨_,rfl,z,_,sg c.toNat,rfl,rfl,hz.small,atI_nat (j:=0) (by rw [show z.cps.toList=sg c.toNat::en r from e0]; rfl),rfl,_,rfl,by rw [sign0]; exact h⟩)
     (fun _ Q' h=>⟨_,rfl,rfl,_,rfl,by
      rw [str_dec (w:=[48]) hz (by rw [tl_ofString]; rfl) (by intro c hc; rw [List.mem_singleton.mp hc]; exact .inl ⟨by decide,by decide⟩),show (!decide ((c::r)=[48]))=decide ((c::r)≠[48]) by simp]
      exact h⟩) (ifB (fun e2=>?_) fun e2=>?_)
    ·simp only [Bool.and_eq_true,decide_eq_true_eq] at e2
     have:rn (c::r)=none:=if_pos (.inr (.inr (.inl ⟨by rw [e2.1]; rfl,e2.2⟩)))
     rw [this] at k
     exact k H (Same.refl H)
    ·have good:¬ ((c::r).head?=some 48∧(c::r)≠[48]):=fun ⟨z1,z2⟩=>by
      have z1:c=48:=by simpa using z1
      rw [decide_eq_true z1,decide_eq_true z2] at e2
      cases e2
     refine ⟨_,rfl,z,rfl,fun D hD=>lc_str (fun i H'=>Same H H'∧H' D=some (.lst ((((c::r).take i).map Rung.isDigit).map V.bl))) ⟨Same.new hD,upd_same⟩ ?_ ?_⟩
     ·rintro i d H' hd ⟨S,hDl⟩
      rw [hz.1] at hd
      obtain ⟨d',hd',rfl⟩:=(by exact Cw.map_get hd:∃ x,(c::r)[i]?=some x∧d=sg x.toNat)
      refine ⟨rfl,_,rfl,_,_,rfl,rfl,_,hDl,?_,Same.put S hD,?_⟩
      ·rw [List.length_map,List.length_map,List.length_take]; exact small1000 (by omega)
      ·show upd H' D (.lst (_++[V.bl (decide (sg d'.toNat∈tl DIGITS))])) D=_
       rw [upd_same,CwG.take_snoc hd',in_digits,dec_digit]; simp
     ·rintro H' ⟨S,hDl⟩
      rw [hz.1,en_len,List.take_length] at hDl
      refine ⟨D,_,rfl,SqL.of hDl,_,rfl,?_⟩
      rw [List.all_map,show ((id:Bool->Bool)∘Rung.isDigit)=Rung.isDigit from rfl]
      cases hd:(c::r).all Rung.isDigit with
      | false =>
       have:rn (c::r)=none:=if_pos (.inr (.inr (.inr hd)))
       rw [this] at k
       exact k H' S
      | true =>
       have rv:rn (c::r)=some (Rung.numberOf (c::r)):=if_neg (by
        rintro (z | z | z | z)
        ·cases z
        ·exact e.2 z
        ·exact good z
        ·rw [hd] at z; cases z)
       rw [rv] at k
       have it:=intText_digits (x:=z) (by rw [show z.cps.toList=en (c::r) from hz.1]; exact all_digits hd) (by rw [show z.cps.toList=en (c::r) from hz.1]; simp [en]) (by rw [hz.len]; omega)
       rw [show z.cps.toList=en (c::r) from hz.1] at it
       have nv:NumText.digitsVal (en (c::r))=Rung.numberOf (c::r):=(number_fold (c::r) 0 hd).symm
       rw [nv] at it
       exact ⟨_,rfl,z,_,rfl,it,by rw [hz.len]; omega,k H' S⟩
def spReadNode:Sp:=fun vs H Q _=>∃ (z:Str) (b:Rung.Bytes),vs=[.str z]∧SB z b∧∀ H':Hp,Same H H'->Q (oV (Rung.number 0 63 b)) H'
theorem scReadNode:FnScope ["part","number"] ["part"] (defScope sReadNode):=⟨rfl,rfl,rfl,by decide +kernel,rfl,by decide +kernel,by decide +kernel⟩
theorem ok_readNode{f fN:Addr}{fd fdN:FuncData}(F:Fun K "read_node" "read_node" sReadNode f fd)(T:TxR K mg CL)(CN:Cal P w K mg base "read_number" ["part"] spReadNum 1 fN fdN):FnOk P w K mg base CX0 2 f fd ["part"] spReadNode:=by
 refine F.ok scReadNode (fun vs H Q E h=>?_) (fun cdv A outer s H vs Q E hr h=>?_)
 ·obtain ⟨z,b,rfl,_⟩:=h
  rfl
 ·obtain ⟨z,b,rfl,hz,k⟩:=h
  have hr1:Room 1 _:=hr.mono (by decide)
  refine ⟨_,pss_cons (ps_set (i:=1) scReadNode.nd rfl (Or.inl rfl) (pe_call CN.ok hr1 rfl CN.m CN.kp CN.b .nil pass0 (pa_cons (pv 0) pa_nil)))
   (pss_cons (ps_if (PW.pt (pw_or (pt_cmp (pc_isN (pv 1))) (pw_or1 (pt_cmpR op_ge (pv 1) (pe_gI rfl T.nodes) (nomark _))))) (pss_one (ps_ret pe_non)) pss_nil)
   (pss_one (ps_ret (pv 1)))),?_⟩
  refine ⟨_,rfl,z,b,rfl,hz,fun H1 S1=>?_⟩
  rw [number_rn 0 63 b (by decide)] at k
  cases e:rn b with
  | none =>
   rw [e] at k
   exact ⟨_,rfl,_,rfl,k H1 S1⟩
  | some n =>
   rw [e] at k
   refine ⟨_,rfl,_,rfl,_,rfl,_,_,rfl,rfl,_,rfl,?_⟩
   have k:Q (oV (if 0≤n∧n≤63 then some n else none)) H1:=k H1 S1
   by_cases h:n≤63
   ·rw [decide_eq_false (by omega)]
    rw [if_pos ⟨Nat.zero_le _,h⟩] at k
    exact ⟨_,rfl,k⟩
   ·rw [decide_eq_true (by omega)]
    rw [if_neg (by omega)] at k
    exact k
def spIsTicks:Sp:=fun vs H Q _=>∃ (z:Str) (b:Rung.Bytes),vs=[.str z]∧SB z b∧∀ H':Hp,Same H H'->Q (.bl (Rung.number 1 65535 b).isSome) H'
theorem scIsTicks:FnScope ["part","number"] ["part"] (defScope sIsTicks):=⟨rfl,rfl,rfl,by decide +kernel,rfl,by decide +kernel,by decide +kernel⟩
theorem ok_isTicks{f fN:Addr}{fd fdN:FuncData}(F:Fun K "is_ticks" "is_ticks" sIsTicks f fd)(T:TxR K mg CL)(CN:Cal P w K mg base "read_number" ["part"] spReadNum 1 fN fdN):FnOk P w K mg base CX0 2 f fd ["part"] spIsTicks:=by
 refine F.ok scIsTicks (fun vs H Q E h=>?_) (fun cdv A outer s H vs Q E hr h=>?_)
 ·obtain ⟨z,b,rfl,_⟩:=h
  rfl
 ·obtain ⟨z,b,rfl,hz,k⟩:=h
  have hr1:Room 1 _:=hr.mono (by decide)
  refine ⟨_,pss_cons (ps_set (i:=1) scIsTicks.nd rfl (Or.inl rfl) (pe_call CN.ok hr1 rfl CN.m CN.kp CN.b .nil pass0 (pa_cons (pv 0) pa_nil)))
   (pss_one (ps_ret (pe_and (pe_cmp (pc_notN (pv 1))) (pe_one (pe_chain op_le op_le pe_int (pv 1) (pe_gI rfl T.mostTicks)))))),?_⟩
  refine ⟨_,rfl,z,b,rfl,hz,fun H1 S1=>?_⟩
  rw [number_rn 1 65535 b (by decide)] at k
  cases e:rn b with
  | none =>
   rw [e] at k
   exact ⟨_,rfl,_,rfl,k H1 S1⟩
  | some n =>
   rw [e] at k
   refine ⟨_,rfl,_,rfl,_,rfl,_,_,rfl,rfl,_,rfl,?_⟩
   have k:Q (.bl (if 1≤n∧n≤65535 then some n else none).isSome) H1:=k H1 S1
   by_cases h1:1≤n
   ·rw [decide_eq_true (by omega)]
    refine ⟨_,_,rfl,rfl,?_⟩
    show Q (.bl (decide ((n:Int)≤65535))) H1
    by_cases h:n≤65535
    ·rw [decide_eq_true (by omega)]
     rw [if_pos ⟨h1,h⟩] at k
     exact k
    ·rw [decide_eq_false (by omega)]
     rw [if_neg (by omega)] at k
     exact k
   ·rw [decide_eq_false (by omega)]
    rw [if_neg (by omega)] at k
    exact k
end
end Cw
namespace Cw
open PySem PySem.Spec PyProof.Rows L2 CwG CwR TL
theorem cut_from(xs:List V)(k:Nat):cutV xs (some (k:Int)) none=xs.drop k:=by
 unfold cutV
 rw [HT.sIx_nat,HT.sIx_none]
 by_cases h:k≤xs.length
 ·rw [Nat.min_eq_left h,List.take_of_length_le (by rw [List.length_drop]; omega)]
 ·rw [Nat.min_eq_right (by omega),List.drop_length,List.drop_eq_nil_of_le (by omega)]; simp
theorem cut_to(xs:List V)(k:Nat):cutV xs none (some (k:Int))=xs.take k:=by
 unfold cutV
 rw [HT.sIx_nat,HT.sIx_none,List.drop_zero]
 by_cases h:k≤xs.length
 ·rw [Nat.min_eq_left h]; simp
 ·rw [Nat.min_eq_right (by omega),List.take_of_length_le (by omega),List.take_of_length_le (by omega)]
theorem cut_last(xs:List V):cutV xs none (some (-1))=xs.dropLast:=by
 unfold cutV
 rw [HT.sIx_none,List.drop_zero,List.dropLast_eq_take]
 have:HT.sIx xs.length xs.length (some (-1))=xs.length - 1:=by
  show (if (-1:Int) < 0 then ((-1:Int)+(xs.length:Int)).toNat else min (-1:Int).toNat xs.length)=xs.length - 1
  rw [if_pos (by decide)]
  omega
 rw [this]
 simp
def SqS(H:Hp)(a:Addr)(bs:List Rung.Bytes):Prop:=∃ zs:List Str,H a=some (.lst (zs.map V.str))∧Paired SB zs bs
theorem SqS.same{H H':Hp}(s:Same H H'){a:Addr}{bs:List Rung.Bytes}(h:SqS H a bs):SqS H' a bs:=let ⟨zs,e,r⟩:=h; ⟨zs,s _ _ e,r⟩
theorem Pd.drop{α β:Type}{F:α->β->Prop}:∀ {l₁:List α} {l₂:List β} (n:Nat),Paired F l₁ l₂->Paired F (l₁.drop n) (l₂.drop n)
 | _,_,0,r=>r
 | _,_,_+1,.nil=>.nil
 | _,_,n+1,.cons _ t=>Pd.drop n t
theorem Pd.take{α β:Type}{F:α->β->Prop}:∀ {l₁:List α} {l₂:List β} (n:Nat),Paired F l₁ l₂->Paired F (l₁.take n) (l₂.take n)
 | _,_,0,_=>.nil
 | _,_,_+1,.nil=>.nil
 | _,_,n+1,.cons r t=>.cons r (Pd.take n t)
theorem sb_ok{z:Str}{b:Rung.Bytes}(h:SB z b):PyData.strOk z=true:=by
 unfold PyData.strOk
 rw [Array.all_eq_true']
 intro c hc
 have hc:c∈en b:=by rw [←h.1]; exact Array.mem_toList_iff.mpr hc
 obtain ⟨d,_,rfl⟩:=List.mem_map.mp hc
 have:=@sg_lt d.toNat
 exact decide_eq_true (by omega)
theorem dp_strs{K:PySem.W.Frag}{H:Hp}:∀ (zs:List Str),DpAll K H (zs.map V.str) (zs.map PyData.str)
 | []=>.nil
 | z::zs=>.cons (.str z) (dp_strs zs)
theorem lay_strs:∀ {zs:List Str} {bs:List Rung.Bytes},Paired SB zs bs->PyData.canLayAll0 (zs.map PyData.str)=true∧PyData.depthAll (zs.map PyData.str)=0
 | _,_,.nil=>⟨rfl,rfl⟩
 | _,_,.cons (a:=z) (l₁:=zs) r t=>by
  obtain ⟨h1,h2⟩:=lay_strs t
  have h3:PyData.canLay0 (.str z)=true:=sb_ok r
  constructor
  ·show (PyData.canLay0 (.str z)&&PyData.canLayAll0 (zs.map PyData.str))=true
   rw [h1,h3]; rfl
  ·show max 0 (PyData.depthAll (zs.map PyData.str))=0
   rw [h2]; rfl
theorem eq_nil{K:PySem.W.Frag}{H:Hp}{a p:Addr}{bs:List Rung.Bytes}{Q:VK}(h:SqS H a bs)(hp:H p=some (.lst []))(k:Q (.bl bs.isEmpty) H):rEqD K (.ref a) (.ref p) H Q:=by
 obtain ⟨zs,h1,h2⟩:=h
 obtain ⟨l1,l2⟩:=lay_strs h2
 refine ⟨.list (zs.map PyData.str),.list [],.lst (SqL.of h1) (dp_strs zs),.lst (SqL.of hp) .nil,?_,rfl,?_⟩
 ·show (PyData.canLayAll0 (zs.map PyData.str)&&decide (PyData.depthAll (zs.map PyData.str)+1≤64))=true
  rw [l1,l2]; rfl
 ·have e:PyData.eqv (.list (zs.map PyData.str)) (.list [])=bs.isEmpty:=by
   cases h2<;>rfl
  rw [e]
  exact k
section
variable {P:Program} {w:World} {K:PySem.W.Frag} {mg:Str->Option Value} {base:Heap} {CL:Addr}
def spDelays:Sp:=fun vs H Q _=>∃ (a:Addr) (bs:List Rung.Bytes),vs=[.ref a]∧SqS H a bs∧∀ H':Hp,Same H H'->Q (.bl (Rung.delays bs).isSome) H'
theorem scDelays:FnScope ["parts","rest","word"] ["parts"] (defScope sDelays):=⟨rfl,rfl,rfl,by decide +kernel,rfl,by decide +kernel,by decide +kernel⟩
theorem ok_delays{f fT:Addr}{fd fdT:FuncData}(F:Fun K "are_delays" "are_delays" sDelays f fd)(T:TxR K mg CL)(CT:Cal P w K mg base "is_ticks" ["part"] spIsTicks 2 fT fdT):FnOk P w K mg base CX0 3 f fd ["parts"] spDelays:=by
 refine F.ok scDelays (fun vs H Q E h=>?_) (fun cdv A outer s H vs Q E hr h=>?_)
 ·obtain ⟨a,bs,rfl,_⟩:=h
  rfl
 ·obtain ⟨a,bs,rfl,hS,k⟩:=h
  have hr2:Room 2 _:=hr.mono (by decide)
  refine ⟨_,pss_cons (ps_set (i:=1) scDelays.nd rfl (Or.inl rfl) (pv 0))
   (pss_cons (ps_for PassesOwn.never rfl (pi_tup (pe_tup (pa_cons pe_str (pa_cons pe_str pa_nil)))) (pg_name (i:=2) scDelays.nd rfl (Or.inl rfl))
    (pss_one (ps_if (PW.pt (pw_and (pt_cmpR op_ge (pe_callB call_len_seq (by rfl) T.len PySem.boot_len (pa_cons (pv 1) pa_nil)) pe_int (nomark _))
      (pw_and (pt_cmpR op_eq (pe_ix ix_list (pv 1) pe_int (fun _ _=>rfl)) (pv 2) (nomark _))
       (pw_and1 (pt_truth (pe_call CT.ok hr2 rfl CT.m CT.kp CT.b .nil pass0 (pa_cons (pe_ix ix_list (pv 1) pe_int (fun _ _=>rfl)) pa_nil)) (fun _=>rfl))))))
     (pss_one (ps_set (i:=1) scDelays.nd rfl (Or.inl rfl) (pe_slice sl_list (pv 1) (po_some pe_int) po_none))) pss_nil)))
   (pss_one (ps_ret (pe_cmpR (op_eqD hr.units) (pv 1) (pe_lst pa_nil) (nomark _))))),?_⟩
  refine ⟨_,rfl,(by show 2≤sizeLine; decide),fun q hq=>?_⟩
  have S0:Same H (upd H q (.tup [.str "up",.str "down"])):=Same.new hq
  have hq':upd H q (.tup [.str "up",.str "down"]) q=some (.tup [.str "up",.str "down"]):=upd_same
  generalize upd H q (.tup [.str "up",.str "down"])=H0 at *
  let dl:Nat->List Rung.Bytes:=fun i=>match i with
   | 0=>bs
   | 1=>rem1 (Rung.ascii "up") bs
   | _=>rem1 (Rung.ascii "down") (rem1 (Rung.ascii "up") bs)
  refine ⟨q,rfl,⟨_,SqT.of hq'⟩,for_tup (xs:=[.str "up",.str "down"]) (fun i σ H'=>∃ (a':Addr) (v2:Option V),σ=[some (.ref a),some (.ref a'),v2]∧Same H H'∧Same H0 H'∧SqS H' a' (dl i)) ?_ ?_ ?_ ?_⟩
  ·exact ⟨a,none,rfl,S0,Same.refl _,hS.same S0⟩
  ·rintro i σ H' hi ⟨a',v2,rfl,S,S',_⟩
   exact SqT.of (S' _ _ hq')
  ·rintro i x σ H' hx ⟨a',v2,rfl,S,S',hS'⟩
   obtain ⟨wd,ew,hw,hrem⟩:∃ wd:Rung.Bytes,(∃ z:Str,x=.str z∧tl z=wd.map UInt8.toNat)∧(∀ c∈wd,plainN c.toNat)∧dl (i+1)=rem1 wd (dl i):=by
    match i,hx with
    | 0,hx =>
     have:V.str "up"=x:=by simpa using hx
     subst this
     exact ⟨Rung.ascii "up",⟨_,rfl,by rw [tl_ofString,asc_up]; rfl⟩,by rw [asc_up]; intro c hc; simp at hc; rcases hc with rfl | rfl<;>exact .inr ⟨by decide,by decide⟩,rfl⟩
    | 1,hx =>
     have:V.str "down"=x:=by simpa using hx
     subst this
     exact ⟨Rung.ascii "down",⟨_,rfl,by rw [tl_ofString,asc_down]; rfl⟩,by rw [asc_down]; intro c hc; simp at hc; rcases hc with rfl | rfl | rfl | rfl<;>exact .inr ⟨by decide,by decide⟩,rfl⟩
    | i+2,hx=>simp at hx
   obtain ⟨z,rfl,ez⟩:=ew
   rw [hrem]
   generalize dl i=cur at *
   obtain ⟨zs,hz1,hz2⟩:=hS'
   have hl:=Pd.len hz2
   match zs,cur,hz2,hl,hz1 with
   | [],[],_,_,hz1 =>
    refine ⟨_,rfl,a',_,rfl,.inl (SqL.of hz1),_,_,rfl,rfl,_,rfl,?_⟩
    exact ⟨_,_,rfl,S,S',_,hz1,.nil⟩
   | [z1],[b1],hz2,_,hz1 =>
    refine ⟨_,rfl,a',_,rfl,.inl (SqL.of hz1),_,_,rfl,rfl,_,rfl,?_⟩
    exact ⟨_,_,rfl,S,S',_,hz1,hz2⟩
   | z1::z2::zr,b1::b2::br,hz2,_,hz1 =>
    have r1:SB z1 b1:=by cases hz2; assumption
    have r2:SB z2 b2:=by
     cases hz2 with
     | cons _ t=>cases t; assumption
    refine ⟨_,rfl,a',_,rfl,.inl (SqL.of hz1),_,_,rfl,rfl,_,rfl,?_⟩
    rw [decide_eq_true (by simp; omega)]
    refine ⟨_,rfl,a',_,_,_,rfl,rfl,SqL.of hz1,atI_nat (j:=0) rfl,_,rfl,rfl,_,rfl,?_⟩
    rw [str_dec r1 ez hw]
    by_cases e1:b1=wd
    ·rw [decide_eq_true e1]
     refine ⟨_,rfl,a',_,_,_,rfl,rfl,SqL.of hz1,atI_nat (j:=1) rfl,z2,b2,rfl,r2,fun H2 S2=>⟨_,rfl,?_⟩⟩
     cases e2:(Rung.number 1 65535 b2).isSome with
     | false =>
      rw [show rem1 wd (b1::b2::br)=b1::b2::br by rw [rem1_2,if_neg (by simp [e2])]]
      exact ⟨_,_,rfl,S.trans S2,S'.trans S2,_,S2 _ _ hz1,hz2⟩
     | true =>
      rw [show rem1 wd (b1::b2::br)=br by rw [rem1_2,if_pos ⟨e1,e2⟩]]
      refine ⟨_,rfl,_,rfl,a',_,rfl,SqL.of (S2 _ _ hz1),fun p hp=>?_⟩
      refine ⟨p,_,rfl,(S.trans S2).trans (Same.new hp),(S'.trans S2).trans (Same.new hp),zr,?_,?_⟩
      ·rw [upd_same]
       exact congrArg (fun q=>some (HO.lst q)) (cut_from _ 2)
      ·cases hz2 with
       | cons _ t=>cases t; assumption
    ·rw [decide_eq_false e1,show rem1 wd (b1::b2::br)=b1::b2::br by rw [rem1_2,if_neg (fun q=>e1 q.1)]]
     exact ⟨_,_,rfl,S,S',_,hz1,hz2⟩
  ·rintro σ H' ⟨a',v2,rfl,S,S',hS'⟩
   refine ⟨_,rfl,Nat.zero_le _,fun p hp=>?_⟩
   have S2:Same H' (upd H' p (.lst [])):=Same.new hp
   refine eq_nil (hS'.same S2) upd_same ?_
   have e:(dl 2).isEmpty=(Rung.delays bs).isSome:=(delays_eq bs).symm
   show Q (.bl (dl 2).isEmpty) _
   rw [e]
   exact k _ (S.trans S2)
def isPlaceB:List Rung.Bytes->Bool
 | [x,n]=>decide (x=Rung.ascii "at")&&(Rung.number 0 63 n).isSome
 | _=>false
def spIsPlace:Sp:=fun vs H Q _=>∃ (a:Addr) (bs:List Rung.Bytes),vs=[.ref a]∧SqS H a bs∧∀ H':Hp,Same H H'->Q (.bl (isPlaceB bs)) H'
theorem scIsPlace:FnScope ["parts"] ["parts"] (defScope sIsPlace):=⟨rfl,rfl,rfl,by decide +kernel,rfl,by decide +kernel,by decide +kernel⟩
theorem isPlace_len{bs:List Rung.Bytes}(h:bs.length≠2):isPlaceB bs=false:=by
 match bs,h with
 | [],_=>rfl
 | [_],_=>rfl
 | [_,_],h=>exact (h rfl).elim
 | _::_::_::_,_=>rfl
theorem plain_at:∀ c∈Rung.ascii "at",plainN c.toNat:=by rw [asc_at]; intro c hc; simp at hc; rcases hc with rfl | rfl<;>exact .inr ⟨by decide,by decide⟩
theorem tl_at:tl "at"=(Rung.ascii "at").map UInt8.toNat:=by rw [tl_ofString,asc_at]; rfl
theorem oV_some(o:Option Nat):(!decide (oV o=V.non))=o.isSome:=by cases o<;>rfl
theorem ok_isPlace{f fN:Addr}{fd fdN:FuncData}(F:Fun K "is_place" "is_place" sIsPlace f fd)(T:TxR K mg CL)(CN:Cal P w K mg base "read_node" ["part"] spReadNode 2 fN fdN):FnOk P w K mg base CX0 3 f fd ["parts"] spIsPlace:=by
 refine F.ok scIsPlace (fun vs H Q E h=>?_) (fun cdv A outer s H vs Q E hr h=>?_)
 ·obtain ⟨a,bs,rfl,_⟩:=h
  rfl
 ·obtain ⟨a,bs,rfl,⟨zs,hz1,hz2⟩,k⟩:=h
  have hr2:Room 2 _:=hr.mono (by decide)
  refine ⟨_,pss_one (ps_ret (pe_and (pe_cmpR op_eq (pe_callB call_len_seq (by rfl) T.len PySem.boot_len (pa_cons (pv 0) pa_nil)) pe_int (nomark _))
   (pe_and (pe_cmpR op_eq (pe_ix ix_list (pv 0) pe_int (fun _ _=>rfl)) pe_str (nomark _))
    (pe_one (pe_cmp (pc_notN (pe_call CN.ok hr2 rfl CN.m CN.kp CN.b .nil pass0 (pa_cons (pe_ix ix_list (pv 0) pe_int (fun _ _=>rfl)) pa_nil)))))))),?_⟩
  refine ⟨_,rfl,a,_,rfl,.inl (SqL.of hz1),rfl,_,rfl,?_⟩
  have hl:=Pd.len hz2
  rw [List.length_map,hl]
  by_cases h2:bs.length=2
  ·rw [h2,decide_eq_true (show V.int ((2:Nat):Int)=V.int 2 from rfl)]
   obtain ⟨b1,b2,rfl⟩:∃ b1 b2,bs=[b1,b2]:=by
    match bs,h2 with
    | [b1,b2],_=>exact ⟨b1,b2,rfl⟩
   cases hz2 with
   | @cons z1 zs' _ _ r1 t =>
    cases t with
    | @cons z2 _ _ _ r2 t =>
     cases t
     refine ⟨_,rfl,a,_,_,_,rfl,rfl,SqL.of hz1,atI_nat (j:=0) rfl,rfl,_,rfl,?_⟩
     rw [str_dec r1 tl_at plain_at]
     have k:∀ H':Hp,Same H H'->Q (.bl (decide (b1=Rung.ascii "at")&&(Rung.number 0 63 b2).isSome)) H':=k
     by_cases e:b1=Rung.ascii "at"
     ·rw [decide_eq_true e] at k ⊢
      refine ⟨_,rfl,a,_,_,_,rfl,rfl,SqL.of hz1,atI_nat (j:=1) rfl,z2,b2,rfl,r2,fun H2 S2=>?_⟩
      show Q (.bl (!decide (oV (Rung.number 0 63 b2)=V.non))) H2
      rw [oV_some]
      exact k H2 S2
     ·rw [decide_eq_false e] at k ⊢
      exact k H (Same.refl H)
  ·rw [decide_eq_false (by intro z; injection z with z; omega)]
   rw [isPlace_len h2] at k
   exact k H (Same.refl H)
end
end Cw
namespace Cw
open PySem PySem.Spec PyProof.Rows L2 CwG CwR TL
structure FunD(K:PySem.W.Frag)(x qual:Str)(st:Stmt)(dV:Value)(f:Addr)(fd:FuncData):Prop where
 ex:∃ (oc:Value) (od:Option Addr) (kV doc pm:Value) (an:Option Addr) (cdv ct:Value) (osl:Array (Option Value)),
  fd=PySem.W.fnOf x qual (defArgs st) (defBody st) (defScope st) dV kV doc pm an cdv ct∧K.lookup f=some ⟨oc,od,.func fd,osl⟩∧PySem.W.codeIn K cdv qual=true
 kp:PySem.W.keepIn K (.ref f)=true
theorem FunD.ok{P:Program}{w:World}{K:PySem.W.Frag}{mg:Str->Option Value}{base:Heap}{x qual:Str}{st:Stmt}{dV:Value}{f:Addr}{fd:FuncData}{N ps:List Str}{k:Nat}{sp:Sp}(F:FunD K x qual st dV f fd)(S:FnScope N ps (defScope st))(len:∀ vs H Q E,sp vs H Q E->vs.length=ps.length)
  (hbody:∀ (cdv:Value) (A:Around) (outer:List Env) (s:Shared) (H:Hp) (vs:List V) (Q:VK) (E:XK),Room k (A.deeper (envOfC qual (defScope st) s.heap.objs.size f cdv))->sp vs H Q E ->
   ∃ t,PSs (cxOf CX0 P w K mg base N qual (defScope st) f cdv A outer s H E).nox (defBody st) t∧t { nx:=fun _ H'=>Q .non H',rt:=Q } (L2.start N vs) H):FnOk P w K mg base CX0 (k+1) f fd ps sp:=by
 obtain ⟨oc,od,kV,doc,pm,an,cdv,ct,osl,rfl,lk,hcd⟩:=F.ex
 refine fn_of lk hcd S len fun A outer s H vs Q E hr hsp=>?_
 obtain ⟨t,h,q⟩:=hbody cdv A outer s H vs Q E hr hsp
 exact ⟨t,h.nox,q⟩
def sN(x:Rung.Name):Str:=⟨(x.map UInt8.toNat).toArray⟩
def lnF(r:Int)(z:Str)(lo hi:Int)(c:Bool):List (Str×V):=[("rank",.int r),("name",.str z),("low",.int lo),("high",.int hi),("closer",.bl c)]
theorem ln_rank(r:Int)(z:Str)(lo hi:Int)(c:Bool):(lnF r z lo hi c).lookup ("rank":Str)=some (.int r):=rfl
theorem ln_name(r:Int)(z:Str)(lo hi:Int)(c:Bool):(lnF r z lo hi c).lookup ("name":Str)=some (.str z):=rfl
theorem ln_low(r:Int)(z:Str)(lo hi:Int)(c:Bool):(lnF r z lo hi c).lookup ("low":Str)=some (.int lo):=rfl
theorem ln_high(r:Int)(z:Str)(lo hi:Int)(c:Bool):(lnF r z lo hi c).lookup ("high":Str)=some (.int hi):=rfl
theorem ln_clo(r:Int)(z:Str)(lo hi:Int)(c:Bool):(lnF r z lo hi c).lookup ("closer":Str)=some (.bl c):=rfl
def LnRaw(CL:Addr)(H:Hp)(a:Addr)(r:Int)(z:Str)(lo hi:Int)(c:Bool):Prop:=∃ dx,H a=some (.ins CL dx (lnF r z lo hi c))
def LineAt(CL:Addr)(H:Hp)(a:Addr)(ln:Rung.Line):Prop:=LnRaw CL H a ln.sort (sN (nmOf ln)) (loOf ln) (hiOf ln) (cloOf ln)
theorem LineAt.same{CL:Addr}{H H':Hp}(s:Same H H'){a:Addr}{ln:Rung.Line}(h:LineAt CL H a ln):LineAt CL H' a ln:=let ⟨dx,e⟩:=h; ⟨dx,s _ _ e⟩
def RetL(CL:Addr)(o:Option Rung.Line)(H:Hp)(Q:VK):Prop:=∀ H':Hp,Same H H'->(o=none->Q .non H')∧∀ (ln:Rung.Line) (a:Addr),o=some ln->LineAt CL H' a ln->Q (.ref a) H'
section
variable {P:Program} {w:World} {K:PySem.W.Frag} {mg:Str->Option Value} {base:Heap} {CL:Addr}
def spLineI(CL:Addr):Sp:=fun vs H Q _=>∃ (p dx:Addr) (r:Int) (z:Str) (lo hi:Int) (c:Bool),vs=[.ref p,.int r,.str z,.int lo,.int hi,.bl c]∧H p=some (.ins CL dx [])∧∀ H':Hp,LnRaw CL H' p r z lo hi c->(∀ b o,H b=some o->b≠p->H' b=some o)->Q .non H'
abbrev psLine:List Str:=["self","rank","name","low","high","closer"]
theorem scLineI:FnScope psLine psLine (defScope sLineI):=⟨rfl,rfl,rfl,by decide +kernel,rfl,by decide +kernel,by decide +kernel⟩
theorem ok_lineI{f:Addr}{fd:FuncData}{dV:Value}(F:FunD K "__init__" "Line.__init__" sLineI dV f fd)(T:TxR K mg CL):FnOk P w K mg base CX0 1 f fd psLine (spLineI CL):=by
 refine F.ok scLineI (fun vs H Q E h=>?_) (fun cdv A outer s H vs Q E hr h=>?_)
 ·obtain ⟨p,dx,r,z,lo,hi,c,rfl,_⟩:=h
  rfl
 ·obtain ⟨p,dx,r,z,lo,hi,c,rfl,hp,k⟩:=h
  refine ⟨_,pss_cons (ps_fld (pv 0) (pv 1) rfl) (pss_cons (ps_fld (pv 0) (pv 2) rfl) (pss_cons (ps_fld (pv 0) (pv 3) rfl) (pss_cons (ps_fld (pv 0) (pv 4) rfl) (pss_one (ps_fld (pv 0) (pv 5) rfl))))),?_⟩
  refine ⟨_,rfl,_,rfl,p,CL,dx,[],rfl,hp,T.cl,T.nRank,(by show 0 < 1000; decide),?_⟩
  refine ⟨_,rfl,_,rfl,p,CL,dx,_,rfl,upd_same,T.cl,T.nName,(by show 1 < 1000; decide),?_⟩
  refine ⟨_,rfl,_,rfl,p,CL,dx,_,rfl,upd_same,T.cl,T.nLow,(by show 2 < 1000; decide),?_⟩
  refine ⟨_,rfl,_,rfl,p,CL,dx,_,rfl,upd_same,T.cl,T.nHigh,(by show 3 < 1000; decide),?_⟩
  refine ⟨_,rfl,_,rfl,p,CL,dx,_,rfl,upd_same,T.cl,T.nClo,(by show 4 < 1000; decide),?_⟩
  exact k _ ⟨dx,upd_same⟩ fun b o e hb=>by rw [upd_ne hb,upd_ne hb,upd_ne hb,upd_ne hb,upd_ne hb]; exact e
def Dfl(K:PySem.W.Frag)(d:Addr)(t0 t1:Tok):Prop:=∃ (o:Obj) (n:Nat),K.lookup d=some o∧o.data=.seq #[.int 0 t0,.int 0 t1,.bool false] n
theorem binds_line3{f d:Addr}{fd:FuncData}{t0 t1:Tok}(F:FunD K "__init__" "Line.__init__" sLineI (.ref d) f fd)(D:Dfl K d t0 t1):Binds K fd psLine [.int 0 t0,.int 0 t1,.bool false]:=by
 obtain ⟨oc,od,kV,doc,pm,an,cdv,ct,osl,rfl,lk,hcd⟩:=F.ex
 obtain ⟨o,n,h1,h2⟩:=D
 intro s us KX hl
 have hl:us.length=3:=by
  rw [List.length_append] at hl
  have e:us.length+3=6:=hl
  omega
 match us,hl with
 | [a,b,c],_=>exact BindsTo.of_defaults rfl (KX _ _ h1) h2 rfl rfl
theorem binds_line6{f d:Addr}{fd:FuncData}{t0 t1:Tok}(F:FunD K "__init__" "Line.__init__" sLineI (.ref d) f fd)(D:Dfl K d t0 t1):Binds K fd psLine []:=by
 obtain ⟨oc,od,kV,doc,pm,an,cdv,ct,osl,rfl,lk,hcd⟩:=F.ex
 obtain ⟨o,n,h1,h2⟩:=D
 intro s us KX hl
 rw [List.append_nil] at hl ⊢
 match us,hl with
 | [a,b,c,d,e,g],_=>exact BindsTo.of_defaults rfl (KX _ _ h1) h2 rfl rfl
structure MkL(P:Program)(w:World)(K:PySem.W.Frag)(mg:Str->Option Value)(base:Heap)(CL f:Addr)(fd:FuncData)(t0 t1:Tok):Prop where
 M:Mk K CL f
 ok:FnOk P w K mg base CX0 1 f fd psLine (spLineI CL)
 b3:Binds K fd psLine [.int 0 t0,.int 0 t1,.bool false]
 b6:Binds K fd psLine []
theorem dvals(t0 t1:Tok):Vals [.int 0,.int 0,.bl false] [.int 0 t0,.int 0 t1,.bool false]:=.cons ⟨_,rfl⟩ (.cons ⟨_,rfl⟩ (.cons rfl .nil))
def rdCon(clo:Bool)(x:Rung.Name)(bs:List Rung.Bytes):Option Rung.Line:=match bs with
 | [n,m]=>(match Rung.number 0 63 n,Rung.number 0 63 m with
  | some a,some b=>if a < b then some (.contact clo x a b) else none
  | _,_=>none)
 | _=>none
theorem rdCon_len{clo:Bool}{x:Rung.Name}{bs:List Rung.Bytes}(h:bs.length≠2):rdCon clo x bs=none:=by
 match bs,h with
 | [],_=>rfl
 | [_],_=>rfl
 | [_,_],h=>exact (h rfl).elim
 | _::_::_::_,_=>rfl
def spReadCon(CL:Addr):Sp:=fun vs H Q _=>∃ (x:Rung.Name) (clo:Bool) (a:Addr) (bs:List Rung.Bytes),vs=[.str (sN x),.bl clo,.ref a]∧SqS H a bs∧RetL CL (rdCon clo x bs) H Q
theorem scReadCon:FnScope ["name","closer","parts","low","high"] ["name","closer","parts"] (defScope sReadCon):=⟨rfl,rfl,rfl,by decide +kernel,rfl,by decide +kernel,by decide +kernel⟩
theorem ok_readCon{f fN fI:Addr}{fd fdN fdI:FuncData}{t0 t1:Tok}(F:Fun K "read_contact" "read_contact" sReadCon f fd)(T:TxR K mg CL)(CN:Cal P w K mg base "read_node" ["part"] spReadNode 2 fN fdN)(ML:MkL P w K mg base CL fI fdI t0 t1) :
  FnOk P w K mg base CX0 3 f fd ["name","closer","parts"] (spReadCon CL):=by
 refine F.ok scReadCon (fun vs H Q E h=>?_) (fun cdv A outer s H vs Q E hr h=>?_)
 ·obtain ⟨x,clo,a,bs,rfl,_⟩:=h
  rfl
 ·obtain ⟨x,clo,a,bs,rfl,⟨zs,hz1,hz2⟩,k⟩:=h
  have hr2:Room 2 _:=hr.mono (by decide)
  refine ⟨_,pss_cons (ps_if (pt_cmpR op_ne (pe_callB call_len_seq (by rfl) T.len PySem.boot_len (pa_cons (pv 2) pa_nil)) pe_int (nomark _)) (pss_one (ps_ret pe_non)) pss_nil)
   (pss_cons (ps_set (i:=3) scReadCon.nd rfl (Or.inl rfl) (pe_call CN.ok hr2 rfl CN.m CN.kp CN.b .nil pass0 (pa_cons (pe_ix ix_list (pv 2) pe_int (fun _ _=>rfl)) pa_nil)))
   (pss_cons (ps_set (i:=4) scReadCon.nd rfl (Or.inl rfl) (pe_call CN.ok hr2 rfl CN.m CN.kp CN.b .nil pass0 (pa_cons (pe_ix ix_list (pv 2) pe_int (fun _ _=>rfl)) pa_nil)))
   (pss_cons (ps_if (PW.pt (pw_or (pt_cmp (pc_isN (pv 3))) (pw_or (pt_cmp (pc_isN (pv 4))) (pw_or1 (pt_cmpR op_ge (pv 3) (pv 4) (nomark _)))))) (pss_one (ps_ret pe_non)) pss_nil)
   (pss_one (ps_ret (pe_make ML.M ML.ok hr2 rfl T.mgL ML.b6 .nil pass0 (pa_cons (pe_gI rfl T.contacts) (pa_cons (pv 0) (pa_cons (pv 3) (pa_cons (pv 4) (pa_cons (pv 1) pa_nil))))))))))),?_⟩
  refine ⟨_,rfl,a,_,rfl,.inl (SqL.of hz1),rfl,_,rfl,?_⟩
  have hl:=Pd.len hz2
  rw [List.length_map,hl]
  by_cases h2:bs.length=2
  ·rw [h2,decide_eq_true (show V.int ((2:Nat):Int)=V.int 2 from rfl)]
   obtain ⟨b1,b2,rfl⟩:∃ b1 b2,bs=[b1,b2]:=by
    match bs,h2 with
    | [b1,b2],_=>exact ⟨b1,b2,rfl⟩
   cases hz2 with
   | @cons z1 zs' _ _ r1 t =>
    cases t with
    | @cons z2 _ _ _ r2 t =>
     cases t
     refine ⟨_,rfl,a,_,_,_,rfl,rfl,SqL.of hz1,atI_nat (j:=0) rfl,z1,b1,rfl,r1,fun H1 S1=>?_⟩
     refine ⟨_,rfl,a,_,_,_,rfl,rfl,SqL.of (S1 _ _ hz1),atI_nat (j:=1) rfl,z2,b2,rfl,r2,fun H2 S2=>?_⟩
     have S12:=S1.trans S2
     have er:rdCon clo x [b1,b2]=(match Rung.number 0 63 b1,Rung.number 0 63 b2 with
      | some a,some b=>if a < b then some (.contact clo x a b) else none
      | _,_=>none):=rfl
     cases e1:Rung.number 0 63 b1 with
     | none =>
      rw [e1] at er
      exact ⟨_,rfl,_,rfl,(k H2 S12).1 er⟩
     | some n1 =>
      cases e2:Rung.number 0 63 b2 with
      | none =>
       rw [e1,e2] at er
       exact ⟨_,rfl,_,rfl,_,rfl,_,rfl,(k H2 S12).1 er⟩
      | some n2 =>
       rw [e1,e2] at er
       refine ⟨_,rfl,_,rfl,_,rfl,_,rfl,_,rfl,_,rfl,_,_,rfl,rfl,_,rfl,?_⟩
       have er:rdCon clo x [b1,b2]=if n1 < n2 then some (.contact clo x n1 n2) else none:=er
       by_cases h:n1 < n2
       ·rw [if_pos h] at er
        rw [decide_eq_false (by omega)]
        refine ⟨_,rfl,_,rfl,_,rfl,_,rfl,fun y dy ny ndy ne=>?_⟩
        refine ⟨y,dy,3,sN x,n1,n2,clo,rfl,upd_same,fun H3 hy kp=>⟨rfl,?_⟩⟩
        exact (k H3 (S12.trans (Same.made ny ndy kp))).2 _ y er hy
       ·rw [if_neg h] at er
        rw [decide_eq_true (by omega)]
        exact (k H2 S12).1 er
  ·rw [decide_eq_false (by intro z; injection z with z; omega)]
   exact (k H (Same.refl H)).1 (rdCon_len h2)
end
end Cw
namespace Cw
open PySem PySem.Spec PyProof.Rows L2 CwG CwR TL
theorem spN_hit(s:Nat)(r:List Nat):spN s (s::r)=[]::spN s r:=by
 show (if s=s then []::spN s r else _)=_
 rw [if_pos rfl]
theorem spN_miss{s c:Nat}(r:List Nat)(h:c≠s):spN s (c::r)=match spN s r with
  | h::t=>(c::h)::t
  | []=>[[c]]:=by
 conv=>lhs; unfold spN
 rw [if_neg h]
 all_goals rfl
theorem spN_ne(s:Nat):∀ l,spN s l≠[]
 | []=>by simp [spN]
 | c::r=>by
  by_cases e:c=s
  ·subst e; rw [spN_hit]; simp
  ·rw [spN_miss r e]
   cases spN s r<;>simp
theorem spl_spN(s:Nat):∀ (l acc:List Nat),spl [s] 0 acc l=match spN s l with
  | h::t=>(acc++h)::t
  | []=>[acc]
 | [],acc=>by simp [spl_nil,spN]
 | c::r,acc=>by
  by_cases e:c=s
  ·subst e
   have hp:pre [c] (c::r)=true:=by simp [pre]
   rw [spl_hit hp,spN_hit]
   have ih:=spl_spN c r []
   have ne:=spN_ne c r
   show acc::spl [c] 0 [] r=_
   rw [ih]
   generalize spN c r=q at ne
   cases q with
   | nil=>exact absurd rfl ne
   | cons h t=>simp
  ·have hp:pre [s] (c::r)=false:=by
    have:¬ s=c:=Ne.symm e
    simp [pre,this,e]
   rw [spl_miss hp,spl_spN s r (acc++[c]),spN_miss r e]
   generalize spN s r=q
   cases q with
   | nil=>rfl
   | cons h t=>simp
theorem split_pieces{z y:Str}{b:Rung.Bytes}{c:UInt8}{s:Nat}(hz:SB z b)(hy:tl y=[s])(hk:y.cps.all (· < 256)=true)(hs:∀ x:UInt8,sg x.toNat=s↔x=c):Paired SB (Txt.split z y) (Rung.split c b):=by
 have e1:(Txt.split z y).map tl=(Rung.split c b).map en:=by
  rw [split_spl z y (by rw [hy]; simp) (kind_ok hk),hy,hz.1,spl_spN,spN_en hs]
  have:=split_ne c b
  cases q:Rung.split c b with
  | nil=>exact absurd q this
  | cons h t=>simp
 have len:∀ p∈Rung.split c b,p.length≤20000:=fun p hp=>Nat.le_trans (split_mem c b p hp) hz.2
 generalize Txt.split z y=zs at e1
 generalize Rung.split c b=bs at e1 len
 induction bs generalizing zs with
 | nil =>
  cases zs with
  | nil=>exact .nil
  | cons _ _=>simp at e1
 | cons p bs ih =>
  cases zs with
  | nil=>simp at e1
  | cons z1 zs =>
   simp only [List.map_cons,List.cons.injEq] at e1
   exact .cons ⟨e1.1,len p (List.mem_cons_self ..)⟩ (ih zs e1.2 fun q hq=>len q (List.mem_cons_of_mem _ hq))
theorem Pd.two{α β:Type}{F:α->β->Prop}:∀ {zs:List α} {b1 b2:β} {bs:List β},Paired F zs (b1::b2::bs)->∃ z1 z2 zr,zs=z1::z2::zr∧F z1 b1∧F z2 b2∧Paired F zr bs
 | _,_,_,_,.cons r1 (.cons r2 t)=>⟨_,_,_,rfl,r1,r2,t⟩
theorem name_str{z:Str}{x:Rung.Bytes}(h:SB z x)(hx:Rung.isName x=true):z=sN x:=by
 apply ext_tl
 rw [h.1,en_plain (name_plain hx)]
 rfl
theorem place_eq(bs:List Rung.Bytes):isPlaceB bs=plB bs:=by
 match bs with
 | []=>rfl
 | [_]=>rfl
 | [_,_]=>rfl
 | _::_::_::_=>rfl
theorem con_eq(c:Bool)(x:Rung.Name)(bs:List Rung.Bytes):rdCon c x bs=rdC c x bs:=by
 match bs with
 | []=>rfl
 | [_]=>rfl
 | [_,_]=>rfl
 | _::_::_::_=>rfl
theorem tl_in:tl "in"=(Rung.ascii "in").map UInt8.toNat:=by rw [tl_ofString,asc_in]; rfl
theorem tl_relay:tl "relay"=(Rung.ascii "relay").map UInt8.toNat:=by rw [tl_ofString,asc_relay]; rfl
theorem tl_lamp:tl "lamp"=(Rung.ascii "lamp").map UInt8.toNat:=by rw [tl_ofString,asc_lamp]; rfl
theorem tl_open:tl "open"=(Rung.ascii "open").map UInt8.toNat:=by rw [tl_ofString,asc_open]; rfl
theorem tl_close:tl "close"=(Rung.ascii "close").map UInt8.toNat:=by rw [tl_ofString,asc_close]; rfl
theorem pl_in:∀ c∈Rung.ascii "in",plainN c.toNat:=by rw [asc_in]; unfold plainN; decide
theorem pl_relay:∀ c∈Rung.ascii "relay",plainN c.toNat:=by rw [asc_relay]; unfold plainN; decide
theorem pl_lamp:∀ c∈Rung.ascii "lamp",plainN c.toNat:=by rw [asc_lamp]; unfold plainN; decide
theorem pl_open:∀ c∈Rung.ascii "open",plainN c.toNat:=by rw [asc_open]; unfold plainN; decide
theorem pl_close:∀ c∈Rung.ascii "close",plainN c.toNat:=by rw [asc_close]; unfold plainN; decide
theorem sg32(x:UInt8):sg x.toNat=32↔x=32:=by
 rw [sg_32]
 exact ⟨fun h=>UInt8.toNat_inj.mp h,fun h=>by rw [h]; rfl⟩
theorem sg10(x:UInt8):sg x.toNat=10↔x=10:=by
 rw [sg_10]
 exact ⟨fun h=>UInt8.toNat_inj.mp h,fun h=>by rw [h]; rfl⟩
section
variable {P:Program} {w:World} {K:PySem.W.Frag} {mg:Str->Option Value} {base:Heap} {CL:Addr}
def spReadLine(CL:Addr):Sp:=fun vs H Q _=>∃ (z:Str) (b:Rung.Bytes),vs=[.str z]∧SB z b∧RetL CL (Rung.lineIn b) H Q
theorem scReadLine:FnScope ["text","parts","word","name","rest"] ["text"] (defScope sReadLine):=⟨rfl,rfl,rfl,by decide +kernel,rfl,by decide +kernel,by decide +kernel⟩
theorem ok_readLine{f fN fP fD fC fI:Addr}{fd fdN fdP fdD fdC fdI:FuncData}{t0 t1:Tok}(F:Fun K "read_line" "read_line" sReadLine f fd)(T:TxR K mg CL)(CN:Cal P w K mg base "is_name" ["part"] spIsName 1 fN fdN)(CP:Cal P w K mg base "is_place" ["parts"] spIsPlace 3 fP fdP)
  (CD:Cal P w K mg base "are_delays" ["parts"] spDelays 3 fD fdD) (CC:Cal P w K mg base "read_contact" ["name","closer","parts"] (spReadCon CL) 3 fC fdC) (ML:MkL P w K mg base CL fI fdI t0 t1) :
  FnOk P w K mg base CX0 4 f fd ["text"] (spReadLine CL):=by
 refine F.ok scReadLine (fun vs H Q E h=>?_) (fun cdv A outer s H vs Q E hr h=>?_)
 ·obtain ⟨z,b,rfl,_⟩:=h
  rfl
 ·obtain ⟨z,b,rfl,hz,k⟩:=h
  have hr1:Room 1 _:=hr.mono (by decide)
  have hr2:Room 2 _:=hr.mono (by decide)
  refine ⟨_,pss_cons (ps_set (i:=1) scReadLine.nd rfl (Or.inl rfl) (pe_split (pv 0) pe_str))
   (pss_cons (ps_if (PW.pt (pw_or (pt_cmpR op_lt (pe_callB call_len_seq (by rfl) T.len PySem.boot_len (pa_cons (pv 1) pa_nil)) pe_int (nomark _)) (pw_or1 (pt_not (pt_truth (pe_call CN.ok hr1 rfl CN.m CN.kp CN.b .nil pass0 (pa_cons (pe_ix ix_list (pv 1) pe_int (fun _ _=>rfl)) pa_nil)) (fun _=>rfl)))))) (pss_one (ps_ret pe_non)) pss_nil)
   (pss_cons (ps_set (i:=2) scReadLine.nd rfl (Or.inl rfl) (pe_ix ix_list (pv 1) pe_int (fun _ _=>rfl)))
   (pss_cons (ps_set (i:=3) scReadLine.nd rfl (Or.inl rfl) (pe_ix ix_list (pv 1) pe_int (fun _ _=>rfl)))
   (pss_cons (ps_set (i:=4) scReadLine.nd rfl (Or.inl rfl) (pe_slice sl_list (pv 1) (po_some pe_int) po_none))
   (pss_cons (ps_if (PW.pt (pw_and (pt_cmpR op_eq (pv 2) pe_str (nomark _)) (pw_and1 (pt_cmpR (op_eqD hr.units) (pv 4) (pe_lst pa_nil) (nomark _))))) (pss_one (ps_ret (pe_make ML.M ML.ok hr2 rfl T.mgL ML.b3 (dvals t0 t1) pass0 (pa_cons (pe_gI rfl T.inputs) (pa_cons (pv 3) pa_nil))))) pss_nil)
   (pss_cons (ps_if (PW.pt (pw_and (pt_cmpR op_eq (pv 2) pe_str (nomark _)) (pw_and (pt_truth (pe_call CP.ok hr rfl CP.m CP.kp CP.b .nil pass0 (pa_cons (pe_slice sl_list (pv 4) po_none (po_some pe_int)) pa_nil)) (fun _=>rfl)) (pw_and1 (pt_truth (pe_call CD.ok hr rfl CD.m CD.kp CD.b .nil pass0 (pa_cons (pe_slice sl_list (pv 4) (po_some pe_int) po_none) pa_nil)) (fun _=>rfl)))))) (pss_one (ps_ret (pe_make ML.M ML.ok hr2 rfl T.mgL ML.b3 (dvals t0 t1) pass0 (pa_cons (pe_gI rfl T.relays) (pa_cons (pv 3) pa_nil))))) pss_nil)
   (pss_cons (ps_if (PW.pt (pw_and (pt_cmpR op_eq (pv 2) pe_str (nomark _)) (pw_and1 (pt_truth (pe_call CP.ok hr rfl CP.m CP.kp CP.b .nil pass0 (pa_cons (pv 4) pa_nil)) (fun _=>rfl))))) (pss_one (ps_ret (pe_make ML.M ML.ok hr2 rfl T.mgL ML.b3 (dvals t0 t1) pass0 (pa_cons (pe_gI rfl T.lamps) (pa_cons (pv 3) pa_nil))))) pss_nil)
   (pss_cons (ps_if (PW.pt (pw_or (pt_cmpR op_eq (pv 2) pe_str (nomark _)) (pw_or1 (pt_cmpR op_eq (pv 2) pe_str (nomark _))))) (pss_one (ps_ret (pe_call CC.ok hr rfl CC.m CC.kp CC.b .nil pass0 (pa_cons (pv 3) (pa_cons (pe_cmpR op_eq (pv 2) pe_str (nomark _)) (pa_cons (pv 4) pa_nil)))))) pss_nil)
   (pss_one (ps_ret pe_non)))))))))),?_⟩
  have lz:z.length+2≤sizeLine:=by have:=hz.len; have:=hz.2; have:=line_big; omega
  refine ⟨_,rfl,⟨_,rfl⟩,_,_,rfl,rfl,rfl,lz,fun p hp=>?_⟩
  have S0:Same H (upd H p (.lst ((Txt.split z " ").map V.str))):=Same.new hp
  have hp0:upd H p (.lst ((Txt.split z " ").map V.str)) p=some (.lst ((Txt.split z " ").map V.str)):=upd_same
  have pp:Paired SB (Txt.split z " ") (Rung.split 32 b):=split_pieces hz (by rw [tl_ofString]; rfl) (by decide +kernel) sg32
  generalize upd H p (.lst ((Txt.split z " ").map V.str))=H0 at *
  generalize Txt.split z " "=zs at *
  have hl:=Pd.len pp
  have kn:∀ H',Same H0 H'->Rung.lineIn b=none->Q .non H':=fun H' S e=>(k H' (S0.trans S)).1 e
  have lenz:((zs.map V.str).length:Int)=((Rung.split 32 b).length:Nat):=by rw [List.length_map,hl]
  refine ⟨_,rfl,p,_,rfl,.inl (SqL.of hp0),_,_,rfl,rfl,_,rfl,?_⟩
  rw [lenz]
  by_cases h2:(Rung.split 32 b).length < 2
  ·rw [decide_eq_true (show ((Rung.split 32 b).length:Int) < 2 by omega)]
   exact kn H0 (Same.refl _) (line_short h2)
  rw [decide_eq_false (show ¬ ((Rung.split 32 b).length:Int) < 2 by omega)]
  obtain ⟨wd,x,r,hb⟩:∃ wd x r,Rung.split 32 b=wd::x::r:=by
   match hq:Rung.split 32 b with
   | []=>rw [hq] at h2; exact absurd (by decide) h2
   | [_]=>rw [hq] at h2; exact absurd (by simp) h2
   | wd::x::r=>exact ⟨wd,x,r,rfl⟩
  rw [hb] at pp
  obtain ⟨zw,zx,zr,ezs,rw0,rx,rr⟩:=Pd.two pp
  subst ezs
  ·refine ⟨_,rfl,p,_,_,_,rfl,rfl,SqL.of hp0,atI_nat (j:=1) rfl,zx,x,rfl,rx,fun H1 S1=>⟨_,rfl,?_⟩⟩
   cases hx:Rung.isName x with
   | false=>exact kn H1 S1 (line_noname hb hx)
   | true =>
    have ex:=name_str rx hx
    subst ex
    have hp1:=S1 _ _ hp0
    refine ⟨_,rfl,p,_,_,_,rfl,rfl,SqL.of hp1,atI_nat (j:=0) rfl,_,rfl,p,_,_,_,rfl,rfl,SqL.of hp1,atI_nat (j:=1) rfl,_,rfl,_,rfl,p,_,rfl,SqL.of hp1,fun q hq=>?_⟩
    have S2:Same H1 (upd H1 q (.lst (cutV ((zw::sN x::zr).map V.str) (some ((2:Nat):Int)) none))):=Same.new hq
    have hr0:SqS (upd H1 q (.lst (cutV ((zw::sN x::zr).map V.str) (some ((2:Nat):Int)) none))) q r:=⟨zr,by rw [upd_same,cut_from]; rfl,rr⟩
    have S02:Same H0 (upd H1 q (.lst (cutV ((zw::sN x::zr).map V.str) (some ((2:Nat):Int)) none))):=S1.trans S2
    generalize upd H1 q (.lst (cutV ((zw::sN x::zr).map V.str) (some ((2:Nat):Int)) none))=H2 at *
    have kn2:∀ H',Same H2 H'->Rung.lineIn b=none->Q .non H':=fun H' S e=>kn H' (S02.trans S) e
    have kl2:∀ H' ln a,Same H2 H'->Rung.lineIn b=some ln->LineAt CL H' a ln->Q (.ref a) H':=fun H' ln a S e h=>(k H' ((S0.trans S02).trans S)).2 ln a e h
    have mk:∀ (H':Hp) (σ:Nat) (ln:Rung.Line),Same H2 H'->Rung.lineIn b=some ln->ln.sort=σ->Is σ x (some ln)->∀ y dy,H' y=none->H' dy=none->dy≠y ->
      spLineI CL (.ref y::([.int σ,.str (sN x)]++[.int 0,.int 0,.bl false])) (upd (upd H' dy (.own y)) y (.ins CL dy [])) (fun v H3=>v=.non∧Q (.ref y) H3) E:=fun H' σ ln S e es hi y dy ny ndy ne=>by
     obtain ⟨i1,i2,i3,i4,i5⟩:=hi ln rfl
     refine ⟨y,dy,σ,sN x,0,0,false,rfl,upd_same,fun H3 hy kp=>⟨rfl,?_⟩⟩
     refine kl2 H3 ln y (S.trans (Same.made ny ndy kp)) e ?_
     unfold LineAt
     rw [i1,i2,i3,i4,i5]
     exact hy
    refine ⟨_,rfl,rfl,_,rfl,?_⟩
    rw [str_dec rw0 tl_in pl_in]
    by_cases w1:wd=Rung.ascii "in"
    ·subst w1
     have el:=line_in hb hx
     rw [decide_eq_true rfl]
     refine ⟨_,rfl,Nat.zero_le _,fun n hn=>eq_nil (hr0.same (Same.new hn)) upd_same ⟨_,rfl,?_⟩⟩
     have S3:Same H2 (upd H2 n (.lst [])):=Same.new hn
     cases r with
     | nil =>
      refine ⟨_,rfl,fun y dy ny ndy ne=>?_⟩
      exact mk _ 0 (.input x) S3 (by rw [el,if_pos rfl]) rfl (fun l e=>by injection e with e; subst e; exact ⟨rfl,rfl,rfl,rfl,rfl⟩) y dy ny ndy ne
     | cons r1 r =>
      have el:Rung.lineIn b=none:=by rw [el,if_neg (by simp)]
      refine ⟨_,rfl,rfl,_,rfl,?_⟩
      rw [str_dec rw0 tl_relay pl_relay,decide_eq_false (by decide)]
      refine ⟨_,rfl,rfl,_,rfl,?_⟩
      rw [str_dec rw0 tl_lamp pl_lamp,decide_eq_false (by decide)]
      refine ⟨_,rfl,rfl,_,rfl,?_⟩
      rw [str_dec rw0 tl_open pl_open,decide_eq_false (by decide)]
      refine ⟨_,rfl,rfl,_,rfl,?_⟩
      rw [str_dec rw0 tl_close pl_close,decide_eq_false (by decide)]
      exact kn2 _ S3 el
    rw [decide_eq_false w1]
    refine ⟨_,rfl,rfl,_,rfl,?_⟩
    rw [str_dec rw0 tl_relay pl_relay]
    by_cases w2:wd=Rung.ascii "relay"
    ·subst w2
     obtain ⟨e1,e2⟩:=line_relay hb hx
     rw [decide_eq_true rfl]
     obtain ⟨zs',hz',hp'⟩:=hr0
     refine ⟨_,rfl,_,rfl,q,_,rfl,SqL.of hz',fun n hn=>?_⟩
     have S3:Same H2 (upd H2 n (.lst (cutV (zs'.map V.str) none (some ((2:Nat):Int))))):=Same.new hn
     have hs3:SqS (upd H2 n (.lst (cutV (zs'.map V.str) none (some ((2:Nat):Int))))) n (r.take 2):=⟨zs'.take 2,by rw [upd_same,cut_to,List.map_take],Pd.take 2 hp'⟩
     generalize upd H2 n (.lst (cutV (zs'.map V.str) none (some ((2:Nat):Int))))=H3 at *
     refine ⟨n,r.take 2,rfl,hs3,fun H4 S4=>⟨_,rfl,?_⟩⟩
     rw [place_eq]
     cases hl2:plB (r.take 2) with
     | false =>
      rw [hl2] at e1
      have el:Rung.lineIn b=none:=by simpa using e1
      refine ⟨_,rfl,rfl,_,rfl,?_⟩
      rw [str_dec rw0 tl_lamp pl_lamp,decide_eq_false (by decide)]
      refine ⟨_,rfl,rfl,_,rfl,?_⟩
      rw [str_dec rw0 tl_open pl_open,decide_eq_false (by decide)]
      refine ⟨_,rfl,rfl,_,rfl,?_⟩
      rw [str_dec rw0 tl_close pl_close,decide_eq_false (by decide)]
      exact kn2 _ (S3.trans S4) el
     | true =>
      rw [hl2,Bool.true_and] at e1
      have S34:=S3.trans S4
      refine ⟨_,rfl,_,rfl,q,_,rfl,SqL.of (S34 _ _ hz'),fun m hm=>?_⟩
      have S5:Same H4 (upd H4 m (.lst (cutV (zs'.map V.str) (some ((2:Nat):Int)) none))):=Same.new hm
      have hs5:SqS (upd H4 m (.lst (cutV (zs'.map V.str) (some ((2:Nat):Int)) none))) m (r.drop 2):=⟨zs'.drop 2,by rw [upd_same,cut_from,List.map_drop],Pd.drop 2 hp'⟩
      have S25:=S34.trans S5
      generalize upd H4 m (.lst (cutV (zs'.map V.str) (some ((2:Nat):Int)) none))=H5 at *
      refine ⟨m,r.drop 2,rfl,hs5,fun H6 S6=>⟨_,rfl,?_⟩⟩
      cases hd:(Rung.delays (r.drop 2)).isSome with
      | false =>
       rw [hd] at e1
       have el:Rung.lineIn b=none:=by simpa using e1
       refine ⟨_,rfl,rfl,_,rfl,?_⟩
       rw [str_dec rw0 tl_lamp pl_lamp,decide_eq_false (by decide)]
       refine ⟨_,rfl,rfl,_,rfl,?_⟩
       rw [str_dec rw0 tl_open pl_open,decide_eq_false (by decide)]
       refine ⟨_,rfl,rfl,_,rfl,?_⟩
       rw [str_dec rw0 tl_close pl_close,decide_eq_false (by decide)]
       exact kn2 _ (S25.trans S6) el
      | true =>
       rw [hd] at e1
       obtain ⟨ln,el⟩:=Option.isSome_iff_exists.mp e1
       rw [el] at e2
       exact ⟨_,rfl,fun y dy ny ndy ne=>mk _ 1 ln (S25.trans S6) el (e2 ln rfl).1 e2 y dy ny ndy ne⟩
    rw [decide_eq_false w2]
    refine ⟨_,rfl,rfl,_,rfl,?_⟩
    rw [str_dec rw0 tl_lamp pl_lamp]
    by_cases w3:wd=Rung.ascii "lamp"
    ·subst w3
     obtain ⟨e1,e2⟩:=line_lamp hb hx
     rw [decide_eq_true rfl]
     refine ⟨_,rfl,q,r,rfl,hr0,fun H3 S3=>⟨_,rfl,?_⟩⟩
     rw [place_eq]
     cases hl2:plB r with
     | true =>
      rw [hl2] at e1
      obtain ⟨ln,el⟩:=Option.isSome_iff_exists.mp e1
      rw [el] at e2
      exact ⟨_,rfl,fun y dy ny ndy ne=>mk _ 2 ln S3 el (e2 ln rfl).1 e2 y dy ny ndy ne⟩
     | false =>
      rw [hl2] at e1
      have el:Rung.lineIn b=none:=by simpa using e1
      refine ⟨_,rfl,rfl,_,rfl,?_⟩
      rw [str_dec rw0 tl_open pl_open,decide_eq_false (by decide)]
      refine ⟨_,rfl,rfl,_,rfl,?_⟩
      rw [str_dec rw0 tl_close pl_close,decide_eq_false (by decide)]
      exact kn2 _ S3 el
    rw [decide_eq_false w3]
    refine ⟨_,rfl,rfl,_,rfl,?_⟩
    rw [str_dec rw0 tl_open pl_open]
    have con:∀ (hw:wd=Rung.ascii "open"∨wd=Rung.ascii "close"),spReadCon CL [.str (sN x),.bl (decide (wd=Rung.ascii "close")),.ref q] H2 Q E:=fun hw=>by
     refine ⟨x,_,q,r,rfl,hr0,fun H' S=>?_⟩
     rw [con_eq,←line_con hb hx hw]
     exact ⟨fun e=>kn2 H' S e,fun ln a e h=>kl2 H' ln a S e h⟩
    by_cases w4:wd=Rung.ascii "open"
    ·rw [decide_eq_true w4]
     refine ⟨_,rfl,_,rfl,rfl,_,rfl,?_⟩
     have:=con (.inl w4)
     rw [←str_dec rw0 tl_close pl_close] at this
     exact this
    rw [decide_eq_false w4]
    refine ⟨_,rfl,rfl,_,rfl,?_⟩
    rw [str_dec rw0 tl_close pl_close]
    by_cases w5:wd=Rung.ascii "close"
    ·rw [decide_eq_true w5]
     refine ⟨_,rfl,_,rfl,rfl,_,rfl,?_⟩
     have:=con (.inr w5)
     rw [←str_dec rw0 tl_close pl_close] at this
     exact this
    rw [decide_eq_false w5]
    exact kn2 _ (Same.refl _) (line_no hb w1 w2 w3 fun z=>z.elim w4 w5)
end
end Cw
namespace Cw
open PySem PySem.Spec PyProof.Rows L2 CwG CwR TL
abbrev sSignOf:Stmt:=top 58
abbrev sReadLines:Stmt:=top 59
abbrev sFOrder:Stmt:=top 60
abbrev sFMany:Stmt:=top 61
abbrev sFNames:Stmt:=top 62
abbrev sFCons:Stmt:=top 63
abbrev sFirstF:Stmt:=top 64
abbrev sVars:Stmt:=top 65
abbrev sSchemeOf:Stmt:=top 66
structure TxQ(K:PySem.W.Frag)(mg:Str->Option Value):Prop where
 most:∃ a,mg "MOST_LINES"=some (.ref a)∧∀ H:Hp,SqT K H a [.int 16,.int 12,.int 16,.int 256]
 noShape:∃ t,mg "NO_SHAPE"=some (.int 1 t)
 outOf:∃ t,mg "OUT_OF_ORDER"=some (.int 2 t)
 tooMany:∃ t,mg "TOO_MANY"=some (.int 3 t)
 given:∃ t,mg "GIVEN_BEFORE"=some (.int 4 t)
 nobody:∃ t,mg "NOBODY"=some (.int 5 t)
 firstRelay:∃ t,mg "FIRST_RELAY"=some (.int 16 t)
 enum:mg "enumerate"=none
 max:mg "max"=none
 min:mg "min"=none
 sum:mg "sum"=none
theorem str1{s:String}{n:Nat}(h:s.toList.map Char.toNat=[n]):(Str.ofString s)=⟨#[n]⟩:=by
 apply ext_tl
 rw [tl_ofString,h]
section
variable {P:Program} {w:World} {K:PySem.W.Frag} {mg:Str->Option Value} {base:Heap} {CL:Addr}
def spSignOf:Sp:=fun vs H Q _=>∃ n:Nat,vs=[.int n]∧Q (.str ⟨#[sg n]⟩) H
theorem scSignOf:FnScope ["byte"] ["byte"] (defScope sSignOf):=⟨rfl,rfl,rfl,by decide +kernel,rfl,by decide +kernel,by decide +kernel⟩
theorem ok_signOf{f:Addr}{fd:FuncData}(F:Fun K "sign_of" "sign_of" sSignOf f fd)(T:TxR K mg CL):FnOk P w K mg base CX0 1 f fd ["byte"] spSignOf:=by
 refine F.ok scSignOf (fun vs H Q E h=>?_) (fun cdv A outer s H vs Q E hr h=>?_)
 ·obtain ⟨n,rfl,_⟩:=h
  rfl
 ·obtain ⟨n,rfl,k⟩:=h
  refine ⟨_,pss_cons (ps_if (pt_cmpR op_eq (pv 0) pe_int (nomark _)) (pss_one (ps_ret pe_str)) pss_nil)
   (pss_cons (ps_if (pt_cmpR op_eq (pv 0) pe_int (nomark _)) (pss_one (ps_ret pe_str)) pss_nil)
   (pss_cons (ps_if (pt_chain op_le op_le pe_int (pv 0) pe_int) (pss_one (ps_ret (pe_ix ix_str (pe_gS rfl T.digits) (pe_op op_sub (pv 0) pe_int) (fun _ _=>rfl)))) pss_nil)
   (pss_cons (ps_if (pt_chain op_le op_le pe_int (pv 0) pe_int) (pss_one (ps_ret (pe_ix ix_str (pe_gS rfl T.letters) (pe_op op_sub (pv 0) pe_int) (fun _ _=>rfl)))) pss_nil)
   (pss_one (ps_ret pe_str))))),?_⟩
  have dec:∀ m:Nat,decide (V.int (n:Int)=V.int (m:Int))=decide (n=m):=fun m=>decide_eq_decide.mpr ⟨fun e=>by injection e with e; omega,fun e=>by rw [e]⟩
  refine ⟨_,rfl,rfl,_,rfl,?_⟩
  rw [show decide (V.int (n:Int)=V.int 10)=decide (n=10) from dec 10]
  by_cases h1:n=10
  ·rw [decide_eq_true h1]
   subst h1
   rw [show sg 10=10 from rfl,←str1 (s:="\n") (n:=10) rfl] at k
   exact k
  rw [decide_eq_false h1]
  refine ⟨_,rfl,rfl,_,rfl,?_⟩
  rw [show decide (V.int (n:Int)=V.int 32)=decide (n=32) from dec 32]
  by_cases h2:n=32
  ·rw [decide_eq_true h2]
   subst h2
   rw [show sg 32=32 from rfl,←str1 (s:=" ") (n:=32) rfl] at k
   exact k
  rw [decide_eq_false h2]
  have sD:DIGITS.length≤sizeLine:=by rw [len_tl,tl_digits,List.length_range']; exact small1000 (by omega)
  have sL:LETTERS.length≤sizeLine:=by rw [len_tl,tl_letters,List.length_range']; exact small1000 (by omega)
  have gD:∀ m:Nat,n=48+m->m < 10->atI DIGITS.cps.toList ((n:Int) - 48)=some n:=fun m e hm=>by
   rw [show (n:Int) - 48=(m:Int) by omega]
   apply atI_nat
   show (tl DIGITS)[m]?=some n
   rw [tl_digits,List.getElem?_range' hm]
   congr 1
   omega
  have gL:∀ m:Nat,n=97+m->m < 26->atI LETTERS.cps.toList ((n:Int) - 97)=some n:=fun m e hm=>by
   rw [show (n:Int) - 97=(m:Int) by omega]
   apply atI_nat
   show (tl LETTERS)[m]?=some n
   rw [tl_letters,List.getElem?_range' hm]
   congr 1
   omega
  have fin:¬ (97≤n∧n≤122)->¬ (48≤n∧n≤57)->Q (.str "?") H:=fun z1 z2=>by
   have e:sg n=63:=by unfold sg; rw [if_neg h1,if_neg h2,if_neg z2,if_neg z1]
   rw [e,←str1 (s:="?") (n:=63) rfl] at k
   exact k
  have lets:¬ (48≤n∧n≤57)->tSeq (tIfS (tTest (tChain (rI0 fun i j=>.bl (decide (i≤j))) (rI0 fun i j=>.bl (decide (i≤j))) (tC (.int 97)) (tVar 0) (tC (.int 122)))) (tRet (tOp rIxS (tC (.str LETTERS)) (tOp (rI0 fun i j=>.int (i - j)) (tVar 0) (tC (.int 97))))) tNext) (tRet (tC (.str "?"))) { nx:=fun _ H'=>Q .non H',rt:=Q } [some (.int n)] H:=fun z2=>by
   refine ⟨_,rfl,_,_,rfl,rfl,_,rfl,?_⟩
   by_cases h5:97≤n
   ·rw [decide_eq_true (show (97:Int)≤n by omega)]
    refine ⟨_,_,rfl,rfl,_,rfl,?_⟩
    by_cases h6:n≤122
    ·rw [decide_eq_true (show (n:Int)≤122 by omega)]
     have e:sg n=n:=sg_id (.inr ⟨h5,h6⟩)
     rw [e] at k
     exact ⟨_,rfl,_,_,rfl,rfl,_,_,n,rfl,rfl,sL,gL (n - 97) (by omega) (by omega),k⟩
    ·rw [decide_eq_false (show ¬ (n:Int)≤122 by omega)]
     exact fin (fun z=>h6 z.2) z2
   ·rw [decide_eq_false (show ¬ (97:Int)≤n by omega)]
    exact ⟨_,rfl,fin (fun z=>h5 z.1) z2⟩
  refine ⟨_,rfl,_,_,rfl,rfl,_,rfl,?_⟩
  by_cases h3:48≤n
  ·rw [decide_eq_true (show (48:Int)≤n by omega)]
   refine ⟨_,_,rfl,rfl,_,rfl,?_⟩
   by_cases h4:n≤57
   ·rw [decide_eq_true (show (n:Int)≤57 by omega)]
    have e:sg n=n:=sg_id (.inl ⟨h3,h4⟩)
    rw [e] at k
    exact ⟨_,rfl,_,_,rfl,rfl,_,_,n,rfl,rfl,sD,gD (n - 48) (by omega) (by omega),k⟩
   ·rw [decide_eq_false (show ¬ (n:Int)≤57 by omega)]
    exact lets fun z=>h4 z.2
  ·rw [decide_eq_false (show ¬ (48:Int)≤n by omega)]
   exact ⟨_,rfl,lets fun z=>h3 z.1⟩
def LnV(CL:Addr)(H:Hp)(v:V)(o:Option Rung.Line):Prop:=match o with
 | none=>v=.non
 | some ln=>∃ a,v=.ref a∧LineAt CL H a ln
theorem LnV.same{H H':Hp}(S:Same H H'){v:V}{o:Option Rung.Line}(h:LnV CL H v o):LnV CL H' v o:=by
 cases o with
 | none=>exact h
 | some ln=>obtain ⟨a,e,z⟩:=h; exact ⟨a,e,z.same S⟩
def LnsAt(CL:Addr)(H:Hp)(q:Addr)(os:List (Option Rung.Line)):Prop:=∃ vs:List V,H q=some (.lst vs)∧Paired (LnV CL H) vs os
def byV(c:UInt8):V:=.int (c.toNat:Nat)
def spReadLines(CL:Addr):Sp:=fun vs H Q _=>∃ (a:Addr) (t:Rung.Bytes),vs=[.ref a]∧H a=some (.lst (t.map byV))∧t.length≤20000∧∀ (H':Hp) (q:Addr),Same H H'->LnsAt CL H' q (rdLines t)->Q (.ref q) H'
theorem scReadLines:FnScope ["text","pieces","lines","byte","piece"] ["text"] (defScope sReadLines):=⟨rfl,rfl,rfl,by decide +kernel,rfl,by decide +kernel,by decide +kernel⟩
theorem join_signs:∀ t:Rung.Bytes,tl (Txt.join "" (t.map fun c=>(⟨#[sg c.toNat]⟩:Str)))=en t:=by
 intro t
 rw [join_eq,tl_join]
 have e:tl (Str.ofString "")=[]:=by rw [tl_ofString]; rfl
 rw [e]
 have key:∀ l:List (List Nat),joinL [] l=l.flatten:=by
  intro l
  match l with
  | []=>rfl
  | [p]=>simp [joinL]
  | p::q::r =>
   have ih:∀ m:List (List Nat),joinL [] m=m.flatten:=by
    intro m
    induction m with
    | nil=>rfl
    | cons a m ih =>
     cases m with
     | nil=>simp [joinL]
     | cons b m=>rw [joinL,ih]; simp
   exact ih _
 rw [key,List.map_map]
 induction t with
 | nil=>rfl
 | cons c t ih =>
  rw [List.map_cons,List.flatten_cons,ih]
  rfl
theorem ok_readLines{f fS fL:Addr}{fd fdS fdL:FuncData}(F:Fun K "read_lines" "read_lines" sReadLines f fd)(T:TxR K mg CL)(CS:Cal P w K mg base "sign_of" ["byte"] spSignOf 1 fS fdS)(CR:Cal P w K mg base "read_line" ["text"] (spReadLine CL) 4 fL fdL) :
  FnOk P w K mg base CX0 5 f fd ["text"] (spReadLines CL):=by
 refine F.ok scReadLines (fun vs H Q E h=>?_) (fun cdv A outer s H vs Q E hr h=>?_)
 ·obtain ⟨a,t,rfl,_⟩:=h
  rfl
 ·obtain ⟨a,t,rfl,ha,ht,k⟩:=h
  have hr1:Room 1 _:=hr.mono (by decide)
  refine ⟨_,pss_cons (ps_set (i:=1) scReadLines.nd rfl (Or.inl rfl) (pe_split (pe_join pe_str (pe_lc (own:=[("byte",3)]) rfl scReadLines.nd (pi_list (pv 0)) (by exact blkOk_by (N:=["text","pieces","lines","byte","piece"]) (sc:=defScope sReadLines) (by decide +kernel))
     (fun _ _ _ _ _=>pg_name (i:=3) scReadLines.nd rfl (Or.inl rfl)) (fun _ _ _ _ _=>pts_nil) (fun _ _ _ _ _=>pe_call CS.ok hr1 rfl CS.m CS.kp CS.b .nil pass0 (pa_cons (pv 3) pa_nil)))) pe_str))
   (pss_cons (ps_setLc (i:=2) (own:=[("piece",4)]) rfl scReadLines.nd rfl rfl (sw_true rfl rfl rfl (by decide +kernel)) (pi_list (pe_slice sl_list (pv 1) po_none (po_some (pe_un un_neg pe_int)))) (by exact blkOk_by (N:=["text","pieces","lines","byte","piece"]) (sc:=defScope sReadLines) (by decide +kernel))
     (fun _ _ _ _ _=>pg_name (i:=4) scReadLines.nd rfl (Or.inl rfl)) (fun _ _ _ _ _=>pts_nil) (fun _ _ _ _ _=>pe_call CR.ok hr rfl CR.m CR.kp CR.b .nil pass0 (pa_cons (pv 4) pa_nil)))
   (pss_cons (ps_if (pt_cmpR op_ne (pe_ix ix_list (pv 1) (pe_un un_neg pe_int) (fun _ _=>rfl)) pe_str (nomark _)) (pss_one (ps_expr (pe_bm PySem.F.plainAttrs_list PySem.F.slot_list_append PySem.F.type_list_append mt_append (pv 2) (pa_cons pe_non pa_nil)))) pss_nil)
   (pss_one (ps_ret (pv 2))))),?_⟩
  refine ⟨⟨_,rfl⟩,_,rfl,a,rfl,⟨_,SqL.of ha⟩,fun D hD=>lc_list (xs:=t.map byV) (fun i H'=>Same H H'∧H' D=some (.lst (((t.take i).map fun c=>(⟨#[sg c.toNat]⟩:Str)).map V.str))) ⟨Same.new hD,upd_same⟩ ?_ ?_ ?_⟩
  ·rintro i H' hi ⟨S,_⟩
   exact SqL.of (S _ _ ha)
  ·rintro i x H' hx ⟨S,hDl⟩
   obtain ⟨c,hc,rfl⟩:=map_get hx
   refine ⟨rfl,_,rfl,c.toNat,rfl,_,hDl,?_,Same.put S hD,?_⟩
   ·rw [List.length_map,List.length_map,List.length_take]
    have:=line_big
    omega
   ·rw [upd_same,CwG.take_snoc hc,List.map_append,List.map_append]
    rfl
  rintro H1 ⟨S1,hDl⟩
  rw [List.length_map,List.take_length] at hDl
  have hz:SB (Txt.join "" (t.map fun c=>(⟨#[sg c.toNat]⟩:Str))) t:=⟨join_signs t,ht⟩
  have lz:(Txt.join "" (t.map fun c=>(⟨#[sg c.toNat]⟩:Str))).length+2≤sizeLine:=by have:=hz.len; have:=line_big; omega
  have one:∀ l:Rung.Bytes,((l.map fun c=>(⟨#[sg c.toNat]⟩:Str)).map fun z=>z.length).sum=l.length:=by
   intro l
   induction l with
   | nil=>rfl
   | cons c l ih =>
    rw [List.map_cons,List.map_cons,List.sum_cons,ih,List.length_cons]
    show 1+l.length=_
    omega
  refine ⟨_,D,_,rfl,rfl,.inl (SqL.of hDl),?_,⟨_,rfl⟩,_,_,rfl,rfl,rfl,lz,fun p hp=>?_⟩
  ·show ((t.map fun c=>(⟨#[sg c.toNat]⟩:Str)).map fun z=>z.length).sum+_≤_
   rw [one,List.length_map]
   show t.length+t.length*0≤_
   omega
  have S2:Same H1 (upd H1 p (.lst ((Txt.split (Txt.join "" (t.map fun c=>(⟨#[sg c.toNat]⟩:Str))) "\n").map V.str))):=Same.new hp
  have hp2:upd H1 p (.lst ((Txt.split (Txt.join "" (t.map fun c=>(⟨#[sg c.toNat]⟩:Str))) "\n").map V.str)) p=some (.lst ((Txt.split (Txt.join "" (t.map fun c=>(⟨#[sg c.toNat]⟩:Str))) "\n").map V.str)):=upd_same
  have pp:Paired SB (Txt.split (Txt.join "" (t.map fun c=>(⟨#[sg c.toNat]⟩:Str))) "\n") (Rung.split 10 t):=split_pieces hz (by rw [tl_ofString]; rfl) (by decide +kernel) sg10
  have S12:=S1.trans S2
  generalize upd H1 p (.lst ((Txt.split (Txt.join "" (t.map fun c=>(⟨#[sg c.toNat]⟩:Str))) "\n").map V.str))=H2 at *
  generalize Txt.split (Txt.join "" (t.map fun c=>(⟨#[sg c.toNat]⟩:Str))) "\n"=zs at *
  refine ⟨_,rfl,_,rfl,_,rfl,p,_,rfl,SqL.of hp2,fun m hm=>?_⟩
  have S3:Same H2 (upd H2 m (.lst (cutV (zs.map V.str) none (some (-1))))):=Same.new hm
  have hm3:upd H2 m (.lst (cutV (zs.map V.str) none (some (-1)))) m=some (.lst (zs.dropLast.map V.str)):=by rw [upd_same,cut_last,List.map_dropLast]
  have S03:=S12.trans S3
  have hp3:=S3 _ _ hp2
  show ∃ a',V.ref m=V.ref a'∧_
  generalize upd H2 m (.lst (cutV (zs.map V.str) none (some (-1))))=H3 at *
  have dl:∀ {zs:List Str} {bs:List Rung.Bytes},Paired SB zs bs->Paired SB zs.dropLast bs.dropLast:=by
   intro zs bs h
   induction h with
   | nil=>exact .nil
   | cons r tt ih =>
    cases tt with
    | nil=>exact .nil
    | cons r2 t2=>exact .cons r ih
  have pd:=dl pp
  refine ⟨m,rfl,⟨_,SqL.of hm3⟩,fun D2 hD2=>lc_list (xs:=zs.dropLast.map V.str) (fun i H'=>Same H3 H'∧∃ vs:List V,H' D2=some (.lst vs)∧Paired (LnV CL H') vs (((Rung.split 10 t).dropLast.take i).map Rung.lineIn)) ⟨Same.new hD2,[],upd_same,.nil⟩ ?_ ?_ ?_⟩
  ·rintro i H' hi ⟨S,_⟩
   exact SqL.of (S _ _ hm3)
  ·rintro i x H' hx ⟨S,vs,hv,hpv⟩
   obtain ⟨z1,hz1,rfl⟩:=map_get hx
   obtain ⟨b1,hb1,r1⟩:=Pd.get pd hz1
   refine ⟨rfl,_,rfl,z1,b1,rfl,r1,fun H'' S''=>?_⟩
   have fin:∀ v,LnV CL H'' v (Rung.lineIn b1)->∃ acc,H'' D2=some (.lst acc)∧acc.length < sizeLine∧Same H3 (upd H'' D2 (.lst (acc++[v])))∧∃ vs:List V,upd H'' D2 (.lst (acc++[v])) D2=some (.lst vs)∧Paired (LnV CL (upd H'' D2 (.lst (acc++[v])))) vs (((Rung.split 10 t).dropLast.take (i+1)).map Rung.lineIn):=fun v hv1=>by
    have Sx:Same H3 H'':=S.trans S''
    have nm:∀ v o,LnV CL H'' v o->LnV CL (upd H'' D2 (.lst (vs++[v]))) v o:=fun v o h=>by
     cases o with
     | none=>exact h
     | some ln =>
      obtain ⟨a1,e1,dx,e2⟩:=h
      exact ⟨a1,e1,dx,by rw [upd_ne (ne_of e2 (S'' _ _ hv) (by intro z; cases z))]; exact e2⟩
    have nm':∀ u o,LnV CL H'' u o->LnV CL (upd H'' D2 (.lst (vs++[v]))) u o:=fun u o h=>by
     cases o with
     | none=>exact h
     | some ln =>
      obtain ⟨a1,e1,dx,e2⟩:=h
      exact ⟨a1,e1,dx,by rw [upd_ne (ne_of e2 (S'' _ _ hv) (by intro z; cases z))]; exact e2⟩
    refine ⟨vs,S'' _ _ hv,?_,Same.put Sx hD2,vs++[v],upd_same,?_⟩
    ·rw [Pd.len hpv,List.length_map,List.length_take,List.length_dropLast]
     have:=split_len 10 t
     have:=line_big
     omega
    ·rw [CwG.take_snoc hb1,List.map_append]
     exact Pd.snoc (Pd.imp nm' (Pd.imp (fun _ _ h=>LnV.same S'' h) hpv)) (nm' v _ hv1)
   exact ⟨fun e=>fin _ (by rw [e]; rfl),fun ln a1 e h=>fin _ (by rw [e]; exact ⟨a1,rfl,h⟩)⟩
  rintro H4 ⟨S4,vs,hv,hpv⟩
  rw [List.length_map,Pd.len pd,List.take_length] at hpv
  have hp4:=S4 _ _ hp3
  have fD2:H D2=none:=S03.free hD2
  have S04:=S03.trans S4
  obtain ⟨bl,hbl,eb⟩:∃ bl,(Rung.split 10 t).getLast?=some bl∧Rung.split 10 t=(Rung.split 10 t).dropLast++[bl]:=by
   refine ⟨(Rung.split 10 t).getLast (split_ne 10 t),List.getLast?_eq_some_getLast _,(List.dropLast_concat_getLast (split_ne 10 t)).symm⟩
  obtain ⟨zl,hzl,rl⟩:=Pd.get' (i:=(Rung.split 10 t).length - 1) (b:=bl) pp (by rw [←List.getLast?_eq_getElem?]; exact hbl)
  have lzs:=Pd.len pp
  have pos:0 < (Rung.split 10 t).length:=List.length_pos_iff.mpr (split_ne 10 t)
  have hat:atI (zs.map V.str) (-1)=some (V.str zl):=by
   have nz:zs≠[]:=fun z=>by rw [z] at lzs; simp at lzs; omega
   have e1:zs.getLast?=some zl:=by rw [List.getLast?_eq_getElem?,lzs]; exact hzl
   have e2:zs=zs.dropLast++[zl]:=by
    have e3:zs.getLast nz=zl:=by rw [List.getLast?_eq_some_getLast nz] at e1; exact Option.some.inj e1
    rw [←e3]
    exact (List.dropLast_concat_getLast nz).symm
   rw [e2,List.map_append]
   exact atI_last _ _
  refine ⟨_,rfl,_,rfl,p,_,_,_,rfl,rfl,SqL.of hp4,hat,rfl,_,rfl,?_⟩
  rw [str_dec (w:=[]) rl (by rw [tl_ofString]; rfl) (by simp)]
  by_cases e:bl=[]
  ·rw [decide_eq_true e]
   refine ⟨_,rfl,k H4 D2 S04 ⟨vs,hv,?_⟩⟩
   unfold rdLines
   rw [if_pos (by rw [hbl,e]),List.append_nil]
   exact hpv
  ·rw [decide_eq_false e]
   refine ⟨_,rfl,.inl ⟨rfl,_,SqL.of hv⟩,D2,_,_,rfl,rfl,hv,?_,?_⟩
   ·rw [Pd.len hpv,List.length_map,List.length_dropLast]
    have:=split_len 10 t
    have:=line_big
    omega
   ·refine ⟨_,rfl,k _ D2 (Same.put S04 fD2) ⟨vs++[.non],upd_same,?_⟩⟩
    unfold rdLines
    rw [if_neg (by rw [hbl]; simpa using e)]
    refine Pd.snoc (Pd.imp (fun u o h=>?_) hpv) rfl
    cases o with
    | none=>exact h
    | some ln =>
     obtain ⟨a1,e1,dx,e2⟩:=h
     exact ⟨a1,e1,dx,by rw [upd_ne (ne_of e2 hv (by intro z; cases z))]; exact e2⟩
end
end Cw
namespace Cw
open PySem PySem.Spec PyProof.Rows L2 CwG CwR TL
def LinesAt(CL:Addr)(H:Hp)(l:Addr)(p:List Rung.Line):Prop:=∃ as:List Addr,H l=some (.lst (as.map V.ref))∧Paired (LineAt CL H) as p
theorem LinesAt.same{CL:Addr}{H H':Hp}(S:Same H H'){l:Addr}{p:List Rung.Line}(h:LinesAt CL H l p):LinesAt CL H' l p:=let ⟨as,e,r⟩:=h; ⟨as,S _ _ e,Pd.imp (fun _ _=>LineAt.same S) r⟩
def FltAt(H:Hp)(q:Addr)(fs:List (Nat×Nat)):Prop:=∃ ts:List Addr,H q=some (.lst (ts.map V.ref))∧Paired (TpA H) ts fs
theorem FltAt.same{H H':Hp}(S:Same H H'){q:Addr}{fs:List (Nat×Nat)}(h:FltAt H q fs):FltAt H' q fs:=let ⟨ts,e,r⟩:=h; ⟨ts,S _ _ e,Pd.imp (fun _ _ z=>S _ _ z) r⟩
theorem FltAt.push{H:Hp}{q t:Addr}{fs:List (Nat×Nat)}{x:Nat×Nat}(h:FltAt H q fs)(ht:TpA H t x):∃ ts:List Addr,H q=some (.lst (ts.map V.ref))∧ts.length=fs.length∧FltAt (upd H q (.lst (ts.map V.ref++[.ref t]))) q (fs++[x]):=by
 obtain ⟨ts,e,r⟩:=h
 refine ⟨ts,e,Pd.len r,ts++[t],by rw [upd_same,List.map_append]; rfl,?_⟩
 have keep:∀ t' x',TpA H t' x'->TpA (upd H q (.lst (ts.map V.ref++[.ref t]))) t' x':=fun t' x' z=>by
  unfold TpA at z ⊢
  rw [upd_ne (ne_of z e (by intro y; cases y))]
  exact z
 exact Pd.snoc (Pd.imp keep r) (keep _ _ ht)
def mxS(p:List Rung.Line):Nat:=p.foldl (fun m l=>max m l.sort) 0
theorem mxS_snoc(p:List Rung.Line)(l:Rung.Line):mxS (p++[l])=max (mxS p) l.sort:=by unfold mxS; rw [List.foldl_append]; rfl
theorem mxS_any(p:List Rung.Line)(n:Nat):(p.any fun m=>decide (n < m.sort))=decide (n < mxS p):=by
 induction p using snocRec with
 | nil=>simp [mxS]
 | append_singleton p l ih =>
  rw [List.any_append,ih,mxS_snoc]
  simp only [List.any_cons,List.any_nil,Bool.or_false]
  rw [Bool.eq_iff_iff]
  simp only [Bool.or_eq_true,decide_eq_true_eq]
  omega
theorem bad_map(k:Nat)(l:List Nat)(x:Nat)(b:Bool):((l++if b=true then [x] else []).map fun j=>(k,j))=(l.map fun j=>(k,j))++if b=true then [(k,x)] else []:=by
 cases b<;>simp
section
variable {P:Program} {w:World} {K:PySem.W.Frag} {mg:Str->Option Value} {base:Heap} {CL:Addr}
def spFlt(CL:Addr)(kd:Nat)(bad:List Rung.Line->Nat->Rung.Line->Bool):Sp:=fun vs H Q _=>∃ (l:Addr) (p:List Rung.Line),vs=[.ref l]∧LinesAt CL H l p∧p.length≤20001 ∧
 ∀ (H':Hp) (q:Addr),Same H H'->FltAt H' q ((badL p (bad p)).map fun j=>(kd,j))->Q (.ref q) H'
theorem scFOrder:FnScope ["lines","faults","latest","number","line"] ["lines"] (defScope sFOrder):=⟨rfl,rfl,rfl,by decide +kernel,rfl,by decide +kernel,by decide +kernel⟩
theorem ok_fOrder{f:Addr}{fd:FuncData}(F:Fun K "faults_of_order" "faults_of_order" sFOrder f fd)(T:TxR K mg CL)(U:TxQ K mg):FnOk P w K mg base CX0 1 f fd ["lines"] (spFlt CL 2 b2):=by
 refine F.ok scFOrder (fun vs H Q E h=>?_) (fun cdv A outer s H vs Q E hr h=>?_)
 ·obtain ⟨l,p,rfl,_⟩:=h
  rfl
 ·obtain ⟨l,p,rfl,⟨as0,hl0,hp0⟩,hlen,k⟩:=h
  refine ⟨_,pss_cons (ps_set (i:=1) scFOrder.nd rfl (Or.inl rfl) (pe_lst pa_nil))
   (pss_cons (ps_set (i:=2) scFOrder.nd rfl (Or.inl rfl) (pe_gI rfl T.inputs))
   (pss_cons (ps_for PassesOwn.never rfl (pi_enum rfl U.enum (pa_cons (pv 0) pa_nil)) (pg_tup rfl (pgs_cons (pg_name (i:=3) scFOrder.nd rfl (Or.inl rfl)) (pgs_cons (pg_name (i:=4) scFOrder.nd rfl (Or.inl rfl)) pgs_nil)))
    (pss_cons (ps_if (pt_cmpR op_lt (pe_fld (pv 4) rfl) (pv 2) (nomark _)) (pss_one (ps_expr (pe_bm PySem.F.plainAttrs_list PySem.F.slot_list_append PySem.F.type_list_append mt_append (pv 1) (pa_cons (pe_tup (pa_cons (pe_gI rfl U.outOf) (pa_cons (pv 3) pa_nil))) pa_nil)))) pss_nil)
     (pss_one (ps_set (i:=2) scFOrder.nd rfl (Or.inl rfl) (pe_callB (call_max2 rfl) (by rfl) U.max PyProof.Rows.boot_max (pa_cons (pv 2) (pa_cons (pe_fld (pv 4) rfl) pa_nil)))))))
   (pss_one (ps_ret (pv 1))))),?_⟩
  refine ⟨Nat.zero_le _,fun q hq=>?_⟩
  have S0:Same H (upd H q (.lst [])):=Same.new hq
  have hq0:FltAt (upd H q (.lst [])) q ((badL (p.take 0) (b2 p)).map fun j=>(2,j)):=⟨[],upd_same,.nil⟩
  generalize upd H q (.lst [])=H0 at *
  refine ⟨_,rfl,l,_,rfl,SqL.of (S0 _ _ hl0),for_enum (xs:=as0.map V.ref) (fun i σ H'=>∃ v3 v4:Option V,σ=[some (.ref l),some (.ref q),some (.int (mxS (p.take i):Nat)),v3,v4]∧Same H H'∧FltAt H' q ((badL (p.take i) (b2 p)).map fun j=>(2,j))) ?_ ?_ ?_ ?_⟩
  ·exact ⟨none,none,rfl,S0,hq0⟩
  ·rintro i σ H' hi ⟨_,_,rfl,z,_⟩
   exact SqL.of (z _ _ hl0)
  ·rintro i y σ H' t hy ⟨v3,v4,rfl,z1,z2⟩ ht
   obtain ⟨a,ha,rfl⟩:=map_get hy
   obtain ⟨ln,hln,hca⟩:=Pd.get hp0 ha
   have s0:Same H' (upd H' t (.tup [.int i,.ref a])):=Same.new ht
   have y1:=z1.trans s0
   have y2:=z2.same s0
   generalize upd H' t (.tup [.int i,.ref a])=H4 at *
   obtain ⟨dx,hdx⟩:=hca.same y1
   have st:=badL_snoc (bad:=b2 p) hln
   have eb:b2 p i ln=decide (ln.sort < mxS (p.take i)):=mxS_any _ _
   have emx:mxS (p.take (i+1))=max (mxS (p.take i)) ln.sort:=by rw [CwG.take_snoc hln,mxS_snoc]
   have il:i < p.length:=(List.getElem?_eq_some_iff.mp hln).1
   refine ⟨_,rfl,a,CL,dx,_,_,rfl,hdx,T.cl,T.nRank,ln_rank _ _ _ _ _,_,rfl,_,_,rfl,rfl,_,rfl,?_⟩
   have emx2:(if ((ln.sort:Nat):Int) > ((mxS (p.take i):Nat):Int) then ((ln.sort:Nat):Int) else ((mxS (p.take i):Nat):Int))=((mxS (p.take (i+1)):Nat):Int):=by
    rw [emx]
    split<;>omega
   rw [show decide (((ln.sort:Nat):Int) < ((mxS (p.take i):Nat):Int))=b2 p i ln by rw [eb]; exact decide_eq_decide.mpr (by omega)]
   cases hb:b2 p i ln with
   | false =>
    rw [hb] at st
    refine ⟨_,rfl,_,rfl,a,CL,dx,_,_,rfl,hdx,T.cl,T.nRank,ln_rank _ _ _ _ _,_,_,rfl,some (.int i),some (.ref a),by rw [←emx2]; rfl,y1,?_⟩
    rw [st]
    simpa using y2
   | true =>
    rw [hb] at st
    refine ⟨_,rfl,.inl ⟨rfl,_,SqL.of y2.choose_spec.1⟩,_,rfl,(by show 2≤sizeLine; decide),fun u hu=>?_⟩
    have s5:Same H4 (upd H4 u (.tup [.int 2,.int i])):=Same.new hu
    obtain ⟨ts,e1,e2,e3⟩:=(y2.same s5).push (t:=u) (x:=(2,i)) upd_same
    refine ⟨q,_,_,rfl,rfl,e1,?_,?_⟩
    ·rw [List.length_map,e2,List.length_map]
     have:=badL_len (p.take i) (b2 p)
     rw [List.length_take] at this
     have:=line_big
     omega
    have hdx5:upd (upd H4 u (.tup [.int 2,.int i])) q (.lst (ts.map V.ref++[.ref u])) a=some (.ins CL dx (lnF ln.sort (sN (nmOf ln)) (loOf ln) (hiOf ln) (cloOf ln))):=by
     rw [upd_ne (ne_of (s5 _ _ hdx) e1 (by intro z; cases z))]; exact s5 _ _ hdx
    have S6:Same H (upd (upd H4 u (.tup [.int 2,.int i])) q (.lst (ts.map V.ref++[.ref u]))):=Same.put (y1.trans s5) hq
    refine ⟨_,rfl,_,rfl,a,CL,dx,_,_,rfl,hdx5,T.cl,T.nRank,ln_rank _ _ _ _ _,_,_,rfl,some (.int i),some (.ref a),by rw [←emx2]; rfl,S6,?_⟩
    rw [st,bad_map]
    exact e3
  ·rintro σ H' ⟨v3,v4,rfl,z1,z2⟩
   rw [List.length_map,Pd.len hp0,List.take_length] at z2
   exact ⟨_,rfl,k H' q z1 z2⟩
end
end Cw
namespace Cw
open PySem PySem.Spec PyProof.Rows L2 CwG CwR TL
def rGetL(K:PySem.W.Frag):V->V->Hp->VK->Prop:=fun x y H Q=>∃ (p:Addr) (xs:List V) (j:Nat) (z:V),x=.ref p∧y=.int (j:Nat)∧SqL K H p xs∧xs[j]?=some z∧Q z H
theorem get_list{X:Cx}:PGet X (rGetL X.K):=by
 intro pins s σ H x y v u Q I rx ry h
 obtain ⟨p,xs,j,z,rfl,rfl,hq,he,q⟩:=h
 cases rx
 obtain ⟨t,rfl⟩:=ry
 obtain ⟨its,r,pl,hz⟩:=I.list hq
 obtain ⟨w,ew,rw'⟩:=r.get he
 have hl:=r.length
 have hn:=line63
 have hj:j < its.length:=(List.getElem?_eq_some_iff.mp ew).1
 exact wpAny_getItem_list pl.isList (by omega) (by omega) (by simpa using ew) ⟨z,H,I,rw',q⟩
def cntV(p:List Rung.Line)(i:Nat):List V:=(List.range 4).map fun σ=>V.int (cnt p σ i:Nat)
theorem cntV_at(p:List Rung.Line)(i:Nat){σ:Nat}(h:σ < 4):(cntV p i)[σ]?=some (.int (cnt p σ i:Nat)):=by
 unfold cntV
 rw [List.getElem?_map,List.getElem?_range h]
 rfl
theorem cntV_set{p:List Rung.Line}{i:Nat}{l:Rung.Line}(hl:p[i]?=some l)(h:l.sort < 4):(cntV p i).set l.sort (.int ((cnt p l.sort i:Nat)+1:Int))=cntV p (i+1):=by
 apply List.ext_getElem?
 intro σ
 by_cases hs:σ < 4
 ·rw [cntV_at p (i+1) hs,cnt_step hl]
  by_cases e:l.sort=σ
  ·subst e
   rw [List.getElem?_set_self (by simp [cntV]; omega),if_pos rfl]
   congr 2
  ·rw [List.getElem?_set_ne e,cntV_at p i hs,if_neg e]
   rfl
 ·rw [List.getElem?_eq_none (by simp [cntV]; omega),List.getElem?_eq_none (by simp [cntV]; omega)]
theorem sort_lt(l:Rung.Line):l.sort < 4:=by cases l<;>simp [Rung.Line.sort]
theorem most_at(l:Rung.Line):([V.int 16,V.int 12,V.int 16,V.int 256]:List V)[l.sort]?=some (.int (Rung.mostOf l.sort:Nat)):=by cases l<;>rfl
section
variable {P:Program} {w:World} {K:PySem.W.Frag} {mg:Str->Option Value} {base:Heap} {CL:Addr}
theorem scFMany:FnScope ["lines","faults","counts","number","line"] ["lines"] (defScope sFMany):=⟨rfl,rfl,rfl,by decide +kernel,rfl,by decide +kernel,by decide +kernel⟩
theorem ok_fMany{f:Addr}{fd:FuncData}(F:Fun K "faults_of_many" "faults_of_many" sFMany f fd)(T:TxR K mg CL)(U:TxQ K mg):FnOk P w K mg base CX0 1 f fd ["lines"] (spFlt CL 3 b3e):=by
 refine F.ok scFMany (fun vs H Q E h=>?_) (fun cdv A outer s H vs Q E hr h=>?_)
 ·obtain ⟨l,p,rfl,_⟩:=h
  rfl
 ·obtain ⟨l,p,rfl,⟨as0,hl0,hp0⟩,hlen,k⟩:=h
  obtain ⟨ml,hml,hmt⟩:=U.most
  refine ⟨_,pss_cons (ps_set (i:=1) scFMany.nd rfl (Or.inl rfl) (pe_lst pa_nil))
   (pss_cons (ps_set (i:=2) scFMany.nd rfl (Or.inl rfl) (pe_lst (pa_cons pe_int (pa_cons pe_int (pa_cons pe_int (pa_cons pe_int pa_nil))))))
   (pss_cons (ps_for PassesOwn.never rfl (pi_enum rfl U.enum (pa_cons (pv 0) pa_nil)) (pg_tup rfl (pgs_cons (pg_name (i:=3) scFMany.nd rfl (Or.inl rfl)) (pgs_cons (pg_name (i:=4) scFMany.nd rfl (Or.inl rfl)) pgs_nil)))
    (pss_cons (ps_augS (pv 2) (pe_fld (pv 4) rfl) get_list pe_int ip_add set_list)
     (pss_one (ps_if (pt_cmpR op_eq (pe_ix ix_list (pv 2) (pe_fld (pv 4) rfl) (fun _ _=>rfl)) (pe_op op_add (pe_ix ix_tup (pe_glob (v:=.ref ml) rfl hml rfl) (pe_fld (pv 4) rfl) (fun _ _=>rfl)) pe_int) (nomark _)) (pss_one (ps_expr (pe_bm PySem.F.plainAttrs_list PySem.F.slot_list_append PySem.F.type_list_append mt_append (pv 1) (pa_cons (pe_tup (pa_cons (pe_gI rfl U.tooMany) (pa_cons (pv 3) pa_nil))) pa_nil)))) pss_nil))))
   (pss_one (ps_ret (pv 1))))),?_⟩
  refine ⟨Nat.zero_le _,fun q hq=>⟨(by show 4≤sizeLine; decide),fun c hc=>?_⟩⟩
  have ncq:c≠q:=(ne_of_none (upd_same) hc).symm
  have hcH:H c=none:=by have:=hc; rw [upd_ne ncq] at this; exact this
  have S0:Same H (upd (upd H q (.lst [])) c (.lst [.int 0,.int 0,.int 0,.int 0])):=Same.put (Same.new hq) hcH
  have hq0:FltAt (upd (upd H q (.lst [])) c (.lst [.int 0,.int 0,.int 0,.int 0])) q ((badL (p.take 0) (b3e p)).map fun j=>(3,j)):=⟨[],by rw [upd_ne ncq.symm,upd_same]; rfl,.nil⟩
  have hc0:upd (upd H q (.lst [])) c (.lst [.int 0,.int 0,.int 0,.int 0]) c=some (.lst (cntV p 0)):=upd_same
  generalize upd (upd H q (.lst [])) c (.lst [.int 0,.int 0,.int 0,.int 0])=H0 at *
  refine ⟨_,rfl,l,_,rfl,SqL.of (S0 _ _ hl0),for_enum (xs:=as0.map V.ref) (fun i σ H'=>∃ v3 v4:Option V,σ=[some (.ref l),some (.ref q),some (.ref c),v3,v4]∧Same H H'∧FltAt H' q ((badL (p.take i) (b3e p)).map fun j=>(3,j))∧H' c=some (.lst (cntV p i))) ?_ ?_ ?_ ?_⟩
  ·exact ⟨none,none,rfl,S0,hq0,hc0⟩
  ·rintro i σ H' hi ⟨_,_,rfl,z,_⟩
   exact SqL.of (z _ _ hl0)
  ·rintro i y σ H' t hy ⟨v3,v4,rfl,z1,z2,z3⟩ ht
   obtain ⟨a,ha,rfl⟩:=map_get hy
   obtain ⟨ln,hln,hca⟩:=Pd.get hp0 ha
   have s0:Same H' (upd H' t (.tup [.int i,.ref a])):=Same.new ht
   have y1:=z1.trans s0
   have y2:=z2.same s0
   have y3:=s0 _ _ z3
   generalize upd H' t (.tup [.int i,.ref a])=H4 at *
   obtain ⟨dx,hdx⟩:=hca.same y1
   have st:=badL_snoc (bad:=b3e p) hln
   have sl:=sort_lt ln
   have il:i < p.length:=(List.getElem?_eq_some_iff.mp hln).1
   refine ⟨_,rfl,_,rfl,a,CL,dx,_,_,rfl,hdx,T.cl,T.nRank,ln_rank _ _ _ _ _,c,_,ln.sort,_,rfl,rfl,SqL.of y3,cntV_at p i sl,_,_,rfl,rfl,c,_,_,ln.sort,rfl,rfl,y3,ixN_nat (by simp [cntV]; omega),?_⟩
   rw [cntV_set hln sl]
   have hdx5:upd H4 c (.lst (cntV p (i+1))) a=some (.ins CL dx (lnF ln.sort (sN (nmOf ln)) (loOf ln) (hiOf ln) (cloOf ln))):=by
    rw [upd_ne (ne_of hdx y3 (by intro z; cases z))]; exact hdx
   have S5:Same H (upd H4 c (.lst (cntV p (i+1)))):=Same.put y1 hcH
   have hc5:upd H4 c (.lst (cntV p (i+1))) c=some (.lst (cntV p (i+1))):=upd_same
   have hq5:FltAt (upd H4 c (.lst (cntV p (i+1)))) q ((badL (p.take i) (b3e p)).map fun j=>(3,j)):=by
    obtain ⟨ts,e,r⟩:=y2
    refine ⟨ts,by rw [upd_ne ncq.symm]; exact e,Pd.imp (fun t' x' z=>?_) r⟩
    unfold TpA at z ⊢
    rw [upd_ne (ne_of z y3 (by intro y; cases y))]
    exact z
   generalize upd H4 c (.lst (cntV p (i+1)))=H5 at *
   refine ⟨_,rfl,_,rfl,a,CL,dx,_,_,rfl,hdx5,T.cl,T.nRank,ln_rank _ _ _ _ _,c,_,_,_,rfl,rfl,SqL.of hc5,atI_nat (cntV_at p (i+1) sl),?_⟩
   refine ⟨_,rfl,a,CL,dx,_,_,rfl,hdx5,T.cl,T.nRank,ln_rank _ _ _ _ _,ml,_,_,_,rfl,rfl,hmt _,atI_nat (most_at ln),_,_,rfl,rfl,rfl,_,rfl,?_⟩
   have eb:decide (V.int ((cnt p ln.sort (i+1):Nat):Int)=V.int ((Rung.mostOf ln.sort:Nat)+1:Int))=b3e p i ln:=by
    unfold b3e
    rw [cnt_step hln,if_pos rfl]
    apply decide_eq_decide.mpr
    show V.int (((cnt p ln.sort i+1:Nat)):Int)=_↔cnt p ln.sort i=_
    constructor
    ·intro z; injection z with z; omega
    ·intro z; rw [z]; rfl
   rw [eb]
   cases hb:b3e p i ln with
   | false =>
    rw [hb] at st
    refine ⟨_,_,rfl,S5,?_,hc5⟩
    rw [st]
    simpa using hq5
   | true =>
    rw [hb] at st
    refine ⟨_,rfl,.inl ⟨rfl,_,SqL.of hq5.choose_spec.1⟩,_,rfl,(by show 2≤sizeLine; decide),fun u hu=>?_⟩
    have s5:Same H5 (upd H5 u (.tup [.int 3,.int i])):=Same.new hu
    obtain ⟨ts,e1,e2,e3⟩:=(hq5.same s5).push (t:=u) (x:=(3,i)) upd_same
    refine ⟨q,_,_,rfl,rfl,e1,?_,?_⟩
    ·rw [List.length_map,e2,List.length_map]
     have:=badL_len (p.take i) (b3e p)
     rw [List.length_take] at this
     have:=line_big
     omega
    refine ⟨_,_,rfl,Same.put (S5.trans s5) hq,?_,?_⟩
    ·rw [st,bad_map]
     exact e3
    ·rw [upd_ne ncq]; exact s5 _ _ hc5
  ·rintro σ H' ⟨v3,v4,rfl,z1,z2,z3⟩
   rw [List.length_map,Pd.len hp0,List.take_length] at z2
   exact ⟨_,rfl,k H' q z1 z2⟩
end
end Cw
namespace Cw
open PySem PySem.Spec PyProof.Rows L2 CwG CwR TL
theorem sN_inj{x y:Rung.Name}:sN x=sN y↔x=y:=by
 constructor
 ·intro e
  have:tl (sN x)=tl (sN y):=by rw [e]
  exact toNat_inj this
 ·intro e; rw [e]
theorem putK_len{κ:Type}[DecidableEq κ](kvs:List (κ×V))(k:κ)(v:V):(putK kvs k v).length≤kvs.length+1:=by
 unfold putK
 split
 ·rw [List.length_map]; omega
 ·simp
def Giv(kvs:List (Key×V))(l:List Rung.Line):Prop:=(∀ x:Rung.Name,(valV kvs (Sum.inr (sN x))).isSome=decide (x∈nmL l))∧kvs.length≤l.length
theorem nmL_snoc(l:List Rung.Line)(a:Rung.Line):nmL (l++[a])=nmL l++(if a.sort=3 then [] else [nmOf a]):=by
 unfold nmL
 rw [List.filterMap_append]
 congr 1
 by_cases e:a.sort=3
 ·have:a.gives=none:=by cases a<;>first | rfl | cases e
  simp [e,this]
 ·simp [e,gives_nm e]
theorem Giv.put{kvs:List (Key×V)}{l:List Rung.Line}{a:Rung.Line}(h:Giv kvs l)(ha:a.sort≠3)(v:V):Giv (putK kvs (Sum.inr (sN (nmOf a))) v) (l++[a]):=by
 refine ⟨fun x=>?_,?_⟩
 ·rw [valV_put,nmL_snoc,if_neg ha]
  by_cases e:x=nmOf a
  ·subst e
   rw [if_pos rfl]
   simp
  ·rw [if_neg (fun z=>e (sN_inj.mp (by injection z))),h.1 x]
   simp [e]
 ·have:=putK_len kvs (Sum.inr (sN (nmOf a))) v
  have:=h.2
  rw [List.length_append,List.length_singleton]
  omega
theorem Giv.skip{kvs:List (Key×V)}{l:List Rung.Line}{a:Rung.Line}(h:Giv kvs l)(ha:a.sort=3):Giv kvs (l++[a]):=by
 refine ⟨fun x=>?_,?_⟩
 ·rw [nmL_snoc,if_pos ha,List.append_nil]; exact h.1 x
 ·have:=h.2
  rw [List.length_append,List.length_singleton]
  omega
theorem b4_eq{p:List Rung.Line}{i:Nat}{l:Rung.Line}(h:l.sort≠3):b4 p i l=decide (nmOf l∈nmL (p.take i)):=by
 unfold b4
 rw [gives_nm h,Option.isSome_some,Bool.true_and,Bool.eq_iff_iff,List.any_eq_true,decide_eq_true_eq]
 unfold nmL
 rw [List.mem_filterMap]
 constructor
 ·rintro ⟨m,h1,h2⟩; exact ⟨m,h1,by simpa using h2⟩
 ·rintro ⟨m,h1,h2⟩; exact ⟨m,h1,by simpa using h2⟩
theorem b4_con{p:List Rung.Line}{i:Nat}{l:Rung.Line}(h:l.sort=3):b4 p i l=false:=by
 have:l.gives=none:=by cases l<;>first | rfl | cases h
 unfold b4
 rw [this]
 rfl
theorem rank_dec(l:Rung.Line)(n:Nat):decide (V.int (l.sort:Nat)=V.int (n:Nat))=decide (l.sort=n):=decide_eq_decide.mpr ⟨fun e=>by injection e with e; omega,fun e=>by rw [e]⟩
section
variable {P:Program} {w:World} {K:PySem.W.Frag} {mg:Str->Option Value} {base:Heap} {CL:Addr}
theorem scFNames:FnScope ["lines","faults","given","number","line"] ["lines"] (defScope sFNames):=⟨rfl,rfl,rfl,by decide +kernel,rfl,by decide +kernel,by decide +kernel⟩
theorem ok_fNames{f:Addr}{fd:FuncData}(F:Fun K "faults_of_names" "faults_of_names" sFNames f fd)(T:TxR K mg CL)(U:TxQ K mg):FnOk P w K mg base CX0 1 f fd ["lines"] (spFlt CL 4 b4):=by
 refine F.ok scFNames (fun vs H Q E h=>?_) (fun cdv A outer s H vs Q E hr h=>?_)
 ·obtain ⟨l,p,rfl,_⟩:=h
  rfl
 ·obtain ⟨l,p,rfl,⟨as0,hl0,hp0⟩,hlen,k⟩:=h
  have hu:=hu_of hr
  refine ⟨_,pss_cons (ps_set (i:=1) scFNames.nd rfl (Or.inl rfl) (pe_lst pa_nil))
   (pss_cons (ps_set (i:=2) scFNames.nd rfl (Or.inl rfl) pe_dnewK)
   (pss_cons (ps_for PassesOwn.never rfl (pi_enum rfl U.enum (pa_cons (pv 0) pa_nil)) (pg_tup rfl (pgs_cons (pg_name (i:=3) scFNames.nd rfl (Or.inl rfl)) (pgs_cons (pg_name (i:=4) scFNames.nd rfl (Or.inl rfl)) pgs_nil)))
    (pss_one (ps_if (pt_cmpR op_ne (pe_fld (pv 4) rfl) (pe_gI rfl T.contacts) (nomark _))
     (pss_cons (ps_if (pt_cmp (pc_din hu (pe_fld (pv 4) rfl) (pv 2))) (pss_one (ps_expr (pe_bm PySem.F.plainAttrs_list PySem.F.slot_list_append PySem.F.type_list_append mt_append (pv 1) (pa_cons (pe_tup (pa_cons (pe_gI rfl U.given) (pa_cons (pv 3) pa_nil))) pa_nil)))) pss_nil)
      (pss_one (ps_dput hu (pv 2) (pe_fld (pv 4) rfl) pe_bl rfl))) pss_nil)))
   (pss_one (ps_ret (pv 1))))),?_⟩
  refine ⟨Nat.zero_le _,fun q hq=>fun c hc=>?_⟩
  have ncq:c≠q:=(ne_of_none (upd_same) hc).symm
  have hcH:H c=none:=by have:=hc; rw [upd_ne ncq] at this; exact this
  have S0:Same H (upd (upd H q (.lst [])) c (.dK [])):=Same.put (Same.new hq) hcH
  have hq0:FltAt (upd (upd H q (.lst [])) c (.dK [])) q ((badL (p.take 0) (b4 p)).map fun j=>(4,j)):=⟨[],by rw [upd_ne ncq.symm,upd_same]; rfl,.nil⟩
  have hc0:upd (upd H q (.lst [])) c (.dK []) c=some (.dK []):=upd_same
  generalize upd (upd H q (.lst [])) c (.dK [])=H0 at *
  refine ⟨_,rfl,l,_,rfl,SqL.of (S0 _ _ hl0),for_enum (xs:=as0.map V.ref) (fun i σ H'=>∃ v3 v4:Option V,∃ kvs,σ=[some (.ref l),some (.ref q),some (.ref c),v3,v4]∧Same H H'∧FltAt H' q ((badL (p.take i) (b4 p)).map fun j=>(4,j))∧H' c=some (.dK kvs)∧Giv kvs (p.take i)) ?_ ?_ ?_ ?_⟩
  ·exact ⟨none,none,[],rfl,S0,hq0,hc0,fun x=>rfl,Nat.zero_le _⟩
  ·rintro i σ H' hi ⟨_,_,_,rfl,z,_⟩
   exact SqL.of (z _ _ hl0)
  ·rintro i y σ H' t hy ⟨v3,v4,kvs,rfl,z1,z2,z3,z4⟩ ht
   obtain ⟨a,ha,rfl⟩:=map_get hy
   obtain ⟨ln,hln,hca⟩:=Pd.get hp0 ha
   have s0:Same H' (upd H' t (.tup [.int i,.ref a])):=Same.new ht
   have y1:=z1.trans s0
   have y2:=z2.same s0
   have y3:=s0 _ _ z3
   generalize upd H' t (.tup [.int i,.ref a])=H4 at *
   obtain ⟨dx,hdx⟩:=hca.same y1
   have st:=badL_snoc (bad:=b4 p) hln
   have il:i < p.length:=(List.getElem?_eq_some_iff.mp hln).1
   have etk:=CwG.take_snoc hln
   have kl:kvs.length < sizeLine:=by have:=z4.2; rw [List.length_take] at this; have:=line_big; omega
   refine ⟨_,rfl,a,CL,dx,_,_,rfl,hdx,T.cl,T.nRank,ln_rank _ _ _ _ _,rfl,_,rfl,?_⟩
   rw [show decide (V.int (ln.sort:Nat)=V.int 3)=decide (ln.sort=3) from rank_dec ln 3]
   by_cases h3:ln.sort=3
   ·rw [decide_eq_true h3]
    refine ⟨_,_,kvs,rfl,y1,?_,y3,by rw [etk]; exact z4.skip h3⟩
    rw [st,b4_con h3]
    simpa using y2
   rw [decide_eq_false h3]
   have eb:=b4_eq (p:=p) (i:=i) h3
   refine ⟨_,rfl,a,CL,dx,_,_,rfl,hdx,T.cl,T.nName,ln_name _ _ _ _ _,_,rfl,c,_,rfl,DGet.k (k:=Sum.inr (sN (nmOf ln))) y3,_,rfl,?_⟩
   rw [z4.1 (nmOf ln),←eb]
   cases hb:b4 p i ln with
   | false =>
    rw [hb] at st
    refine ⟨_,rfl,_,rfl,a,CL,dx,_,_,rfl,hdx,T.cl,T.nName,ln_name _ _ _ _ _,c,_,rfl,DPut.k (k:=Sum.inr (sN (nmOf ln))) y3 kl,?_⟩
    refine ⟨_,_,_,rfl,Same.put y1 hcH,?_,upd_same,by rw [etk]; exact z4.put h3 _⟩
    obtain ⟨ts,e,r⟩:=y2
    rw [st]
    refine ⟨ts,by rw [upd_ne ncq.symm]; exact e,?_⟩
    simp only [List.append_nil,Bool.false_eq_true,if_false]
    refine Pd.imp (fun t' x' z=>?_) r
    unfold TpA at z ⊢
    rw [upd_ne (ne_of z y3 (by intro y; cases y))]
    exact z
   | true =>
    rw [hb] at st
    refine ⟨_,rfl,.inl ⟨rfl,_,SqL.of y2.choose_spec.1⟩,_,rfl,(by show 2≤sizeLine; decide),fun u hu=>?_⟩
    have s5:Same H4 (upd H4 u (.tup [.int 4,.int i])):=Same.new hu
    obtain ⟨ts,e1,e2,e3⟩:=(y2.same s5).push (t:=u) (x:=(4,i)) upd_same
    refine ⟨q,_,_,rfl,rfl,e1,?_,?_⟩
    ·rw [List.length_map,e2,List.length_map]
     have:=badL_len (p.take i) (b4 p)
     rw [List.length_take] at this
     have:=line_big
     omega
    have hdx5:upd (upd H4 u (.tup [.int 4,.int i])) q (.lst (ts.map V.ref++[.ref u])) a=some (.ins CL dx (lnF ln.sort (sN (nmOf ln)) (loOf ln) (hiOf ln) (cloOf ln))):=by
     rw [upd_ne (ne_of (s5 _ _ hdx) e1 (by intro z; cases z))]; exact s5 _ _ hdx
    have S6:Same H (upd (upd H4 u (.tup [.int 4,.int i])) q (.lst (ts.map V.ref++[.ref u]))):=Same.put (y1.trans s5) hq
    have y6:upd (upd H4 u (.tup [.int 4,.int i])) q (.lst (ts.map V.ref++[.ref u])) c=some (.dK kvs):=by rw [upd_ne ncq]; exact s5 _ _ y3
    generalize upd (upd H4 u (.tup [.int 4,.int i])) q (.lst (ts.map V.ref++[.ref u]))=H6 at *
    refine ⟨_,rfl,_,rfl,a,CL,dx,_,_,rfl,hdx5,T.cl,T.nName,ln_name _ _ _ _ _,c,_,rfl,DPut.k (k:=Sum.inr (sN (nmOf ln))) y6 kl,?_⟩
    refine ⟨_,_,_,rfl,Same.put S6 hcH,?_,upd_same,by rw [etk]; exact z4.put h3 _⟩
    rw [st,bad_map]
    obtain ⟨ts',e,r⟩:=e3
    refine ⟨ts',by rw [upd_ne ncq.symm]; exact e,Pd.imp (fun t' x' z=>?_) r⟩
    unfold TpA at z ⊢
    rw [upd_ne (ne_of z y6 (by intro y; cases y))]
    exact z
  ·rintro σ H' ⟨v3,v4,kvs,rfl,z1,z2,_⟩
   rw [List.length_map,Pd.len hp0,List.take_length] at z2
   exact ⟨_,rfl,k H' q z1 z2⟩
end
end Cw
namespace Cw
open PySem PySem.Spec PyProof.Rows L2 CwG CwR TL
theorem pe_fldK{X:Cx}{K:PySem.W.Frag}{e:Expr}{ta:TE}{f:Str}{pos:Pos}(hK:X.K=K)(he:PE X e ta)(hb:attributeBase e f X.env (eval e X.env)=eval e X.env):PE X (.Attribute e f pos) (tFld K ta f):=by
 subst hK
 exact pe_fld he hb
theorem ix_listK{X:Cx}{K:PySem.W.Frag}(hK:X.K=K):IxR X (rIxL K):=by
 subst hK
 exact ix_list
def vPut(d:List (Key×V))(u:Rung.Name×Nat):List (Key×V):=putK d (Sum.inr (sN u.1)) (.int (u.2:Nat))
def vD(prs:List (Rung.Name×Nat)):List (Key×V):=prs.foldl vPut []
theorem vD_snoc(prs:List (Rung.Name×Nat))(u:Rung.Name×Nat):vD (prs++[u])=vPut (vD prs) u:=by unfold vD; rw [List.foldl_append]; rfl
theorem vD_len(prs:List (Rung.Name×Nat)):(vD prs).length≤prs.length:=by
 induction prs using snocRec with
 | nil=>exact Nat.le_refl _
 | append_singleton prs u ih =>
  rw [vD_snoc,List.length_append,List.length_singleton]
  have:=putK_len (vD prs) (Sum.inr (sN u.1)) (.int (u.2:Nat))
  unfold vPut
  omega
theorem vD_some(prs:List (Rung.Name×Nat))(x:Rung.Name):(valV (vD prs) (Sum.inr (sN x))).isSome=decide (x∈prs.map (·.1)):=by
 induction prs using snocRec with
 | nil=>rfl
 | append_singleton prs u ih =>
  rw [vD_snoc]
  unfold vPut
  rw [valV_put]
  by_cases e:x=u.1
  ·subst e
   rw [if_pos rfl]
   simp
  ·rw [if_neg (fun z=>e (sN_inj.mp (by injection z))),ih]
   simp [e]
def vK(u:Rung.Name×Nat):Key×V:=(Sum.inr (sN u.1),.int (u.2:Nat))
theorem vD_nd(prs:List (Rung.Name×Nat)):(prs.map (·.1)).Nodup->vD prs=prs.map vK:=by
 induction prs using snocRec with
 | nil=>intro _; rfl
 | append_singleton prs u ih =>
  intro nd
  rw [List.map_append,List.nodup_append] at nd
  have ih:=ih nd.1
  rw [vD_snoc]
  have hn:valV (vD prs) (Sum.inr (sN u.1))=none:=by
   have:=vD_some prs u.1
   have hm:u.1∉prs.map (·.1):=fun h=>nd.2.2 u.1 h u.1 (by simp) rfl
   rw [decide_eq_false hm] at this
   simpa using this
  unfold vPut
  rw [putK_new _ hn,ih,List.map_append]
  rfl
theorem vD_lk(prs:List (Rung.Name×Nat))(nd:(prs.map (·.1)).Nodup)(x:Rung.Name):valV (vD prs) (Sum.inr (sN x))=(lk prs x).map fun v=>V.int (v:Nat):=by
 rw [vD_nd prs nd]
 unfold valV lk
 rw [find_map',Option.map_map,Option.map_map]
 have:(fun (a:Rung.Name×Nat)=>decide ((vK a).1=Sum.inr (sN x)))=fun a=>decide (a.1=x):=by
  funext a
  apply decide_eq_decide.mpr
  unfold vK
  exact ⟨fun z=>sN_inj.mp (by injection z),fun z=>by rw [z]⟩
 rw [this]
 rfl
theorem zipsnoc{p:List Rung.Name}{i:Nat}{l:Rung.Name}(h:p[i]?=some l):(p.take (i+1)).zipIdx=(p.take i).zipIdx++[(l,i)]:=zip_snoc' h
def rl(u:Rung.Name×Nat):Rung.Name×Nat:=(u.1,16+u.2)
theorem filt_snoc{p:List Rung.Line}{i:Nat}{l:Rung.Line}(σ:Nat)(h:p[i]?=some l):((p.take (i+1)).filter fun m=>m.sort==σ).map nmOf=((p.take i).filter fun m=>m.sort==σ).map nmOf++if decide (l.sort=σ)=true then [nmOf l] else []:=by
 rw [CwG.take_snoc h,List.filter_append,List.map_append]
 congr 1
 by_cases e:l.sort=σ
 ·simp [e]
 ·simp [e]
def nmV(x:Rung.Name):V:=.str (sN x)
section
variable {P:Program} {w:World} {K:PySem.W.Frag} {mg:Str->Option Value} {base:Heap} {CL:Addr}
def spVars(CL:Addr):Sp:=fun vs H Q _=>∃ (l:Addr) (p:List Rung.Line),vs=[.ref l]∧LinesAt CL H l p∧p.length≤20001∧∀ (H':Hp) (d:Addr),Same H H'->H d=none->H' d=some (.dK (vD (vPairs p)))->Q (.ref d) H'
theorem scVars:FnScope ["lines","inputs","relays","variables","number","name","line"] ["lines"] (defScope sVars):=⟨rfl,rfl,rfl,by decide +kernel,rfl,by decide +kernel,by decide +kernel⟩
theorem ok_vars{f:Addr}{fd:FuncData}(F:Fun K "variables_of" "variables_of" sVars f fd)(T:TxR K mg CL)(U:TxQ K mg):FnOk P w K mg base CX0 1 f fd ["lines"] (spVars CL):=by
 refine F.ok scVars (fun vs H Q E h=>?_) (fun cdv A outer s H vs Q E hr h=>?_)
 ·obtain ⟨l,p,rfl,_⟩:=h
  rfl
 ·obtain ⟨l,p,rfl,⟨as0,hl0,hp0⟩,hlen,k⟩:=h
  have hu:=hu_of hr
  refine ⟨_,pss_cons (ps_setLc (i:=1) (own:=[("line",6)]) rfl scVars.nd rfl rfl (sw_true rfl rfl rfl (by decide +kernel)) (pi_list (pv 0)) (by exact blkOk_by (N:=["lines","inputs","relays","variables","number","name","line"]) (sc:=defScope sVars) (by decide +kernel))
     (fun _ _ _ _ _=>pg_name (i:=6) scVars.nd rfl (Or.inl rfl)) (fun _ _ _ _ _=>pts_one (pt_cmpR op_eq (pe_fldK (K:=K) rfl (pv 6) rfl) (pe_gI rfl T.inputs) (nomark _))) (fun _ _ _ _ _=>pe_fldK (K:=K) rfl (pv 6) rfl))
   (pss_cons (ps_setLc (i:=2) (own:=[("line",6)]) rfl scVars.nd rfl rfl (sw_true rfl rfl rfl (by decide +kernel)) (pi_list (pv 0)) (by exact blkOk_by (N:=["lines","inputs","relays","variables","number","name","line"]) (sc:=defScope sVars) (by decide +kernel))
     (fun _ _ _ _ _=>pg_name (i:=6) scVars.nd rfl (Or.inl rfl)) (fun _ _ _ _ _=>pts_one (pt_cmpR op_eq (pe_fldK (K:=K) rfl (pv 6) rfl) (pe_gI rfl T.relays) (nomark _))) (fun _ _ _ _ _=>pe_fldK (K:=K) rfl (pv 6) rfl))
   (pss_cons (ps_set (i:=3) scVars.nd rfl (Or.inl rfl) pe_dnewK)
   (pss_cons (ps_for PassesOwn.never rfl (pi_enum rfl U.enum (pa_cons (pv 1) pa_nil)) (pg_tup rfl (pgs_cons (pg_name (i:=4) scVars.nd rfl (Or.inl rfl)) (pgs_cons (pg_name (i:=5) scVars.nd rfl (Or.inl rfl)) pgs_nil)))
    (pss_one (ps_dput hu (pv 3) (pv 5) (pv 4) rfl)))
   (pss_cons (ps_for PassesOwn.never rfl (pi_enum rfl U.enum (pa_cons (pv 2) pa_nil)) (pg_tup rfl (pgs_cons (pg_name (i:=4) scVars.nd rfl (Or.inl rfl)) (pgs_cons (pg_name (i:=5) scVars.nd rfl (Or.inl rfl)) pgs_nil)))
    (pss_one (ps_dput hu (pv 3) (pv 5) (pe_op op_add (pe_gI rfl U.firstRelay) (pv 4)) rfl)))
   (pss_one (ps_ret (pv 3))))))),?_⟩
  have flen:∀ σ i,(((p.take i).filter fun m=>m.sort==σ).map nmOf).length≤20001:=fun σ i=>by
   rw [List.length_map]
   have:=List.length_filter_le (fun m:Rung.Line=>m.sort==σ) (p.take i)
   rw [List.length_take] at this
   omega
  refine ⟨_,rfl,l,rfl,⟨_,SqL.of hl0⟩,fun D1 hD1=>lc_list (xs:=as0.map V.ref) (fun i H'=>Same H H'∧H' D1=some (.lst ((((p.take i).filter fun m=>m.sort==0).map nmOf).map nmV))) ⟨Same.new hD1,upd_same⟩ ?_ ?_ ?_⟩
  ·rintro i H' hi ⟨S,_⟩
   exact SqL.of (S _ _ hl0)
  ·rintro i x H' hx ⟨S,hD⟩
   obtain ⟨a,ha,rfl⟩:=map_get hx
   obtain ⟨ln,hln,hca⟩:=Pd.get hp0 ha
   obtain ⟨dx,hdx⟩:=hca.same S
   have st:=filt_snoc 0 hln
   refine ⟨rfl,_,rfl,a,CL,dx,_,_,rfl,hdx,T.cl,T.nRank,ln_rank _ _ _ _ _,rfl,_,rfl,?_⟩
   rw [show decide (V.int (ln.sort:Nat)=V.int 0)=decide (ln.sort=0) from rank_dec ln 0]
   cases hb:decide (ln.sort=0) with
   | false =>
    rw [hb] at st
    refine ⟨S,?_⟩
    rw [st]
    simpa using hD
   | true =>
    rw [hb] at st
    refine ⟨_,rfl,a,CL,dx,_,_,rfl,hdx,T.cl,T.nName,ln_name _ _ _ _ _,_,hD,?_,Same.put S hD1,?_⟩
    ·have:=flen 0 i
     rw [List.length_map]
     have:=line_big
     omega
    ·rw [upd_same,st]
     simp [nmV]
  rintro H1 ⟨S1,hD⟩
  rw [List.length_map,Pd.len hp0,List.take_length] at hD
  have hl1:=S1 _ _ hl0
  have hp1:=Pd.imp (fun _ _=>LineAt.same S1) hp0
  refine ⟨_,rfl,l,rfl,⟨_,SqL.of hl1⟩,fun D2 hD2=>lc_list (xs:=as0.map V.ref) (fun i H'=>Same H1 H'∧H' D2=some (.lst ((((p.take i).filter fun m=>m.sort==1).map nmOf).map nmV))) ⟨Same.new hD2,upd_same⟩ ?_ ?_ ?_⟩
  ·rintro i H' hi ⟨S,_⟩
   exact SqL.of (S _ _ hl1)
  ·rintro i x H' hx ⟨S,hD⟩
   obtain ⟨a,ha,rfl⟩:=map_get hx
   obtain ⟨ln,hln,hca⟩:=Pd.get hp1 ha
   obtain ⟨dx,hdx⟩:=hca.same S
   have st:=filt_snoc 1 hln
   refine ⟨rfl,_,rfl,a,CL,dx,_,_,rfl,hdx,T.cl,T.nRank,ln_rank _ _ _ _ _,rfl,_,rfl,?_⟩
   rw [show decide (V.int (ln.sort:Nat)=V.int 1)=decide (ln.sort=1) from rank_dec ln 1]
   cases hb:decide (ln.sort=1) with
   | false =>
    rw [hb] at st
    refine ⟨S,?_⟩
    rw [st]
    simpa using hD
   | true =>
    rw [hb] at st
    refine ⟨_,rfl,a,CL,dx,_,_,rfl,hdx,T.cl,T.nName,ln_name _ _ _ _ _,_,hD,?_,Same.put S hD2,?_⟩
    ·have:=flen 1 i
     rw [List.length_map]
     have:=line_big
     omega
    ·rw [upd_same,st]
     simp [nmV]
  rintro H2 ⟨S2,hR⟩
  rw [List.length_map,Pd.len hp0,List.take_length] at hR
  have S12:=S1.trans S2
  have hI:H2 D1=some (.lst ((inN p).map nmV)):=S2 _ _ hD
  have hR:H2 D2=some (.lst ((reN p).map nmV)):=hR
  intro d hd
  have fd:H d=none:=S12.free hd
  have S3:Same H2 (upd H2 d (.dK [])):=Same.new hd
  have hd3:upd H2 d (.dK []) d=some (.dK (vD ((inN p).take 0).zipIdx)):=upd_same
  generalize upd H2 d (.dK [])=H3 at *
  have liN:(inN p).length≤20001:=by have:=flen 0 p.length; rw [List.take_length] at this; exact this
  have lrN:(reN p).length≤20001:=by have:=flen 1 p.length; rw [List.take_length] at this; exact this
  refine ⟨_,rfl,D1,_,rfl,SqL.of (S3 _ _ hI),for_enum (xs:=(inN p).map nmV) (fun i σ H'=>∃ v4 v5:Option V,σ=[some (.ref l),some (.ref D1),some (.ref D2),some (.ref d),v4,v5,none]∧Same H2 H'∧H' d=some (.dK (vD ((inN p).take i).zipIdx))) ?_ ?_ ?_ ?_⟩
  ·exact ⟨none,none,rfl,S3,hd3⟩
  ·rintro i σ H' hi ⟨_,_,rfl,z,_⟩
   exact SqL.of (z _ _ hI)
  ·rintro i y σ H' t hy ⟨v4,v5,rfl,z1,z2⟩ ht
   obtain ⟨x,hx,rfl⟩:=map_get hy
   have s0:Same H' (upd H' t (.tup [.int i,nmV x])):=Same.new ht
   have il:i < (inN p).length:=(List.getElem?_eq_some_iff.mp hx).1
   refine ⟨_,rfl,_,rfl,_,rfl,d,_,rfl,DPut.k (k:=Sum.inr (sN x)) (s0 _ _ z2) ?_,?_⟩
   ·have:=vD_len ((inN p).take i).zipIdx
    rw [List.length_zipIdx,List.length_take] at this
    have:=line_big
    omega
   ·refine ⟨_,_,rfl,Same.put (z1.trans s0) hd,?_⟩
    rw [upd_same,zipsnoc hx,vD_snoc]
    rfl
  rintro σ H4 ⟨v4,v5,rfl,z1,z2⟩
  rw [List.length_map,List.take_length] at z2
  refine ⟨_,rfl,D2,_,rfl,SqL.of (z1 _ _ hR),for_enum (xs:=(reN p).map nmV) (fun i σ H'=>∃ v4 v5:Option V,σ=[some (.ref l),some (.ref D1),some (.ref D2),some (.ref d),v4,v5,none]∧Same H2 H'∧H' d=some (.dK (vD ((inN p).zipIdx++(((reN p).take i).zipIdx).map rl)))) ?_ ?_ ?_ ?_⟩
  ·refine ⟨v4,v5,rfl,z1,?_⟩
   rw [z2]
   simp
  ·rintro i σ H' hi ⟨_,_,rfl,z,_⟩
   exact SqL.of (z _ _ hR)
  ·rintro i y σ H' t hy ⟨v4,v5,rfl,z1,z2⟩ ht
   obtain ⟨x,hx,rfl⟩:=map_get hy
   have s0:Same H' (upd H' t (.tup [.int i,nmV x])):=Same.new ht
   have il:i < (reN p).length:=(List.getElem?_eq_some_iff.mp hx).1
   refine ⟨_,rfl,_,_,rfl,rfl,_,rfl,_,rfl,d,_,rfl,DPut.k (k:=Sum.inr (sN x)) (s0 _ _ z2) ?_,?_⟩
   ·have:=vD_len ((inN p).zipIdx++(((reN p).take i).zipIdx).map rl)
    rw [List.length_append,List.length_map,List.length_zipIdx,List.length_zipIdx,List.length_take] at this
    have:=line_big
    have:sizeLine=16777216:=sizeLine_eq
    omega
   ·refine ⟨_,_,rfl,Same.put (z1.trans s0) hd,?_⟩
    rw [upd_same,zipsnoc hx,List.map_append,←List.append_assoc,List.map_singleton,vD_snoc]
    rfl
  rintro σ H5 ⟨v4,v5,rfl,z1,z2⟩
  rw [List.length_map,List.take_length] at z2
  exact ⟨_,rfl,k H5 d (S12.trans z1) fd z2⟩
end
end Cw
namespace Cw
open PySem PySem.Spec PyProof.Rows L2 CwG CwR TL
theorem pg_tupK{X:Cx}{K:PySem.W.Frag}{es:List Expr}{k:Nat}{t:TGs}{n:Nat}{pos:Pos}(hK:X.K=K)(hc:X.calm=true)(h:PGs X es t)
  (hn:(assignEach es X.env).length=n:=by rfl) (hst:(assignEach es X.env).findIdx? (·.1)=none:=by rfl):PG X (.Tuple es k pos) (gTup K n t):=by
 subst hK
 exact pg_tup hc h hn hst
theorem lc_enum{K:PySem.W.Frag}{a:Addr}{xs:List V}{p q:Nat}{tt:TT}{te:TE}{vs:List Nat}{σ:L2.St}{H1:Hp}{D:Addr}{Qd:Hp->Prop}(Pv:Nat->Hp->Prop)(h0:Pv 0 (upd H1 D (.lst [])))(hl:∀ i H,i≤xs.length->Pv i H->SqL K H a xs)
  (hs:∀ i x H T,xs[i]?=some x->Pv i H->H T=none->wipe (((wipe σ vs).set p (some (.int (i:Nat)))).set q (some x)) vs=wipe σ vs∧tt (((wipe σ vs).set p (some (.int (i:Nat)))).set q (some x)) (upd H T (.tup [.int (i:Nat),x])) fun b H3 =>
   if b=true then te (((wipe σ vs).set p (some (.int (i:Nat)))).set q (some x)) H3 fun y H4=>∃ acc,H4 D=some (.lst acc)∧acc.length < sizeLine∧Pv (i+1) (upd H4 D (.lst (acc++[y]))) else Pv (i+1) H3) (hd:∀ H,Pv xs.length H->Qd H) :
  ∃ W:Nat->Nat->Hp->Prop,(∃ m,W 0 m (upd H1 D (.lst [])))∧∀ i m H,W i m H ->
   ((Ite K a).stop i H∧Qd H)∨((Ite K a).go i H∧∃ Nx:Hp->Prop,(∀ H',Nx H'->∃ m',m' < m∧W (i+1) m' H')∧∀ x H',(Ite K a).yld i H x H'->(gTup K 2 (gCons (gName p) (gCons (gName q) gNil))) x (wipe σ vs) H' fun σ2 H2=>wipe σ2 vs=wipe σ vs∧tt σ2 H2 fun b H3 =>
    if b=true then te σ2 H3 fun y H4=>∃ acc,H4 D=some (.lst acc)∧acc.length < sizeLine∧Nx (upd H4 D (.lst (acc++[y]))) else Nx H3):=by
 refine ⟨fun i m H=>m=xs.length - i∧i≤xs.length∧Pv i H,⟨xs.length,by simp,Nat.zero_le _,h0⟩,?_⟩
 rintro i m H ⟨rfl,hi,pp⟩
 have hq:=hl i H hi pp
 by_cases hlt:i < xs.length
 ·refine .inr ⟨⟨xs,xs[i],hq,by simp [hlt]⟩,Pv (i+1),fun H' p'=>⟨xs.length - (i+1),by omega,rfl,hlt,p'⟩,fun v H' y=>?_⟩
  obtain ⟨T,x,rfl,hT,rfl,y⟩:=y
  exact ⟨T,_,rfl,SqT.of upd_same,rfl,_,_,rfl,_,_,rfl,rfl,hs i x H T (y xs hq) pp hT⟩
 ·have e:i=xs.length:=by omega
  subst e
  exact .inl ⟨⟨xs,hq,Nat.le_refl _⟩,hd H pp⟩
def dT2(x:Nat×Nat):PyData:=.tuple [.int (x.1:Nat),.int (x.2:Nat)]
theorem dp_tups{K:PySem.W.Frag}{H:Hp}:∀ {ts:List Addr} {fs:List (Nat×Nat)},Paired (TpA H) ts fs->DpAll K H (ts.map V.ref) (fs.map dT2)
 | _,_,.nil=>.nil
 | _,_,.cons h t=>.cons (.tup (SqT.of h) (.cons (.int _) (.cons (.int _) .nil))) (dp_tups t)
theorem lay_tups:∀ fs:List (Nat×Nat),PyData.canLayAll0 (fs.map dT2)=true∧PyData.depthAll (fs.map dT2)≤1
 | []=>⟨rfl,Nat.zero_le _⟩
 | x::fs=>by
  obtain ⟨h1,h2⟩:=lay_tups fs
  constructor
  ·show (PyData.canLay0 (dT2 x)&&PyData.canLayAll0 (fs.map dT2))=true
   rw [h1]; rfl
  ·show max (PyData.depth (dT2 x)) (PyData.depthAll (fs.map dT2))≤1
   have:PyData.depth (dT2 x)=1:=rfl
   omega
theorem ne_nil{K:PySem.W.Frag}{H:Hp}{a p:Addr}{fs:List (Nat×Nat)}{Q:VK}(h:FltAt H a fs)(hp:H p=some (.lst []))(k:Q (.bl (!fs.isEmpty)) H):rNeD K (.ref a) (.ref p) H Q:=by
 obtain ⟨ts,h1,h2⟩:=h
 obtain ⟨l1,l2⟩:=lay_tups fs
 refine ⟨.list (fs.map dT2),.list [],.lst (SqL.of h1) (dp_tups h2),.lst (SqL.of hp) .nil,?_,rfl,?_⟩
 ·show (PyData.canLayAll0 (fs.map dT2)&&decide (PyData.depthAll (fs.map dT2)+1≤64))=true
  rw [l1,decide_eq_true (by omega)]; rfl
 ·have e:PyData.eqv (.list (fs.map dT2)) (.list [])=fs.isEmpty:=by
   cases fs<;>rfl
  rw [e]
  exact k
def ffOf(os:List (Option Rung.Line)):Nat×Nat:=match os.findIdx? Option.isNone with
 | some k=>(1,k)
 | none=>((faults (os.filterMap id)).head?).getD (0,0)
theorem find_some:∀ p:List Rung.Line,(p.map some).findIdx? Option.isNone=none
 | []=>rfl
 | a::p=>by rw [List.map_cons,List.findIdx?_cons,find_some p]; rfl
theorem find_none:∀ (p:List Rung.Line) (r:List (Option Rung.Line)),(p.map some++none::r).findIdx? Option.isNone=some p.length
 | [],r=>rfl
 | a::p,r=>by rw [List.map_cons,List.cons_append,List.findIdx?_cons,find_none p r]; rfl
theorem fm_id:∀ p:List Rung.Line,(p.map some).filterMap id=p
 | []=>rfl
 | a::p=>by rw [List.map_cons,List.filterMap_cons]; simp [fm_id p]
theorem ff_some(p:List Rung.Line):ffOf (p.map some)=((faults p).head?).getD (0,0):=by unfold ffOf; rw [find_some,fm_id]
theorem ff_none(p:List Rung.Line)(r:List (Option Rung.Line)):ffOf (p.map some++none::r)=(1,p.length):=by unfold ffOf; rw [find_none]
def noneL(os:List (Option Rung.Line)):List Nat:=os.zipIdx.filterMap fun u=>if u.1.isNone=true then some u.2 else none
theorem noneL_snoc{os:List (Option Rung.Line)}{i:Nat}{o:Option Rung.Line}(h:os[i]?=some o):noneL (os.take (i+1))=noneL (os.take i)++if o.isNone=true then [i] else []:=by
 unfold noneL
 rw [zip_snoc' h,List.filterMap_append]
 congr 1
 cases o<;>rfl
theorem noneL_len(os:List (Option Rung.Line)):(noneL os).length≤os.length:=by
 have:=List.length_filterMap_le (fun u:Option Rung.Line×Nat=>if u.1.isNone=true then some u.2 else none) os.zipIdx
 rw [List.length_zipIdx] at this
 exact this
theorem noneL_some(p:List Rung.Line):noneL (p.map some)=[]:=by
 unfold noneL
 rw [List.filterMap_eq_nil_iff]
 rintro ⟨o,k⟩ h
 have:=List.mem_zipIdx_iff_getElem?.mp h
 simp only [List.getElem?_map,Option.map_eq_some_iff] at this
 obtain ⟨l,_,rfl⟩:=this
 rfl
theorem noneL_none(p:List Rung.Line)(r:List (Option Rung.Line)):(noneL (p.map some++none::r)).head?=some p.length:=by
 unfold noneL
 have h0:=noneL_some p
 unfold noneL at h0
 rw [List.zipIdx_append,List.filterMap_append,h0,List.nil_append,List.zipIdx_cons,List.filterMap_cons]
 simp
theorem lns_lines{CL:Addr}{H:Hp}:∀ {vs:List V} {p:List Rung.Line},Paired (LnV CL H) vs (p.map some)->∃ as:List Addr,vs=as.map V.ref∧Paired (LineAt CL H) as p
 | [],[],_=>⟨[],rfl,.nil⟩
 | _::_,ln::p,.cons h t=>by
  obtain ⟨a,rfl,ha⟩:=h
  obtain ⟨as,rfl,has⟩:=lns_lines t
  exact ⟨a::as,rfl,.cons ha has⟩
section
variable {P:Program} {w:World} {K:PySem.W.Frag} {mg:Str->Option Value} {base:Heap} {CL:Addr}
theorem scFCons:FnScope ["lines","variables","faults","number","line"] ["lines"] (defScope sFCons):=⟨rfl,rfl,rfl,by decide +kernel,rfl,by decide +kernel,by decide +kernel⟩
theorem b5_eq{p:List Rung.Line}{i:Nat}{l:Rung.Line}(h:l.sort=3):b5 p i l=!(valV (vD (vPairs p)) (Sum.inr (sN (nmOf l)))).isSome:=by
 rw [vD_some,←lk_some,←var_lk]
 cases l with
 | contact c x a b =>
  show (Rung.varOf p x).isNone=!(Rung.varOf p x).isSome
  cases Rung.varOf p x<;>rfl
 | _=>cases h
theorem b5_no{p:List Rung.Line}{i:Nat}{l:Rung.Line}(h:l.sort≠3):b5 p i l=false:=by
 cases l with
 | contact c x a b=>exact absurd rfl h
 | _=>rfl
theorem ok_fCons{f fV:Addr}{fd fdV:FuncData}(F:Fun K "faults_of_contacts" "faults_of_contacts" sFCons f fd)(T:TxR K mg CL)(U:TxQ K mg)(CV:Cal P w K mg base "variables_of" ["lines"] (spVars CL) 1 fV fdV):FnOk P w K mg base CX0 2 f fd ["lines"] (spFlt CL 5 b5):=by
 refine F.ok scFCons (fun vs H Q E h=>?_) (fun cdv A outer s H vs Q E hr h=>?_)
 ·obtain ⟨l,p,rfl,_⟩:=h
  rfl
 ·obtain ⟨l,p,rfl,hL,hlen,k⟩:=h
  have hu:=hu_of hr
  refine ⟨_,pss_cons (ps_set (i:=1) scFCons.nd rfl (Or.inl rfl) (pe_call CV.ok hr rfl CV.m CV.kp CV.b .nil pass0 (pa_cons (pv 0) pa_nil)))
   (pss_cons (ps_set (i:=2) scFCons.nd rfl (Or.inl rfl) (pe_lst pa_nil))
   (pss_cons (ps_for PassesOwn.never rfl (pi_enum rfl U.enum (pa_cons (pv 0) pa_nil)) (pg_tup rfl (pgs_cons (pg_name (i:=3) scFCons.nd rfl (Or.inl rfl)) (pgs_cons (pg_name (i:=4) scFCons.nd rfl (Or.inl rfl)) pgs_nil)))
    (pss_one (ps_if (PW.pt (pw_and (pt_cmpR op_eq (pe_fld (pv 4) rfl) (pe_gI rfl T.contacts) (nomark _)) (pw_and1 (pt_cmp (pc_dnotin hu (pe_fld (pv 4) rfl) (pv 1))))))
     (pss_one (ps_expr (pe_bm PySem.F.plainAttrs_list PySem.F.slot_list_append PySem.F.type_list_append mt_append (pv 2) (pa_cons (pe_tup (pa_cons (pe_gI rfl U.nobody) (pa_cons (pv 3) pa_nil))) pa_nil)))) pss_nil)))
   (pss_one (ps_ret (pv 2))))),?_⟩
  refine ⟨_,rfl,l,p,rfl,hL,hlen,fun H1 d S1 fd hd=>?_⟩
  obtain ⟨as0,hl0,hp0⟩:=hL
  refine ⟨Nat.zero_le _,fun q hq=>?_⟩
  have fq:H q=none:=S1.free hq
  have S0:Same H1 (upd H1 q (.lst [])):=Same.new hq
  have hq0:FltAt (upd H1 q (.lst [])) q ((badL (p.take 0) (b5 p)).map fun j=>(5,j)):=⟨[],upd_same,.nil⟩
  have S01:=S1.trans S0
  generalize upd H1 q (.lst [])=H0 at *
  refine ⟨_,rfl,l,_,rfl,SqL.of (S01 _ _ hl0),for_enum (xs:=as0.map V.ref) (fun i σ H'=>∃ v3 v4:Option V,σ=[some (.ref l),some (.ref d),some (.ref q),v3,v4]∧Same H H'∧Same H1 H'∧FltAt H' q ((badL (p.take i) (b5 p)).map fun j=>(5,j))) ?_ ?_ ?_ ?_⟩
  ·exact ⟨none,none,rfl,S01,S0,hq0⟩
  ·rintro i σ H' hi ⟨_,_,rfl,z,_⟩
   exact SqL.of (z _ _ hl0)
  ·rintro i y σ H' t hy ⟨v3,v4,rfl,z1,z1',z2⟩ ht
   obtain ⟨a,ha,rfl⟩:=map_get hy
   obtain ⟨ln,hln,hca⟩:=Pd.get hp0 ha
   have s0:Same H' (upd H' t (.tup [.int i,.ref a])):=Same.new ht
   have y1:=z1.trans s0
   have y1':=z1'.trans s0
   have y2:=z2.same s0
   generalize upd H' t (.tup [.int i,.ref a])=H4 at *
   obtain ⟨dx,hdx⟩:=hca.same y1
   have st:=badL_snoc (bad:=b5 p) hln
   have il:i < p.length:=(List.getElem?_eq_some_iff.mp hln).1
   refine ⟨_,rfl,a,CL,dx,_,_,rfl,hdx,T.cl,T.nRank,ln_rank _ _ _ _ _,rfl,_,rfl,?_⟩
   rw [show decide (V.int (ln.sort:Nat)=V.int 3)=decide (ln.sort=3) from rank_dec ln 3]
   by_cases h3:ln.sort=3
   ·rw [decide_eq_true h3]
    have eb:=b5_eq (p:=p) (i:=i) h3
    refine ⟨_,rfl,a,CL,dx,_,_,rfl,hdx,T.cl,T.nName,ln_name _ _ _ _ _,_,rfl,d,_,rfl,DGet.k (k:=Sum.inr (sN (nmOf ln))) (y1' _ _ hd),_,rfl,?_⟩
    rw [←eb]
    cases hb:b5 p i ln with
    | false =>
     rw [hb] at st
     refine ⟨_,_,rfl,y1,y1',?_⟩
     rw [st]
     simpa using y2
    | true =>
     rw [hb] at st
     refine ⟨_,rfl,.inl ⟨rfl,_,SqL.of y2.choose_spec.1⟩,_,rfl,(by show 2≤sizeLine; decide),fun u hu=>?_⟩
     have s5:Same H4 (upd H4 u (.tup [.int 5,.int i])):=Same.new hu
     obtain ⟨ts,e1,e2,e3⟩:=(y2.same s5).push (t:=u) (x:=(5,i)) upd_same
     refine ⟨q,_,_,rfl,rfl,e1,?_,?_⟩
     ·rw [List.length_map,e2,List.length_map]
      have:=badL_len (p.take i) (b5 p)
      rw [List.length_take] at this
      have:=line_big
      omega
     refine ⟨_,_,rfl,Same.put (y1.trans s5) fq,Same.put (y1'.trans s5) hq,?_⟩
     rw [st,bad_map]
     exact e3
   ·rw [decide_eq_false h3]
    refine ⟨_,_,rfl,y1,y1',?_⟩
    rw [st,b5_no h3]
    simpa using y2
  ·rintro σ H' ⟨v3,v4,rfl,z1,_,z2⟩
   rw [List.length_map,Pd.len hp0,List.take_length] at z2
   exact ⟨_,rfl,k H' q z1 z2⟩
def spFirstF(CL:Addr):Sp:=fun vs H Q _=>∃ (l:Addr) (os:List (Option Rung.Line)),vs=[.ref l]∧LnsAt CL H l os∧os.length≤20001∧∀ (H':Hp) (t:Addr),Same H H'->TpA H' t (ffOf os)->Q (.ref t) H'
theorem scFirstF:FnScope ["lines","shapeless","faults","number","line"] ["lines"] (defScope sFirstF):=⟨rfl,rfl,rfl,by decide +kernel,rfl,by decide +kernel,by decide +kernel⟩
theorem lex2{a b:Nat×Nat}(h:lt2 a b):HT.lexLt [(b.1:Int),(b.2:Int)] [(a.1:Int),(a.2:Int)]=false:=by
 unfold lt2 at h
 rw [HT.lexLt_cons]
 by_cases e:b.1=a.1
 ·rw [if_pos (by rw [e]),HT.lexLt_cons,if_neg (by omega)]
  exact decide_eq_false (by omega)
 ·rw [if_neg (by omega)]
  exact decide_eq_false (by omega)
theorem ok_firstF{f f1 f2 f3 f4:Addr}{fd fd1 fd2 fd3 fd4:FuncData}(F:Fun K "first_fault" "first_fault" sFirstF f fd)(T:TxR K mg CL)(U:TxQ K mg)(C2:Cal P w K mg base "faults_of_order" ["lines"] (spFlt CL 2 b2) 1 f1 fd1)(C3:Cal P w K mg base "faults_of_many" ["lines"] (spFlt CL 3 b3e) 1 f2 fd2)
  (C4:Cal P w K mg base "faults_of_names" ["lines"] (spFlt CL 4 b4) 1 f3 fd3) (C5:Cal P w K mg base "faults_of_contacts" ["lines"] (spFlt CL 5 b5) 2 f4 fd4):FnOk P w K mg base CX0 3 f fd ["lines"] (spFirstF CL):=by
 refine F.ok scFirstF (fun vs H Q E h=>?_) (fun cdv A outer s H vs Q E hr h=>?_)
 ·obtain ⟨l,p,rfl,_⟩:=h
  rfl
 ·obtain ⟨l,os,rfl,⟨vs0,hl0,hp0⟩,hlen,k⟩:=h
  have hr1:Room 1 _:=hr.mono (by decide)
  have hu2:=Nat.lt_of_le_of_lt (Nat.add_le_add_left (show 2≤64 by decide) _) hr.units
  refine ⟨_,pss_cons (ps_setLc (i:=1) (own:=[("number",3),("line",4)]) rfl scFirstF.nd rfl rfl (sw_true rfl rfl rfl (by decide +kernel)) (pi_enum rfl U.enum (pa_cons (pv 0) pa_nil)) (by exact blkOk_by (N:=["lines","shapeless","faults","number","line"]) (sc:=defScope sFirstF) (by decide +kernel))
     (fun _ _ _ _ _=>pg_tupK (K:=K) (n:=2) rfl rfl (pgs_cons (pg_name (i:=3) scFirstF.nd rfl (Or.inl rfl)) (pgs_cons (pg_name (i:=4) scFirstF.nd rfl (Or.inl rfl)) pgs_nil))) (fun _ _ _ _ _=>pts_one (pt_cmp (pc_isN (pv 4)))) (fun _ _ _ _ _=>pe_tup (pa_cons (pe_gI rfl U.noShape) (pa_cons (pv 3) pa_nil))))
   (pss_cons (ps_if (pt_cmpR (op_neD hr.units) (pv 1) (pe_lst pa_nil) (nomark _)) (pss_one (ps_ret (pe_ix ix_list (pv 1) pe_int (fun _ _=>rfl)))) pss_nil)
   (pss_cons (ps_set (i:=2) scFirstF.nd rfl (Or.inl rfl) (pe_op op_cat (pe_op op_cat (pe_op op_cat (pe_call C2.ok hr1 rfl C2.m C2.kp C2.b .nil pass0 (pa_cons (pv 0) pa_nil)) (pe_call C3.ok hr1 rfl C3.m C3.kp C3.b .nil pass0 (pa_cons (pv 0) pa_nil))) (pe_call C4.ok hr1 rfl C4.m C4.kp C4.b .nil pass0 (pa_cons (pv 0) pa_nil))) (pe_call C5.ok hr rfl C5.m C5.kp C5.b .nil pass0 (pa_cons (pv 0) pa_nil))))
   (pss_one (ps_ret (pe_minD rfl hu2 rfl U.min (pv 2) (pe_tup (pa_cons pe_int (pa_cons pe_int pa_nil)))))))),?_⟩
  refine ⟨_,rfl,l,_,rfl,SqL.of hl0,fun D1 hD1=>lc_enum (xs:=vs0) (fun i H'=>Same H H'∧FltAt H' D1 ((noneL (os.take i)).map fun j=>(1,j))) ⟨Same.new hD1,[],upd_same,.nil⟩ ?_ ?_ ?_⟩
  ·rintro i H' hi ⟨S,_⟩
   exact SqL.of (S _ _ hl0)
  ·rintro i x H' t hx ⟨S,hF⟩ ht
   obtain ⟨o,ho,hv⟩:=Pd.get hp0 hx
   have s0:Same H' (upd H' t (.tup [.int i,x])):=Same.new ht
   have st:=noneL_snoc ho
   have il:i < os.length:=(List.getElem?_eq_some_iff.mp ho).1
   have ed:decide (x=V.non)=o.isNone:=by
    cases o with
    | none=>rw [show x=V.non from hv]; rfl
    | some ln =>
     obtain ⟨a,rfl,_⟩:=hv
     rfl
   refine ⟨rfl,_,rfl,_,rfl,?_⟩
   rw [ed]
   cases hb:o.isNone with
   | false =>
    rw [hb] at st
    refine ⟨S.trans s0,?_⟩
    rw [st]
    simpa using hF.same s0
   | true =>
    rw [hb] at st
    refine ⟨_,rfl,(by show 2≤sizeLine; decide),fun u hu=>?_⟩
    have s5:Same (upd H' t (.tup [.int i,x])) (upd (upd H' t (.tup [.int i,x])) u (.tup [.int 1,.int i])):=Same.new hu
    obtain ⟨ts,e1,e2,e3⟩:=((hF.same s0).same s5).push (t:=u) (x:=(1,i)) upd_same
    refine ⟨_,e1,?_,Same.put ((S.trans s0).trans s5) hD1,?_⟩
    ·rw [List.length_map,e2,List.length_map]
     have:=noneL_len (os.take i)
     rw [List.length_take] at this
     have:=line_big
     omega
    ·rw [st,bad_map]
     exact e3
  rintro H1 ⟨S1,hF⟩
  rw [Pd.len hp0,List.take_length] at hF
  refine ⟨_,rfl,Nat.zero_le _,fun n hn=>?_⟩
  have S2:Same H1 (upd H1 n (.lst [])):=Same.new hn
  have hF2:=hF.same S2
  have S12:=S1.trans S2
  refine ne_nil hF2 upd_same ⟨_,rfl,?_⟩
  generalize upd H1 n (.lst [])=H2 at *
  rcases lines_cases os with ⟨p,rfl⟩ | ⟨p,r,rfl⟩
  ·rw [noneL_some]
   have hlp:p.length≤20001:=by rw [List.length_map] at hlen; exact hlen
   obtain ⟨as0,rfl,hp1⟩:=lns_lines hp0
   have hL:LinesAt CL H l p:=⟨as0,hl0,hp1⟩
   have L:=hL.same S12
   refine ⟨_,rfl,l,p,rfl,L,hlp,fun H3 q3 S3 g3=>?_⟩
   refine ⟨_,rfl,l,p,rfl,L.same S3,hlp,fun H4 q4 S4 g4=>?_⟩
   obtain ⟨t3,e3,r3⟩:=g3.same S4
   obtain ⟨t4,e4,r4⟩:=g4
   have len:∀ {H:Hp} {ts:List Addr} {fs:List (Nat×Nat)},Paired (TpA H) ts fs->ts.length=fs.length:=fun h=>Pd.len h
   have b2l:=badL_len p (b2 p)
   have b3l:=badL_len p (b3e p)
   have b4l:=badL_len p (b4 p)
   have b5l:=badL_len p (b5 p)
   have lb:sizeLine=16777216:=sizeLine_eq
   refine ⟨q3,q4,_,_,rfl,rfl,e3,e4,?_,fun q5 hq5=>?_⟩
   ·rw [List.length_map,List.length_map,len r3,len r4,List.length_map,List.length_map]
    omega
   have S5:Same H4 (upd H4 q5 (.lst (t3.map V.ref++t4.map V.ref))):=Same.new hq5
   have g5:FltAt (upd H4 q5 (.lst (t3.map V.ref++t4.map V.ref))) q5 ((badL p (b2 p)).map (fun j=>(2,j))++(badL p (b3e p)).map fun j=>(3,j)):=by
    refine ⟨t3++t4,by rw [upd_same,List.map_append],?_⟩
    have app:∀ {F:Addr->Nat×Nat->Prop} {a b:List Addr} {c d:List (Nat×Nat)},Paired F a c->Paired F b d->Paired F (a++b) (c++d):=by
     intro F a b c d h1 h2
     induction h1 with
     | nil=>exact h2
     | cons r _ ih=>exact .cons r ih
    exact app (Pd.imp (fun _ _ z=>S5 _ _ z) r3) (Pd.imp (fun _ _ z=>S5 _ _ z) r4)
   generalize upd H4 q5 (.lst (t3.map V.ref++t4.map V.ref))=H5 at *
   refine ⟨_,rfl,l,p,rfl,((L.same S3).same S4).same S5,hlp,fun H6 q6 S6 g6=>?_⟩
   obtain ⟨t5,e5,r5⟩:=g5.same S6
   obtain ⟨t6,e6,r6⟩:=g6
   refine ⟨q5,q6,_,_,rfl,rfl,e5,e6,?_,fun q7 hq7=>?_⟩
   ·rw [List.length_map,List.length_map,len r5,len r6,List.length_append,List.length_map,List.length_map,List.length_map]
    omega
   have app:∀ {F:Addr->Nat×Nat->Prop} {a b:List Addr} {c d:List (Nat×Nat)},Paired F a c->Paired F b d->Paired F (a++b) (c++d):=by
    intro F a b c d h1 h2
    induction h1 with
    | nil=>exact h2
    | cons r _ ih=>exact .cons r ih
   have S7:Same H6 (upd H6 q7 (.lst (t5.map V.ref++t6.map V.ref))):=Same.new hq7
   have g7:FltAt (upd H6 q7 (.lst (t5.map V.ref++t6.map V.ref))) q7 ((badL p (b2 p)).map (fun j=>(2,j))++(badL p (b3e p)).map (fun j=>(3,j))++(badL p (b4 p)).map fun j=>(4,j)) :=
    ⟨t5++t6,by rw [upd_same,List.map_append],app (Pd.imp (fun _ _ z=>S7 _ _ z) r5) (Pd.imp (fun _ _ z=>S7 _ _ z) r6)⟩
   generalize upd H6 q7 (.lst (t5.map V.ref++t6.map V.ref))=H7 at *
   refine ⟨_,rfl,l,p,rfl,((((L.same S3).same S4).same S5).same S6).same S7,hlp,fun H8 q8 S8 g8=>?_⟩
   obtain ⟨t7,e7,r7⟩:=g7.same S8
   obtain ⟨t8,e8,r8⟩:=g8
   refine ⟨q7,q8,_,_,rfl,rfl,e7,e8,?_,fun q9 hq9=>?_⟩
   ·rw [List.length_map,List.length_map,len r7,len r8,List.length_append,List.length_append,List.length_map,List.length_map,List.length_map,List.length_map]
    omega
   have S9:Same H8 (upd H8 q9 (.lst (t7.map V.ref++t8.map V.ref))):=Same.new hq9
   have e9:upd H8 q9 (.lst (t7.map V.ref++t8.map V.ref)) q9=some (.lst ((t7++t8).map V.ref)):=by rw [upd_same,List.map_append]
   have r9:Paired (TpA (upd H8 q9 (.lst (t7.map V.ref++t8.map V.ref)))) (t7++t8) (faults p):=app (Pd.imp (fun _ _ z=>S9 _ _ z) r7) (Pd.imp (fun _ _ z=>S9 _ _ z) r8)
   have SA:=((((((S12.trans S3).trans S4).trans S5).trans S6).trans S7).trans S8).trans S9
   generalize upd H8 q9 (.lst (t7.map V.ref++t8.map V.ref))=H9 at *
   generalize t7++t8=ts at *
   refine ⟨_,rfl,(by show 2≤sizeLine; decide),fun u hu=>?_⟩
   have SB:Same H9 (upd H9 u (.tup [.int 0,.int 0])):=Same.new hu
   have rB:Paired (TI2 K (upd H9 u (.tup [.int 0,.int 0]))) ts ((faults p).map fun x=>[(x.1:Int),(x.2:Int)]):=by
    have:∀ {ts:List Addr} {fs:List (Nat×Nat)},Paired (TpA H9) ts fs->Paired (TI2 K (upd H9 u (.tup [.int 0,.int 0]))) ts (fs.map fun x=>[(x.1:Int),(x.2:Int)]):=by
     intro ts fs h
     induction h with
     | nil=>exact .nil
     | cons r _ ih=>exact .cons (SqT.of (SB _ _ r)) ih
    exact this r9
   refine ⟨q9,ts,_,rfl,SqL.of (SB _ _ e9),rB,fun i r r0 hi hr hr0=>?_,?_⟩
   ·rw [List.getElem?_map] at hr hr0
    cases e1:(faults p)[i]? with
    | none=>rw [e1] at hr; cases hr
    | some x =>
     cases e2:(faults p)[0]? with
     | none=>rw [e2] at hr0; cases hr0
     | some x0 =>
      rw [e1] at hr
      rw [e2] at hr0
      cases hr
      cases hr0
      have h1:=(List.getElem?_eq_some_iff.mp e1)
      have h2:=(List.getElem?_eq_some_iff.mp e2)
      have:=List.pairwise_iff_getElem.mp (faults_lt p) 0 i h2.1 h1.1 hi
      rw [h1.2,h2.2] at this
      exact lex2 this
   ·have k2:=k (upd H9 u (.tup [.int 0,.int 0]))
    rw [ff_some] at k2
    cases hf:faults p with
    | nil =>
     rw [hf] at r9 k2
     cases r9
     exact k2 u (SA.trans SB) upd_same
    | cons x fs =>
     rw [hf] at r9 k2
     match ts,r9 with
     | t::ts,.cons r _=>exact k2 t (SA.trans SB) (SB _ _ r)
  ·have hh:=noneL_none p r
   obtain ⟨ts,e1,r1⟩:=hF2
   cases hnl:noneL (p.map some++none::r) with
   | nil=>rw [hnl] at hh; cases hh
   | cons j js =>
    rw [hnl] at hh r1
    have ej:j=p.length:=by simpa using hh
    subst ej
    match ts,r1,e1 with
    | t::ts,.cons r0 _,e1 =>
     refine ⟨_,rfl,D1,_,_,_,rfl,rfl,SqL.of e1,atI_nat (j:=0) rfl,k H2 t S12 ?_⟩
     rw [ff_none]
     exact r0
end
end Cw
namespace Cw
open PySem PySem.Spec PyProof.Rows L2 CwG CwR
open Classical in
noncomputable def rem (H:Hp) (Z:Addr->Prop):Hp:=fun b=>if Z b then none else H b
theorem rem_some{H:Hp}{Z:Addr->Prop}{b:Addr}{o:HO}:rem H Z b=some o↔¬ Z b∧H b=some o:=by
 by_cases h:Z b
 ·simp [rem,h]
 ·simp [rem,h]
theorem sRem{H H':Hp}{Z:Addr->Prop}(S:Same H H'):Same (rem H Z) (rem H' Z):=fun b o e=>by
 obtain ⟨h1,h2⟩:=rem_some.mp e
 exact rem_some.mpr ⟨h1,S b o h2⟩
theorem Same.of_rem{H:Hp}{Z:Addr->Prop}:Same (Cw.rem H Z) H:=fun b o e=>(rem_some.mp e).2
def Lists(H:Hp)(Z:Addr->Prop):Prop:=∀ z,Z z->∃ xs,H z=some (.lst xs)
theorem Lists.same{H H':Hp}{Z:Addr->Prop}(h:Lists H Z)(S:Same H H'):Lists H' Z:=fun z hz=>let ⟨xs,e⟩:=h z hz; ⟨xs,S _ _ e⟩
theorem Lists.not{H:Hp}{Z:Addr->Prop}(h:Lists H Z){b:Addr}(hb:H b=none):¬ Z b:=fun z=>by
 obtain ⟨xs,e⟩:=h b z
 rw [hb] at e; cases e
theorem Lists.not'{H:Hp}{Z:Addr->Prop}(h:Lists H Z){b:Addr}{o:HO}(hb:H b=some o)(ho:∀ xs,o≠.lst xs):¬ Z b:=fun z=>by
 obtain ⟨xs,e⟩:=h b z
 rw [hb] at e
 exact ho xs (Option.some.inj e)
def usedL(cs:List Rung.Contact):List Nat:=(List.range 32).filter fun v=>cs.any fun c=>c.var==v
theorem nd_sub_len{α:Type}[DecidableEq α]:∀ {l m:List α},l.Nodup->(∀ x∈l,x∈m)->l.length≤m.length
 | [],m,_,_=>Nat.zero_le _
 | a::l,m,nd,h=>by
  have nd:=List.nodup_cons.mp nd
  have ha:=h a (List.mem_cons_self ..)
  have ih:=nd_sub_len (l:=l) (m:=m.erase a) nd.2 fun x hx=>(List.mem_erase_of_ne (fun (e:x=a)=>nd.1 (e▸hx))).mpr (h x (List.mem_cons_of_mem _ hx))
  rw [List.length_erase_of_mem ha] at ih
  have:0 < m.length:=List.length_pos_of_mem ha
  simp only [List.length_cons]
  omega
def varI(cs:List Rung.Contact):List Int:=cs.map fun c=>((c.var:Nat):Int)
theorem dd_few{cs:List Rung.Contact}(h:∀ c∈cs,c.var < 32):(CwK.dd (varI cs)).length < 64:=by
 have:(CwK.dd (varI cs)).length≤((List.range 32).map fun (n:Nat)=>(n:Int)).length:=nd_sub_len (CwK.dd_nd _) fun x hx=>by
  obtain ⟨c,hc,rfl⟩:=List.mem_map.mp ((CwK.dd_mem _ x).mp hx)
  exact List.mem_map.mpr ⟨c.var,List.mem_range.mpr (h c hc),rfl⟩
 rw [List.length_map,List.length_range] at this
 omega
theorem sorted_used{cs:List Rung.Contact}(h:∀ c∈cs,c.var < 32){js:List Int}(pm:js.Perm (CwK.dd (varI cs)))(so:js.Pairwise (·≤·)):js.map V.int=(usedL cs).map nV:=by
 have e:js=(usedL cs).map fun (n:Nat)=>(n:Int):=by
  refine sorted_unique (R:=fun a b:Int=>a < b) (fun a=>Int.lt_irrefl a) (fun a b h=>by omega) ?_ ?_ fun x=>?_
  ·have nd:=List.nodup_iff_pairwise_ne.mp (pm.nodup_iff.mpr (CwK.dd_nd _))
   exact (so.and nd).imp fun ⟨a,b⟩=>by omega
  ·rw [List.pairwise_map]
   have:(usedL cs).Pairwise (· < ·):=List.Pairwise.filter _ List.pairwise_lt_range
   exact this.imp fun h=>by omega
  ·rw [pm.mem_iff,CwK.dd_mem]
   unfold varI usedL
   rw [List.mem_map,List.mem_map]
   constructor
   ·rintro ⟨c,hc,rfl⟩
    exact ⟨c.var,List.mem_filter.mpr ⟨List.mem_range.mpr (h c hc),List.any_eq_true.mpr ⟨c,hc,by simp⟩⟩,rfl⟩
   ·rintro ⟨v,hv,rfl⟩
    obtain ⟨c,hc,e⟩:=List.any_eq_true.mp (List.mem_filter.mp hv).2
    exact ⟨c,hc,by have:c.var=v:=by simpa using e
                   rw [this]⟩
 rw [e,List.map_map]
 rfl
section
variable {P:Program} {w:World} {K:PySem.W.Frag} {mg:Str->Option Value} {base:Heap} {CC CS:Addr}
def spSchemeI(CC CS:Addr):Sp:=fun vs H Q _=>∃ (p dx:Addr) (n:Int) (l:Addr) (cs:List Rung.Contact),vs=[.ref p,.int n,.ref l]∧H p=some (.ins CS dx [])∧ConsAt CC H l cs∧cs.length≤256∧(∀ c∈cs,c.var < 32) ∧
 ∀ (H':Hp) (u:Addr),ScAt CS H' p n l u .non .non->H u=none->H' u=some (.lst ((usedL cs).map nV))->(∀ b o,H b=some o->b≠p->H' b=some o)->Q .non H'
theorem scSchemeI:FnScope ["self","bits","contacts","contact"] ["self","bits","contacts"] (defScope sSchemeI):=⟨rfl,rfl,rfl,by decide +kernel,rfl,by decide +kernel,by decide +kernel⟩
theorem ok_schemeI{f:Addr}{fd:FuncData}(F:Fun K "__init__" "Scheme.__init__" sSchemeI f fd)(T:TxA K mg CC CS):FnOk P w K mg base CX0 1 f fd ["self","bits","contacts"] (spSchemeI CC CS):=by
 refine F.ok scSchemeI (fun vs H Q E h=>?_) (fun cdv A outer s H vs Q E hr h=>?_)
 ·obtain ⟨p,dx,n,l,cs,rfl,_⟩:=h
  rfl
 ·obtain ⟨p,dx,n,l,cs,rfl,hp,hcs,hlen,hv,k⟩:=h
  refine ⟨_,pss_cons (ps_fld (pv 0) (pv 1) rfl) (pss_cons (ps_fld (pv 0) (pv 2) rfl)
   (pss_cons (ps_fld (pv 0) (pe_callB (cr_sortedSet rfl) (by rfl) T.sorted PyProof.Rows.boot_sorted (pa_cons (pe_callTy (cr_set rfl) (by rfl) T.set PyProof.Rows.boot_set (pa_cons (pe_lc (own:=[("contact",3)]) rfl scSchemeI.nd (pi_list (pv 2)) (by exact blkOk_by (N:=["self","bits","contacts","contact"]) (sc:=defScope sSchemeI) (by decide +kernel))
     (fun _ _ _ _ _=>pg_name (i:=3) scSchemeI.nd rfl (Or.inl rfl)) (fun _ _ _ _ _=>pts_nil) (fun _ _ _ _ _=>pe_fldK (K:=K) rfl (pv 3) rfl)) pa_nil)) pa_nil)) rfl)
   (pss_cons (ps_fld (pv 0) pe_non rfl) (pss_one (ps_fld (pv 0) pe_non rfl))))),?_⟩
  obtain ⟨as0,hl0,hp0⟩:=hcs
  have npl:l≠p:=ne_of hl0 hp (by intro z; cases z)
  refine ⟨_,rfl,_,rfl,p,CS,dx,[],rfl,hp,T.cs,T.nBits,(by show 0 < 1000; decide),?_⟩
  refine ⟨_,rfl,_,rfl,p,CS,dx,_,rfl,upd_same,T.cs,T.nCon,(by show 1 < 1000; decide),?_⟩
  have k1:∀ b o,H b=some o->b≠p->upd (upd H p (.ins CS dx (putF "bits" (.int n) []))) p (.ins CS dx (putF "contacts" (.ref l) (putF "bits" (.int n) []))) b=some o:=fun b o e hb=>by rw [upd_ne hb,upd_ne hb]; exact e
  have hp1:upd (upd H p (.ins CS dx (putF "bits" (.int n) []))) p (.ins CS dx (putF "contacts" (.ref l) (putF "bits" (.int n) []))) p=some (.ins CS dx (putF "contacts" (.ref l) (putF "bits" (.int n) []))):=upd_same
  generalize upd (upd H p (.ins CS dx (putF "bits" (.int n) []))) p (.ins CS dx (putF "contacts" (.ref l) (putF "bits" (.int n) [])))=H1 at *
  have hl1:=k1 _ _ hl0 npl
  have hc1:∀ a c,ConAt CC H a c->a≠p->ConAt CC H1 a c:=fun a c ⟨d,e⟩ hne=>⟨d,k1 _ _ e hne⟩
  refine ⟨_,rfl,l,rfl,⟨_,SqL.of hl1⟩,fun D hD=>lc_list (xs:=as0.map V.ref) (fun i H'=>Same H1 H'∧H' D=some (.lst ((varI (cs.take i)).map V.int))) ⟨Same.new hD,upd_same⟩ ?_ ?_ ?_⟩
  ·rintro i H' hi ⟨S,_⟩
   exact SqL.of (S _ _ hl1)
  ·rintro i x H' hx ⟨S,hDl⟩
   obtain ⟨a,ha,rfl⟩:=map_get hx
   obtain ⟨c,hc,dc,hca⟩:=Pd.get hp0 ha
   have nap:a≠p:=fun e=>by
    subst e
    rw [hp] at hca
    injection hca with hca
    injection hca with _ _ e3
    cases e3
   have hca1:=S _ _ (k1 _ _ hca nap)
   refine ⟨rfl,_,rfl,a,CC,dc,_,_,rfl,hca1,T.cc,T.nVar,ct_var c,_,hDl,?_,Same.put S hD,?_⟩
   ·unfold varI
    rw [List.length_map,List.length_map,List.length_take]
    exact small1000 (by omega)
   ·rw [upd_same,CwG.take_snoc hc]
    unfold varI
    rw [List.map_append,List.map_append]
    rfl
  rintro H2 ⟨S2,hDl⟩
  rw [List.length_map,Pd.len hp0,List.take_length] at hDl
  refine ⟨D,varI cs,rfl,SqL.of hDl,?_,fun q hq=>?_⟩
  ·unfold varI
   rw [List.length_map]
   unfold scanBound
   omega
  have S3:Same H2 (upd H2 q (setO P w q (varI cs))):=Same.new hq
  refine ⟨q,varI cs,rfl,upd_same,dd_few hv,fun js u pm so hu=>?_⟩
  have S4:Same (upd H2 q (setO P w q (varI cs))) (upd (upd H2 q (setO P w q (varI cs))) u (.lst (js.map V.int))):=Same.new hu
  have hu4:upd (upd H2 q (setO P w q (varI cs))) u (.lst (js.map V.int)) u=some (.lst ((usedL cs).map nV)):=by rw [upd_same,sorted_used hv pm so]
  have S14:=(S2.trans S3).trans S4
  have hp4:=S14 _ _ hp1
  have nup:u≠p:=ne_of hu4 hp4 (by intro z; cases z)
  refine ⟨_,rfl,p,CS,dx,_,rfl,hp4,T.cs,T.nUsed,(by show 2 < 1000; decide),?_⟩
  refine ⟨_,rfl,p,CS,dx,_,rfl,upd_same,T.cs,T.nLc,(by show 3 < 1000; decide),?_⟩
  refine ⟨_,rfl,p,CS,dx,_,rfl,upd_same,T.cs,T.nLt,(by show 4 < 1000; decide),?_⟩
  have fu:H u=none:=by
   cases e:H u with
   | none=>rfl
   | some o =>
    exfalso
    by_cases h:u=p
    ·exact nup h
    ·have:=(S2.trans S3) _ _ (k1 _ _ e h)
     rw [show upd H2 q (setO P w q (varI cs)) u=none from hu] at this
     cases this
  refine k _ u ⟨dx,upd_same⟩ fu ?_ fun b o e hb=>?_
  ·rw [upd_ne nup,upd_ne nup,upd_ne nup]; exact hu4
  ·rw [upd_ne hb,upd_ne hb,upd_ne hb]
   exact S14 _ _ (k1 _ _ e hb)
end
end Cw
namespace Cw
open PySem PySem.Spec PyProof.Rows L2 CwG CwR
theorem sum_cast:∀ l:List Nat,(l.map fun (n:Nat)=>(n:Int)).sum=((l.sum:Nat):Int)
 | []=>rfl
 | a::l=>by rw [List.map_cons,List.sum_cons,List.sum_cons,sum_cast l]; omega
theorem shl_nat(v:Nat):(1:Int)*2 ^ ((v:Int)).toNat=((2 ^ v:Nat):Int):=by
 rw [Int.toNat_natCast,Int.one_mul]
 simp
def pwI(l:List Nat):List Int:=l.map fun (v:Nat)=>((2 ^ v:Nat):Int)
theorem pwI_sum(l:List Nat):(pwI l).sum=(((l.map fun v=>2 ^ v).sum:Nat):Int):=by
 rw [←sum_cast,List.map_map]
 rfl
theorem filt_range{f:Nat->Bool}(i:Nat):(List.range (i+1)).filter f=(List.range i).filter f++if f i=true then [i] else []:=by
 rw [List.range_succ,List.filter_append]
 congr 1
 by_cases h:f i=true
 ·simp [h]
 ·simp [h]
theorem cpow1(v:Nat)(h:v≤1000000):CPow 1 (v:Int):=⟨Int.natCast_nonneg _,by omega,by decide⟩
theorem lc_vals{d:Addr}{o:Obj}{kvs:List (Key×V)}{g:TG}{tt:TT}{te:TE}{vs:List Nat}{σ:L2.St}{H1:Hp}{D:Addr}{Qd:Hp->Prop}(Pv:Nat->Hp->Prop)(h0:Pv 0 (upd H1 D (.lst [])))(hl:∀ i H,i≤kvs.length->Pv i H->H d=some (.frz o (.dK kvs)))
  (hs:∀ i k v H,kvs[i]?=some (k,v)->Pv i H->g v (wipe σ vs) H fun σ2 H2=>wipe σ2 vs=wipe σ vs∧tt σ2 H2 fun b H3 =>
   if b=true then te σ2 H3 fun y H4=>∃ acc,H4 D=some (.lst acc)∧acc.length < sizeLine∧Pv (i+1) (upd H4 D (.lst (acc++[y]))) else Pv (i+1) H3) (hd:∀ H,Pv kvs.length H->Qd H) :
  ∃ W:Nat->Nat->Hp->Prop,(∃ m,W 0 m (upd H1 D (.lst [])))∧∀ i m H,W i m H ->
   ((Itd d o kvs).stop i H∧Qd H)∨((Itd d o kvs).go i H∧∃ Nx:Hp->Prop,(∀ H',Nx H'->∃ m',m' < m∧W (i+1) m' H')∧∀ x H',(Itd d o kvs).yld i H x H'->g x (wipe σ vs) H' fun σ2 H2=>wipe σ2 vs=wipe σ vs∧tt σ2 H2 fun b H3 =>
    if b=true then te σ2 H3 fun y H4=>∃ acc,H4 D=some (.lst acc)∧acc.length < sizeLine∧Nx (upd H4 D (.lst (acc++[y]))) else Nx H3):=by
 refine ⟨fun i m H=>m=kvs.length - i∧i≤kvs.length∧Pv i H,⟨kvs.length,by simp,Nat.zero_le _,h0⟩,?_⟩
 rintro i m H ⟨rfl,hi,p⟩
 have q:=hl i H hi p
 by_cases hlt:i < kvs.length
 ·refine .inr ⟨⟨q,hlt⟩,Pv (i+1),fun H' p'=>⟨kvs.length - (i+1),by omega,rfl,hlt,p'⟩,fun x H' y=>?_⟩
  obtain ⟨e,k,y⟩:=y
  subst e
  exact hs i k x _ y p
 ·have e:i=kvs.length:=by omega
  subst e
  exact .inl ⟨⟨q,Nat.le_refl _⟩,hd H p⟩
section
variable {P:Program} {w:World} {K:PySem.W.Frag} {mg:Str->Option Value} {base:Heap} {CC CS:Addr}
def spAmong:Sp:=fun vs H Q _=>∃ n k:Nat,vs=[.int n,.int k]∧Q (.bl (n.testBit k)) H
theorem scAmong:FnScope ["nodes","node"] ["nodes","node"] (defScope sAmong):=⟨rfl,rfl,rfl,by decide +kernel,rfl,by decide +kernel,by decide +kernel⟩
theorem ok_among{f:Addr}{fd:FuncData}(F:Fun K "is_among" "is_among" sAmong f fd):FnOk P w K mg base CX0 1 f fd ["nodes","node"] spAmong:=by
 refine F.ok scAmong (fun vs H Q E h=>?_) (fun cdv A outer s H vs Q E hr h=>?_)
 ·obtain ⟨n,k,rfl,_⟩:=h
  rfl
 ·obtain ⟨n,v,rfl,k⟩:=h
  refine ⟨_,pss_one (ps_ret (pe_cmpR op_eq (pe_op op_mod (pe_op op_shr (pv 0) (pv 1)) pe_int) pe_int (nomark _))),?_⟩
  refine ⟨_,rfl,_,rfl,_,_,rfl,rfl,Int.natCast_nonneg _,_,_,rfl,rfl,(by show (0:Int) < 2; decide),rfl,?_⟩
  rw [Int.toNat_natCast,bit_int]
  exact k
def spLive(CC:Addr):Sp:=fun vs H Q _=>∃ (l:Addr) (cs:List Rung.Contact) (on off:Nat),vs=[.ref l,.int on,.int off]∧ConsAt CC H l cs∧Okc cs∧cs.length≤256 ∧
 ∀ (H':Hp) (A:Nat->Option Nat),Same H H'->Dist cs (fun c=>c.by_ ⟨on,off⟩) 0 A->Q (.int (nb fun k=>(A k).isSome:Nat)) H'
theorem scLive:FnScope ["contacts","on","off","away","node"] ["contacts","on","off"] (defScope sLive):=⟨rfl,rfl,rfl,by decide +kernel,rfl,by decide +kernel,by decide +kernel⟩
theorem ok_live{f fL fD:Addr}{fd fdL fdD:FuncData}(F:Fun K "live_nodes" "live_nodes" sLive f fd)(T:TxA K mg CC CS)(CL:Cal P w K mg base "links_of" ["contacts","on","off"] (spLinks CC) 2 fL fdL)(CD:Cal P w K mg base "distances" ["links","start"] spDist 1 fD fdD) :
  FnOk P w K mg base CX0 3 f fd ["contacts","on","off"] (spLive CC):=by
 refine F.ok scLive (fun vs H Q E h=>?_) (fun cdv A outer s H vs Q E hr h=>?_)
 ·obtain ⟨l,cs,on,off,rfl,_⟩:=h
  rfl
 ·obtain ⟨l,cs,on,off,rfl,hcs,ok,hlen,k⟩:=h
  have hr1:Room 1 _:=hr.mono (by decide)
  refine ⟨_,pss_cons (ps_set (i:=3) scLive.nd rfl (Or.inr rfl) (pe_call CD.ok hr1 rfl CD.m CD.kp CD.b .nil pass0 (pa_cons (pe_call CL.ok hr rfl CL.m CL.kp CL.b .nil pass0 (pa_cons (pv 0) (pa_cons (pv 1) (pa_cons (pv 2) pa_nil)))) (pa_cons (pe_gI rfl T.rail) pa_nil))))
   (pss_one (ps_ret (pe_callB (cr_sum rfl) (by rfl) T.sum PyProof.Rows.boot_sum (pa_cons (pe_lc (own:=[("node",4)]) rfl scLive.nd (pi_range1 rfl T.range (pa_cons (pe_gI rfl T.nodes) pa_nil)) (by exact blkOk_by (N:=["contacts","on","off","away","node"]) (sc:=defScope sLive) (by decide +kernel))
     (fun _ _ _ _ _=>pg_name (i:=4) scLive.nd rfl (Or.inl rfl)) (fun _ _ _ _ _=>pts_one (pt_cmp (pc_notN (pe_ix (ix_listK (K:=K) rfl) (pv 3) (pv 4) (fun _ _=>rfl))))) (fun _ _ _ _ _=>pe_op op_shl pe_int (pv 4))) pa_nil)))),?_⟩
  refine ⟨_,rfl,_,rfl,_,rfl,l,cs,on,off,rfl,hcs,ok,hlen,fun H1 r S1 hL=>?_⟩
  refine ⟨r,_,0,rfl,hL,by decide,lnk_lt ok,fun H2 aw B S2 hD=>?_⟩
  obtain ⟨hA,re,dn,Bf,hdn⟩:=hD
  have D0:=Bf.dist ok hdn
  have S12:=S1.trans S2
  refine ⟨64,rfl,by decide,by decide,fun D hD=>lc_range (n:=64) (fun i H'=>Same H2 H'∧H' D=some (.lst ((pwI ((List.range i).filter fun v=>(B v).isSome)).map V.int))) ⟨Same.new hD,upd_same⟩ ?_ ?_⟩
  ·rintro i H' hi ⟨S,hDl⟩
   have e0:(0:Int)+(i:Int)=(i:Int):=by omega
   rw [e0]
   refine ⟨rfl,_,rfl,_,rfl,aw,_,_,_,rfl,rfl,SqL.of (S _ _ hA),awV_at B hi,_,rfl,?_⟩
   have fs:=filt_range (f:=fun v=>(B v).isSome) i
   rw [oV_some]
   cases hb:(B i).isSome with
   | false =>
    simp only [hb] at fs
    refine ⟨S,?_⟩
    rw [fs]
    simpa using hDl
   | true =>
    simp only [hb,if_true] at fs
    refine ⟨_,rfl,_,_,rfl,rfl,cpow1 i (by omega),_,hDl,?_,Same.put S hD,?_⟩
    ·unfold pwI
     rw [List.length_map,List.length_map]
     have:=List.length_filter_le (fun v=>(B v).isSome) (List.range i)
     rw [List.length_range] at this
     exact small1000 (by omega)
    ·have es:V.int ((1:Int)*2 ^ ((i:Int)).toNat)=V.int ((2 ^ i:Nat):Int):=by rw [shl_nat]
     rw [upd_same,fs]
     dsimp only
     rw [es]
     unfold pwI
     rw [List.map_append,List.map_append]
     rfl
  ·rintro H3 ⟨S3,hDl⟩
   refine ⟨D,_,rfl,SqL.of hDl,?_⟩
   rw [pwI_sum]
   exact k H3 B (S12.trans S3) D0
theorem Same.unlock{H H':Hp}{d:Addr}{u:HO}{od:Obj}(hd:H d=some u)(S:Same (upd H d (.frz od u)) H'):Same H (upd H' d u):=fun b o e=>by
 by_cases h:b=d
 ·subst h
  rw [upd_same]
  rw [hd] at e
  exact e
 ·rw [upd_ne h]
  exact S b o (by rw [upd_ne h]; exact e)
theorem con_snoc{p q:List Rung.Line}{i:Nat}{l:Rung.Line}(h:p[i]?=some l):((p.take (i+1)).filter fun m=>m.sort==3).map (conOf q)=((p.take i).filter fun m=>m.sort==3).map (conOf q)++if decide (l.sort=3)=true then [conOf q l] else []:=by
 rw [CwG.take_snoc h,List.filter_append,List.map_append]
 congr 1
 by_cases e:l.sort=3
 ·simp [e]
 ·simp [e]
structure MkC(P:Program)(w:World)(K:PySem.W.Frag)(mg:Str->Option Value)(base:Heap)(C f:Addr)(fd:FuncData)(ps:List Str)(sp:Sp):Prop where
 M:Mk K C f
 ok:FnOk P w K mg base CX0 1 f fd ps sp
 b:Binds K fd ps []
def spSchemeOf(CL CC CS:Addr):Sp:=fun vs H Q _=>∃ (l:Addr) (p:List Rung.Line),vs=[.ref l]∧LinesAt CL H l p∧p.length≤20001∧Clean p∧∀ (H':Hp) (a:Addr),Same H H'->H a=none->SchAt CC CS H' a (Rung.schemeOf p)->(∀ Z,Lists H Z->SchAt CC CS (rem H' Z) a (Rung.schemeOf p))->Q (.ref a) H'
theorem scSchemeOf:FnScope ["lines","variables","bits","contacts","line","variable"] ["lines"] (defScope sSchemeOf):=⟨rfl,rfl,rfl,by decide +kernel,rfl,by decide +kernel,by decide +kernel⟩
theorem ok_schemeOf{CL f fV fC fS:Addr}{fd fdV fdC fdS:FuncData}(F:Fun K "scheme_of" "scheme_of" sSchemeOf f fd)(T:TxA K mg CC CS)(R:TxR K mg CL)(U:TxQ K mg)(CV:Cal P w K mg base "variables_of" ["lines"] (spVars CL) 1 fV fdV)
  (MC:MkC P w K mg base CC fC fdC ["self","low","high","closer","variable"] (spContactI CC)) (MS:MkC P w K mg base CS fS fdS ["self","bits","contacts"] (spSchemeI CC CS)):FnOk P w K mg base CX0 3 f fd ["lines"] (spSchemeOf CL CC CS):=by
 refine F.ok scSchemeOf (fun vs H Q E h=>?_) (fun cdv A outer s H vs Q E hr h=>?_)
 ·obtain ⟨l,p,rfl,_⟩:=h
  rfl
 ·obtain ⟨l,p,rfl,hL,hlen,C,k⟩:=h
  have hu:=hu_of hr
  have hr1:Room 1 _:=hr.mono (by decide)
  refine ⟨_,pss_cons (ps_set (i:=1) scSchemeOf.nd rfl (Or.inl rfl) (pe_call CV.ok hr1 rfl CV.m CV.kp CV.b .nil pass0 (pa_cons (pv 0) pa_nil)))
   (pss_cons (ps_lock (ps_set (i:=2) scSchemeOf.nd rfl (Or.inl rfl) (pe_callB (cr_sum rfl) (by rfl) U.sum PyProof.Rows.boot_sum (pa_cons (pe_lc (own:=[("variable",5)]) rfl scSchemeOf.nd (pi_values (pv 1)) (by exact blkOk_by (N:=["lines","variables","bits","contacts","line","variable"]) (sc:=defScope sSchemeOf) (by decide +kernel))
     (fun _ _ _ _ _=>pg_name (i:=5) scSchemeOf.nd rfl (Or.inl rfl)) (fun _ _ _ _ _=>pts_nil) (fun _ _ _ _ _=>pe_op op_shl pe_int (pv 5))) pa_nil))))
   (pss_cons (ps_set (i:=3) scSchemeOf.nd rfl (Or.inl rfl) (pe_lst pa_nil))
   (pss_cons (ps_for PassesOwn.never rfl (pi_list (pv 0)) (pg_name (i:=4) scSchemeOf.nd rfl (Or.inl rfl))
    (pss_one (ps_if (pt_cmpR op_eq (pe_fld (pv 4) rfl) (pe_gI rfl R.contacts) (nomark _))
     (pss_one (ps_expr (pe_bm PySem.F.plainAttrs_list PySem.F.slot_list_append PySem.F.type_list_append mt_append (pv 3) (pa_cons (pe_make MC.M MC.ok hr rfl T.mgC MC.b .nil pass0 (pa_cons (pe_fld (pv 4) rfl) (pa_cons (pe_fld (pv 4) rfl) (pa_cons (pe_fld (pv 4) rfl) (pa_cons (pe_dget hu (pv 1) (pe_fld (pv 4) rfl) (fun _ _=>rfl)) pa_nil))))) pa_nil)))) pss_nil)))
   (pss_one (ps_ret (pe_make MS.M MS.ok hr rfl T.mgS MS.b .nil pass0 (pa_cons (pv 2) (pa_cons (pv 3) pa_nil)))))))),?_⟩
  refine ⟨_,rfl,l,p,rfl,hL,hlen,fun H1 d S1 fd hd=>?_⟩
  have nd:((vPairs p).map (·.1)).Nodup:=by rw [vPairs_fst]; exact both_nd (names_nd (none_of C.no).2.2.1)
  have ek:=vD_nd (vPairs p) nd
  have hd':=hd
  rw [ek] at hd'
  obtain ⟨as0,hl0,hp0⟩:=hL
  have n0:=C.n0
  have n1:=C.n1
  have snd:∀ (i:Nat) (u:Rung.Name×Nat),(vPairs p)[i]?=some u->u.2 < 32:=fun i u h=>by
   have:u.2∈(vPairs p).map (·.2):=List.mem_map.mpr ⟨u,List.mem_of_getElem? h,rfl⟩
   rw [vPairs_snd] at this
   rcases List.mem_append.mp this with z | z
   ·have:=List.mem_range.mp z; omega
   ·obtain ⟨j,hj,e⟩:=List.mem_map.mp z
    have:=List.mem_range.mp hj
    omega
  have vlen:(vPairs p).length≤28:=by
   have:=congrArg List.length (vPairs_fst p)
   rw [List.length_map,List.length_append] at this
   omega
  refine ⟨d,_,hd',trivial,fun od=>?_⟩
  have hdf:upd H1 d (.frz od (.dK ((vPairs p).map vK))) d=some (.frz od (.dK ((vPairs p).map vK))):=upd_same
  refine ⟨_,rfl,d,od,_,rfl,hdf,fun D hD=>lc_vals (kvs:=(vPairs p).map vK) (fun i H'=>Same (upd H1 d (.frz od (.dK ((vPairs p).map vK)))) H'∧H' D=some (.lst ((pwI (((vPairs p).take i).map (·.2))).map V.int))) ⟨Same.new hD,upd_same⟩ ?_ ?_ ?_⟩
  ·rintro i H' hi ⟨S,_⟩
   exact S _ _ hdf
  ·rintro i kk v H' hv ⟨S,hDl⟩
   obtain ⟨u,hu',e⟩:=map_get hv
   unfold vK at e
   injection e with e1 e2
   subst e2
   have lt:=snd i u hu'
   have il:i < (vPairs p).length:=(List.getElem?_eq_some_iff.mp hu').1
   refine ⟨rfl,_,rfl,_,_,rfl,rfl,cpow1 u.2 (by omega),_,hDl,?_,Same.put S hD,?_⟩
   ·unfold pwI
    rw [List.length_map,List.length_map,List.length_map,List.length_take]
    exact small1000 (by omega)
   ·have es:V.int ((1:Int)*2 ^ (((u.2:Nat):Int)).toNat)=V.int ((2 ^ u.2:Nat):Int):=by rw [shl_nat]
    rw [upd_same,CwG.take_snoc hu']
    dsimp only
    rw [es]
    unfold pwI
    rw [List.map_append,List.map_append,List.map_append]
    rfl
  rintro H2 ⟨S2,hDl⟩
  rw [List.length_map,List.take_length] at hDl
  refine ⟨D,_,rfl,SqL.of hDl,?_⟩
  rw [pwI_sum,List.map_map]
  refine ⟨S2 _ _ hdf,?_⟩
  have S3:Same H1 (upd H2 d (.dK ((vPairs p).map vK))):=Same.unlock hd' S2
  have S13:=S1.trans S3
  have hd3:=S3 _ _ hd
  generalize upd H2 d (.dK ((vPairs p).map vK))=H3 at *
  have ebits:((vPairs p).map ((fun v=>2 ^ v)∘fun u=>u.2)).sum=((vPairs p).map fun u=>2 ^ u.2).sum:=rfl
  rw [ebits]
  have hbits:=C.bits
  generalize ((vPairs p).map fun u=>2 ^ u.2).sum=bts at *
  refine ⟨Nat.zero_le _,fun q hq=>?_⟩
  have fq:H q=none:=S13.free hq
  have S4:Same H3 (upd H3 q (.lst [])):=Same.new hq
  have hq4:ConsAt CC (upd H3 q (.lst [])) q (((p.take 0).filter fun m=>m.sort==3).map (conOf p)):=⟨[],upd_same,.nil⟩
  have S14:=S13.trans S4
  generalize upd H3 q (.lst [])=H4 at *
  have W:=C.ws
  have clen:∀ i,(((p.take i).filter fun m=>m.sort==3).map (conOf p)).length≤256:=fun i=>by
   have h1:=W.len
   rw [sch_contacts,List.length_map] at h1
   rw [List.length_map]
   have h2:((p.take i).filter fun m=>m.sort==3).length≤(p.filter fun m=>m.sort==3).length:=(List.Sublist.filter _ (List.take_sublist i p)).length_le
   omega
  refine ⟨_,rfl,l,rfl,⟨_,SqL.of (S14 _ _ hl0)⟩,for_list (xs:=as0.map V.ref) (fun i σ H'=>∃ v4:Option V,σ=[some (.ref l),some (.ref d),some (.int (bts:Nat)),some (.ref q),v4,none]∧Same H H'∧Same H3 H'∧ConsAt CC H' q (((p.take i).filter fun m=>m.sort==3).map (conOf p))) ?_ ?_ ?_ ?_⟩
  ·exact ⟨none,rfl,S14,S4,hq4⟩
  ·rintro i σ H' hi ⟨_,rfl,z,_⟩
   exact SqL.of (z _ _ hl0)
  ·rintro i y σ H' hy ⟨v4,rfl,z1,z2,z3⟩
   obtain ⟨a,ha,rfl⟩:=map_get hy
   obtain ⟨ln,hln,hca⟩:=Pd.get hp0 ha
   obtain ⟨dx,hdx⟩:=hca.same z1
   have st:=con_snoc (q:=p) hln
   refine ⟨_,rfl,a,CL,dx,_,_,rfl,hdx,R.cl,R.nRank,ln_rank _ _ _ _ _,rfl,_,rfl,?_⟩
   rw [show decide (V.int (ln.sort:Nat)=V.int 3)=decide (ln.sort=3) from rank_dec ln 3]
   by_cases h3:ln.sort=3
   ·rw [decide_eq_true h3] at st ⊢
    obtain ⟨v,ev,_,hv32⟩:=C.var (List.mem_of_getElem? hln) h3
    have hval:valV (vD (vPairs p)) (Sum.inr (sN (nmOf ln)))=some (.int (v:Nat)):=by rw [vD_lk _ nd,←var_lk,ev]; rfl
    have ec:conOf p ln=⟨loOf ln,hiOf ln,cloOf ln,v⟩:=by unfold conOf; rw [ev]; rfl
    obtain ⟨cs0,e1,r1⟩:=z3
    have dg:DGet H' d (kV (Sum.inr (sN (nmOf ln)))) (some (.int (v:Nat))):=by have:=DGet.k (k:=Sum.inr (sN (nmOf ln))) (z2 _ _ hd3); rw [hval] at this; exact this
    refine ⟨_,rfl,.inl ⟨rfl,_,SqL.of e1⟩,?_⟩
    refine ⟨_,rfl,a,CL,dx,_,_,rfl,hdx,R.cl,R.nLow,ln_low _ _ _ _ _,?_⟩
    refine ⟨_,rfl,a,CL,dx,_,_,rfl,hdx,R.cl,R.nHigh,ln_high _ _ _ _ _,?_⟩
    refine ⟨_,rfl,a,CL,dx,_,_,rfl,hdx,R.cl,R.nClo,ln_clo _ _ _ _ _,?_⟩
    refine ⟨_,rfl,_,rfl,a,CL,dx,_,_,rfl,hdx,R.cl,R.nName,ln_name _ _ _ _ _,d,_,rfl,dg,?_⟩
    intro y dy ny ndy ne
    refine ⟨y,dy,⟨loOf ln,hiOf ln,cloOf ln,v⟩,rfl,upd_same,fun H5 hy kp=>⟨rfl,?_⟩⟩
    have S5:Same H' H5:=Same.made ny ndy kp
    refine ⟨q,_,_,rfl,rfl,S5 _ _ e1,?_,?_⟩
    ·rw [List.length_map,Pd.len r1]
     have:=clen i
     exact small1000 (by omega)
    refine ⟨_,rfl,Same.put (z1.trans S5) fq,Same.put (z2.trans S5) hq,cs0++[y],by rw [upd_same,List.map_append]; rfl,?_⟩
    rw [st,if_pos rfl,ec]
    have keep:∀ b c,ConAt CC H5 b c->ConAt CC (upd H5 q (.lst (cs0.map V.ref++[.ref y]))) b c:=fun b c ⟨db,hb⟩=>⟨db,by rw [upd_ne (ne_of hb (S5 _ _ e1) (by intro z; cases z))]; exact hb⟩
    exact Pd.snoc (Pd.imp keep (Pd.imp (fun _ _=>ConAt.same S5) r1)) (keep _ _ hy)
   ·rw [decide_eq_false h3] at st ⊢
    refine ⟨_,rfl,z1,z2,?_⟩
    rw [st]
    simpa using z3
  ·rintro σ H5 ⟨v4,rfl,z1,z2,z3⟩
   rw [List.length_map,Pd.len hp0,List.take_length,←sch_contacts] at z3
   refine ⟨_,rfl,_,rfl,fun y dy ny ndy ne=>?_⟩
   have nqy:q≠y:=ne_of_none z3.choose_spec.1 ny
   have mk:ConsAt CC (upd (upd H5 dy (.own y)) y (.ins CS dy [])) q (Rung.schemeOf p).contacts:=by
    obtain ⟨cs0,e1,r1⟩:=z3
    have kk:∀ b o,H5 b=some o->upd (upd H5 dy (.own y)) y (.ins CS dy []) b=some o:=fun b o e=>by rw [upd_ne (ne_of_none e ny),upd_ne (ne_of_none e ndy)]; exact e
    exact ⟨cs0,kk _ _ e1,Pd.imp (fun b c ⟨db,hb⟩=>⟨db,kk _ _ hb⟩) r1⟩
   refine ⟨y,dy,_,q,_,rfl,upd_same,mk,W.len,fun c hc=>(W.var c hc).2,fun H6 u hS fu hU kp=>⟨rfl,?_⟩⟩
   have S6:Same H5 H6:=Same.made ny ndy kp
   have S06:=z1.trans S6
   have fu5:H u=none:=by
    cases e:H u with
    | none=>rfl
    | some o =>
     exfalso
     have e5:=z1 _ _ e
     rw [upd_ne (ne_of_none e5 ny),upd_ne (ne_of_none e5 ndy),e5] at fu
     cases fu
   refine k H6 y S06 (z1.free ny) ⟨q,u,bts,.non,.non,hS,z3.same S6,hbits,hU,.inl rfl,.inl rfl⟩ fun Z hZ=>?_
   obtain ⟨dS,eS⟩:=hS
   have z6:=z3.same S6
   obtain ⟨cs0,e1,r1⟩:=z6
   have nz:∀ b o,H6 b=some o->(∀ xs,o≠.lst xs)->rem H6 Z b=some o:=fun b o e h=>rem_some.mpr ⟨(hZ.same S06).not' e h,e⟩
   exact ⟨q,u,bts,.non,.non,⟨dS,nz _ _ eS (by intro _ z; cases z)⟩,⟨cs0,rem_some.mpr ⟨hZ.not fq,e1⟩,Pd.imp (fun b c ⟨db,hb⟩=>⟨db,nz _ _ hb (by intro _ z; cases z)⟩) r1⟩,hbits,rem_some.mpr ⟨hZ.not fu5,hU⟩,.inl rfl,.inl rfl⟩
end
end Cw
namespace Cw
open PySem PySem.Spec PyProof.Rows L2 CwG CwR
theorem bor_nat(a b:Nat):Builtin.bitOr (a:Int) (b:Int)=((a|||b:Nat):Int):=by
 unfold Builtin.bitOr
 have ha:¬ 0≤Builtin.bitNot (a:Int):=by unfold Builtin.bitNot; omega
 have hb:¬ 0≤Builtin.bitNot (b:Int):=by unfold Builtin.bitNot; omega
 rw [PyProof.Rows.bitAnd_nn ha hb,PyProof.Rows.bitNot_bitNot,PyProof.Rows.bitNot_bitNot,PyProof.Rows.bitNot_bitNot]
 simp
theorem bxor_nat(a b:Nat):Builtin.bitXor (a:Int) (b:Int)=((a^^^b:Nat):Int):=by
 unfold Builtin.bitXor
 rw [bor_nat,band_nat]
 have:=xor_add a b
 omega
theorem bandn_nat(a b:Nat):Builtin.bitAnd (a:Int) (Builtin.bitNot (b:Int))=((andNot a b:Nat):Int):=by
 rw [PyProof.Rows.bitAnd_not,band_nat]
 have:=andNot_add a b
 omega
def RowsAt(H:Hp)(q:Addr)(rows:List CwG.Row):Prop:=∃ ts:List Addr,H q=some (.lst (ts.map V.ref))∧Paired (Tp3 H) ts rows
theorem RowsAt.same{H H':Hp}(S:Same H H'){q:Addr}{rows:List CwG.Row}(h:RowsAt H q rows):RowsAt H' q rows:=let ⟨ts,e,r⟩:=h; ⟨ts,S _ _ e,Pd.imp (fun _ _ z=>S _ _ z) r⟩
def toI(r:CwG.Row):Int×Int×Int:=((r.1:Nat),(r.2.1:Nat),(r.2.2:Nat))
def toN(r:Int×Int×Int):CwG.Row:=(r.1.toNat,r.2.1.toNat,r.2.2.toNat)
theorem lt3_iff(a b:CwG.Row):lt3I (toI a) (toI b)↔lt3 a b:=by
 unfold lt3I lt3 toI
 dsimp only
 omega
theorem t3_of{H:Hp}:∀ {ts:List Addr} {rows:List CwG.Row},Paired (Tp3 H) ts rows->Paired (T3 H) ts (rows.map toI)
 | _,_,.nil=>.nil
 | _,_,.cons h t=>.cons h (t3_of t)
theorem of_t3{H:Hp}:∀ {ts:List Addr} {C:List CwG.Row},Paired (T3 H) ts (C.map toI)->Paired (Tp3 H) ts C
 | _,[],.nil=>.nil
 | _,c::C,.cons h t=>.cons h (of_t3 t)
theorem perm_toI{rs:List (Int×Int×Int)}{rows:List CwG.Row}(h:rs.Perm (rows.map toI)):∃ C:List CwG.Row,rs=C.map toI∧C.Perm rows:=by
 refine ⟨rs.map toN,?_,?_⟩
 ·rw [List.map_map]
  have:∀ r∈rs,(toI∘toN) r=r:=fun r hr=>by
   obtain ⟨x,_,rfl⟩:=List.mem_map.mp (h.mem_iff.mp hr)
   rfl
  rw [List.map_congr_left this]
  simp
 ·have:=h.map toN
  rw [List.map_map] at this
  have e:(toN∘toI)=(id:CwG.Row->CwG.Row):=rfl
  rw [e,List.map_id] at this
  exact this
theorem pow3{n:Nat}(h:n≤6):3 ^ n≤729:=by
 have:3 ^ n≤3 ^ 6:=Nat.pow_le_pow_right (by decide) h
 omega
theorem Pd.app{α β:Type}{F:α->β->Prop}{a b:List α}{c d:List β}(h1:Paired F a c)(h2:Paired F b d):Paired F (a++b) (c++d):=by
 induction h1 with
 | nil=>exact h2
 | cons r _ ih=>exact .cons r ih
section
variable {P:Program} {w:World} {K:PySem.W.Frag} {mg:Str->Option Value} {base:Heap} {CC CS:Addr}
def spCondsOn:Sp:=fun vs H Q _=>∃ (u:Addr) (us:List Nat),vs=[.ref u]∧H u=some (.lst (us.map nV))∧us.length≤6∧(∀ v∈us,v < 32) ∧
 ∀ (H':Hp) (q:Addr) (C:List CwG.Row),Same H H'->H q=none->RowsAt H' q C->C.Perm (cdOf us)->C.Pairwise (fun a b=>¬ lt3 b a)->Q (.ref q) H'
theorem scCondsOn:FnScope ["variables","rows","variable","bit","with_on","with_off","many","on","off"] ["variables"] (defScope sCondsOn):=⟨rfl,rfl,rfl,by decide +kernel,rfl,by decide +kernel,by decide +kernel⟩
theorem ok_condsOn{f:Addr}{fd:FuncData}(F:Fun K "conditions_on" "conditions_on" sCondsOn f fd)(T:TxA K mg CC CS):FnOk P w K mg base CX0 1 f fd ["variables"] spCondsOn:=by
 refine F.ok scCondsOn (fun vs H Q E h=>?_) (fun cdv A outer s H vs Q E hr h=>?_)
 ·obtain ⟨u,us,rfl,_⟩:=h
  rfl
 ·obtain ⟨u,us,rfl,hu,h6,h32,k⟩:=h
  refine ⟨_,pss_cons (ps_set (i:=1) scCondsOn.nd rfl (Or.inl rfl) (pe_lst (pa_cons (pe_tup (pa_cons pe_int (pa_cons pe_int (pa_cons pe_int pa_nil)))) pa_nil)))
   (pss_cons (ps_for PassesOwn.never rfl (pi_list (pv 0)) (pg_name (i:=2) scCondsOn.nd rfl (Or.inl rfl))
    (pss_cons (ps_set (i:=3) scCondsOn.nd rfl (Or.inr rfl) (pe_op op_shl pe_int (pv 2)))
    (pss_cons (ps_setLc (i:=4) (own:=[("many",6),("on",7),("off",8)]) rfl scCondsOn.nd rfl rfl (sw_true rfl rfl rfl (by decide +kernel)) (pi_list (pv 1)) (by exact blkOk_by (N:=["variables","rows","variable","bit","with_on","with_off","many","on","off"]) (sc:=defScope sCondsOn) (by decide +kernel))
     (fun _ _ _ _ _=>pg_tupK (K:=K) (n:=3) rfl rfl (pgs_cons (pg_name (i:=6) scCondsOn.nd rfl (Or.inl rfl)) (pgs_cons (pg_name (i:=7) scCondsOn.nd rfl (Or.inl rfl)) (pgs_cons (pg_name (i:=8) scCondsOn.nd rfl (Or.inl rfl)) pgs_nil)))) (fun _ _ _ _ _=>pts_nil) (fun _ _ _ _ _=>pe_tup (pa_cons (pe_op op_add (pv 6) pe_int) (pa_cons (pe_op op_or (pv 7) (pv 3)) (pa_cons (pv 8) pa_nil)))))
    (pss_cons (ps_setLc (i:=5) (own:=[("many",6),("on",7),("off",8)]) rfl scCondsOn.nd rfl rfl (sw_true rfl rfl rfl (by decide +kernel)) (pi_list (pv 1)) (by exact blkOk_by (N:=["variables","rows","variable","bit","with_on","with_off","many","on","off"]) (sc:=defScope sCondsOn) (by decide +kernel))
     (fun _ _ _ _ _=>pg_tupK (K:=K) (n:=3) rfl rfl (pgs_cons (pg_name (i:=6) scCondsOn.nd rfl (Or.inl rfl)) (pgs_cons (pg_name (i:=7) scCondsOn.nd rfl (Or.inl rfl)) (pgs_cons (pg_name (i:=8) scCondsOn.nd rfl (Or.inl rfl)) pgs_nil)))) (fun _ _ _ _ _=>pts_nil) (fun _ _ _ _ _=>pe_tup (pa_cons (pe_op op_add (pv 6) pe_int) (pa_cons (pv 7) (pa_cons (pe_op op_or (pv 8) (pv 3)) pa_nil)))))
    (pss_one (ps_set (i:=1) scCondsOn.nd rfl (Or.inl rfl) (pe_op op_cat (pe_op op_cat (pv 1) (pv 4)) (pv 5))))))))
   (pss_one (ps_ret (pe_callB cr_sorted3 (by rfl) T.sorted PyProof.Rows.boot_sorted (pa_cons (pv 1) pa_nil))))),?_⟩
  refine ⟨(by show 3≤sizeLine; decide),fun t ht=>⟨(by show 1≤sizeLine; decide),fun q hq=>?_⟩⟩
  have S0:Same H (upd H t (.tup [.int 0,.int 0,.int 0])):=Same.new ht
  have S1:Same (upd H t (.tup [.int 0,.int 0,.int 0])) (upd (upd H t (.tup [.int 0,.int 0,.int 0])) q (.lst [.ref t])):=Same.new hq
  have hq0:RowsAt (upd (upd H t (.tup [.int 0,.int 0,.int 0])) q (.lst [.ref t])) q (cdOf (us.take 0)):=⟨[t],upd_same,.cons (S1 _ _ upd_same) .nil⟩
  have S01:=S0.trans S1
  generalize upd (upd H t (.tup [.int 0,.int 0,.int 0])) q (.lst [.ref t])=H1 at *
  refine ⟨_,rfl,u,rfl,⟨_,SqL.of (S01 _ _ hu)⟩,for_list (xs:=us.map nV) (fun i σ H'=>∃ (q:Addr) (v2 v3 v4 v5:Option V),σ=[some (.ref u),some (.ref q),v2,v3,v4,v5,none,none,none]∧Same H H'∧RowsAt H' q (cdOf (us.take i))) ?_ ?_ ?_ ?_⟩
  ·exact ⟨q,none,none,none,none,rfl,S01,hq0⟩
  ·rintro i σ H' hi ⟨_,_,_,_,_,rfl,z,_⟩
   exact SqL.of (z _ _ hu)
  ·rintro i y σ H' hy ⟨q,v2,v3,v4,v5,rfl,z1,z2⟩
   obtain ⟨v,hv,rfl⟩:=map_get hy
   have v32:=h32 v (List.mem_of_getElem? hv)
   have il:i < us.length:=(List.getElem?_eq_some_iff.mp hv).1
   have rl:(cdOf (us.take i)).length≤243:=by
    rw [cdOf_len,List.length_take]
    have:3 ^ (min i us.length)≤3 ^ 5:=Nat.pow_le_pow_right (by decide) (by omega)
    omega
   obtain ⟨ts0,e0,r0⟩:=z2
   have rows_at:∀ j t,ts0[j]?=some t->∃ r,(cdOf (us.take i))[j]?=some r∧Tp3 H' t r:=fun j t h=>Pd.get r0 h
   refine ⟨_,rfl,_,_,rfl,rfl,cpow1 v (by omega),?_⟩
   have es:V.int ((1:Int)*2 ^ (((v:Nat):Int)).toNat)=V.int ((2 ^ v:Nat):Int):=by rw [shl_nat]
   dsimp only
   show tAsg _ _ _ (List.set _ 3 (some (V.int ((1:Int)*2 ^ (((v:Nat):Int)).toNat)))) _
   rw [es]
   let fOn:CwG.Row->CwG.Row:=fun r=>(r.1+1,r.2.1|||2 ^ v,r.2.2)
   let fOff:CwG.Row->CwG.Row:=fun r=>(r.1+1,r.2.1,r.2.2|||2 ^ v)
   refine ⟨_,rfl,q,rfl,⟨_,SqL.of e0⟩,fun D1 hD1=>lc_list (xs:=ts0.map V.ref) (fun j H2=>Same H' H2∧RowsAt H2 D1 (((cdOf (us.take i)).take j).map fOn)) ⟨Same.new hD1,[],upd_same,.nil⟩ ?_ ?_ ?_⟩
   ·rintro j H2 hj ⟨S,_⟩
    exact SqL.of (S _ _ e0)
   ·rintro j x H2 hx ⟨S,ts,e1,r1⟩
    obtain ⟨t,ht,rfl⟩:=map_get hx
    obtain ⟨⟨m,on,off⟩,hr0,hT⟩:=Pd.get r0 ht
    have jl:j < (cdOf (us.take i)).length:=(List.getElem?_eq_some_iff.mp hr0).1
    refine ⟨t,_,rfl,SqT.of (S _ _ hT),rfl,_,_,rfl,_,_,rfl,_,_,rfl,rfl,rfl,?_⟩
    refine ⟨_,rfl,_,_,rfl,rfl,_,rfl,_,rfl,_,_,rfl,rfl,_,rfl,(by show 3≤sizeLine; decide),fun u5 hu5=>?_⟩
    have S5:Same H2 (upd H2 u5 (.tup [.int ((m:Int)+1),.int (Builtin.bitOr (on:Int) ((2 ^ v:Nat):Int)),.int (off:Nat)])):=Same.new hu5
    have hT5:Tp3 (upd H2 u5 (.tup [.int ((m:Int)+1),.int (Builtin.bitOr (on:Int) ((2 ^ v:Nat):Int)),.int (off:Nat)])) u5 (fOn (m,on,off)):=by
     unfold Tp3
     rw [upd_same,bor_nat]
     rfl
    refine ⟨_,S5 _ _ e1,?_,Same.put (S.trans S5) hD1,ts++[u5],by rw [upd_same,List.map_append]; rfl,?_⟩
    ·rw [List.length_map,Pd.len r1,List.length_map,List.length_take]
     exact small1000 (by omega)
    ·rw [CwG.take_snoc hr0,List.map_append]
     have keep:∀ t' x',Tp3 (upd H2 u5 (.tup [.int ((m:Int)+1),.int (Builtin.bitOr (on:Int) ((2 ^ v:Nat):Int)),.int (off:Nat)])) t' x'->Tp3 (upd (upd H2 u5 (.tup [.int ((m:Int)+1),.int (Builtin.bitOr (on:Int) ((2 ^ v:Nat):Int)),.int (off:Nat)])) D1 (.lst (ts.map V.ref++[.ref u5]))) t' x':=fun t' x' z=>by
      unfold Tp3 at z ⊢
      rw [upd_ne (ne_of z (S5 _ _ e1) (by intro y; cases y))]
      exact z
     exact Pd.snoc (Pd.imp keep (Pd.imp (fun _ _ z=>S5 _ _ z) r1)) (keep _ _ hT5)
   rintro H2 ⟨S2,w1⟩
   rw [List.length_map,Pd.len r0,List.take_length] at w1
   have e2:=S2 _ _ e0
   have r2:=Pd.imp (fun _ _ z=>S2 _ _ z:∀ t x,Tp3 H' t x->Tp3 H2 t x) r0
   refine ⟨_,rfl,q,rfl,⟨_,SqL.of e2⟩,fun D2 hD2=>lc_list (xs:=ts0.map V.ref) (fun j H3=>Same H2 H3∧RowsAt H3 D2 (((cdOf (us.take i)).take j).map fOff)) ⟨Same.new hD2,[],upd_same,.nil⟩ ?_ ?_ ?_⟩
   ·rintro j H3 hj ⟨S,_⟩
    exact SqL.of (S _ _ e2)
   ·rintro j x H3 hx ⟨S,ts,e1,r1⟩
    obtain ⟨t,ht,rfl⟩:=map_get hx
    obtain ⟨⟨m,on,off⟩,hr0,hT⟩:=Pd.get r2 ht
    have jl:j < (cdOf (us.take i)).length:=(List.getElem?_eq_some_iff.mp hr0).1
    refine ⟨t,_,rfl,SqT.of (S _ _ hT),rfl,_,_,rfl,_,_,rfl,_,_,rfl,rfl,rfl,?_⟩
    refine ⟨_,rfl,_,_,rfl,rfl,_,rfl,_,rfl,_,rfl,_,_,rfl,rfl,(by show 3≤sizeLine; decide),fun u5 hu5=>?_⟩
    have S5:Same H3 (upd H3 u5 (.tup [.int ((m:Int)+1),.int (on:Nat),.int (Builtin.bitOr (off:Int) ((2 ^ v:Nat):Int))])):=Same.new hu5
    have hT5:Tp3 (upd H3 u5 (.tup [.int ((m:Int)+1),.int (on:Nat),.int (Builtin.bitOr (off:Int) ((2 ^ v:Nat):Int))])) u5 (fOff (m,on,off)):=by
     unfold Tp3
     rw [upd_same,bor_nat]
     rfl
    refine ⟨_,S5 _ _ e1,?_,Same.put (S.trans S5) hD2,ts++[u5],by rw [upd_same,List.map_append]; rfl,?_⟩
    ·rw [List.length_map,Pd.len r1,List.length_map,List.length_take]
     exact small1000 (by omega)
    ·rw [CwG.take_snoc hr0,List.map_append]
     have keep:∀ t' x',Tp3 (upd H3 u5 (.tup [.int ((m:Int)+1),.int (on:Nat),.int (Builtin.bitOr (off:Int) ((2 ^ v:Nat):Int))])) t' x'->Tp3 (upd (upd H3 u5 (.tup [.int ((m:Int)+1),.int (on:Nat),.int (Builtin.bitOr (off:Int) ((2 ^ v:Nat):Int))])) D2 (.lst (ts.map V.ref++[.ref u5]))) t' x':=fun t' x' z=>by
      unfold Tp3 at z ⊢
      rw [upd_ne (ne_of z (S5 _ _ e1) (by intro y; cases y))]
      exact z
     exact Pd.snoc (Pd.imp keep (Pd.imp (fun _ _ z=>S5 _ _ z) r1)) (keep _ _ hT5)
   rintro H3 ⟨S3,w2⟩
   rw [List.length_map,Pd.len r0,List.take_length] at w2
   have e3:=S3 _ _ e2
   have r3:=Pd.imp (fun _ _ z=>S3 _ _ z:∀ t x,Tp3 H2 t x->Tp3 H3 t x) r2
   obtain ⟨ta,ea,ra⟩:=w1.same S3
   obtain ⟨tb,eb,rb⟩:=w2
   have lb:sizeLine=16777216:=sizeLine_eq
   have l0:=Pd.len r3
   have la:=Pd.len ra
   have lbb:=Pd.len rb
   rw [List.length_map] at la lbb
   refine ⟨_,rfl,_,rfl,q,D1,_,_,rfl,rfl,e3,ea,?_,fun q5 hq5=>?_⟩
   ·rw [List.length_map,List.length_map]; omega
   have S5:Same H3 (upd H3 q5 (.lst (ts0.map V.ref++ta.map V.ref))):=Same.new hq5
   have e5:upd H3 q5 (.lst (ts0.map V.ref++ta.map V.ref)) q5=some (.lst ((ts0++ta).map V.ref)):=by rw [upd_same,List.map_append]
   have eb5:=S5 _ _ eb
   refine ⟨_,rfl,q5,D2,_,_,rfl,rfl,e5,eb5,?_,fun q6 hq6=>?_⟩
   ·rw [List.length_map,List.length_map,List.length_append]; omega
   have S6:Same (upd H3 q5 (.lst (ts0.map V.ref++ta.map V.ref))) (upd (upd H3 q5 (.lst (ts0.map V.ref++ta.map V.ref))) q6 (.lst ((ts0++ta).map V.ref++tb.map V.ref))):=Same.new hq6
   have S36:=S5.trans S6
   refine ⟨q6,_,_,_,_,rfl,((z1.trans S2).trans S3).trans S36,(ts0++ta)++tb,by rw [upd_same]; simp [List.map_append],?_⟩
   rw [CwG.take_snoc hv,cdOf_snoc]
   unfold condStep
   exact Pd.imp (fun _ _ z=>S36 _ _ z) (Pd.app (Pd.app r3 ra) rb)
  ·rintro σ H' ⟨q,v2,v3,v4,v5,rfl,z1,z2⟩
   rw [List.length_map,List.take_length] at z2
   obtain ⟨ts0,e0,r0⟩:=z2
   refine ⟨_,rfl,q,ts0,_,rfl,SqL.of e0,t3_of r0,fun ts' rs' p hp pm so hn=>?_⟩
   obtain ⟨C,rfl,pC⟩:=perm_toI pm
   have S9:Same H' (upd H' p (.lst (ts'.map V.ref))):=Same.new hn
   refine k _ p C (z1.trans S9) (z1.free hn) ⟨ts',upd_same,of_t3 (Pd.imp (fun _ _ z=>S9 _ _ z) hp)⟩ pC ?_
   rw [List.pairwise_map] at so
   exact so.imp fun h z=>h ((lt3_iff _ _).mpr z)
def spLeft:Sp:=fun vs H Q _=>∃ (u:Addr) (us:List Nat) (on off:Nat),vs=[.ref u,.int on,.int off]∧H u=some (.lst (us.map nV))∧us.length≤32∧(∀ v∈us,v < 32)∧∀ (H':Hp) (q:Addr),Same H H'->FltAt H' q (fewerOf us on off)->Q (.ref q) H'
theorem fewer_snoc{us:List Nat}{i v:Nat}(on off:Nat)(h:us[i]?=some v):fewerOf (us.take (i+1)) on off=fewerOf (us.take i) on off++fewer1 on off v:=by
 unfold fewerOf
 rw [CwG.take_snoc h,List.flatMap_append]
 simp
theorem fewer_len(us:List Nat)(on off:Nat):(fewerOf us on off).length≤us.length:=by
 unfold fewerOf
 induction us with
 | nil=>exact Nat.le_refl _
 | cons v us ih =>
  rw [List.flatMap_cons,List.length_append,List.length_cons]
  have:(fewer1 on off v).length≤1:=by unfold fewer1; split<;>simp
  omega
theorem scLeft:FnScope ["variables","on","off","fewer","variable","bit"] ["variables","on","off"] (defScope sLeftOut):=⟨rfl,rfl,rfl,by decide +kernel,rfl,by decide +kernel,by decide +kernel⟩
theorem ok_left{f:Addr}{fd:FuncData}(F:Fun K "with_one_left_out" "with_one_left_out" sLeftOut f fd):FnOk P w K mg base CX0 1 f fd ["variables","on","off"] spLeft:=by
 refine F.ok scLeft (fun vs H Q E h=>?_) (fun cdv A outer s H vs Q E hr h=>?_)
 ·obtain ⟨u,us,on,off,rfl,_⟩:=h
  rfl
 ·obtain ⟨u,us,on,off,rfl,hu,hlen,h32,k⟩:=h
  refine ⟨_,pss_cons (ps_set (i:=3) scLeft.nd rfl (Or.inl rfl) (pe_lst pa_nil))
   (pss_cons (ps_for PassesOwn.never rfl (pi_list (pv 0)) (pg_name (i:=4) scLeft.nd rfl (Or.inl rfl))
    (pss_cons (ps_set (i:=5) scLeft.nd rfl (Or.inl rfl) (pe_op op_shl pe_int (pv 4)))
    (pss_one (ps_if (pt_cmpR op_ne (pe_op op_and (pe_op op_or (pv 1) (pv 2)) (pv 5)) pe_int (nomark _))
     (pss_one (ps_expr (pe_bm PySem.F.plainAttrs_list PySem.F.slot_list_append PySem.F.type_list_append mt_append (pv 3) (pa_cons (pe_tup (pa_cons (pe_op op_and (pv 1) (pe_un un_inv (pv 5))) (pa_cons (pe_op op_and (pv 2) (pe_un un_inv (pv 5))) pa_nil))) pa_nil)))) pss_nil))))
   (pss_one (ps_ret (pv 3)))),?_⟩
  refine ⟨Nat.zero_le _,fun q hq=>?_⟩
  have S0:Same H (upd H q (.lst [])):=Same.new hq
  have hq0:FltAt (upd H q (.lst [])) q (fewerOf (us.take 0) on off):=⟨[],upd_same,.nil⟩
  generalize upd H q (.lst [])=H0 at *
  refine ⟨_,rfl,u,rfl,⟨_,SqL.of (S0 _ _ hu)⟩,for_list (xs:=us.map nV) (fun i σ H'=>∃ (v4 v5:Option V),σ=[some (.ref u),some (.int on),some (.int off),some (.ref q),v4,v5]∧Same H H'∧FltAt H' q (fewerOf (us.take i) on off)) ?_ ?_ ?_ ?_⟩
  ·exact ⟨none,none,rfl,S0,hq0⟩
  ·rintro i σ H' hi ⟨_,_,rfl,z,_⟩
   exact SqL.of (z _ _ hu)
  ·rintro i y σ H' hy ⟨v4,v5,rfl,z1,z2⟩
   obtain ⟨v,hv,rfl⟩:=map_get hy
   have v32:=h32 v (List.mem_of_getElem? hv)
   have il:i < us.length:=(List.getElem?_eq_some_iff.mp hv).1
   have st:=fewer_snoc on off hv
   refine ⟨_,rfl,_,_,rfl,rfl,cpow1 v (by omega),?_⟩
   have es:V.int ((1:Int)*2 ^ (((v:Nat):Int)).toNat)=V.int ((2 ^ v:Nat):Int):=by rw [shl_nat]
   dsimp only
   show tIfS _ _ _ _ (List.set _ 5 (some (V.int ((1:Int)*2 ^ (((v:Nat):Int)).toNat)))) _
   rw [es]
   refine ⟨_,rfl,_,rfl,_,_,rfl,rfl,_,rfl,_,_,rfl,rfl,rfl,_,rfl,?_⟩
   have ed:(!decide (V.int (Builtin.bitAnd (Builtin.bitOr (on:Int) (off:Int)) ((2 ^ v:Nat):Int))=V.int 0))=(on|||off).testBit v:=by
    rw [bor_nat,band_nat]
    have h1:=and_pow_ne (on|||off) v
    cases hb:(on|||off).testBit v with
    | true =>
     have:=h1.mpr hb
     rw [decide_eq_false (by intro y; injection y with y; exact this (by omega))]; rfl
    | false =>
     have:(on|||off)&&&2 ^ v=0:=by
      apply Decidable.byContradiction
      intro z
      rw [h1.mp z] at hb
      cases hb
     rw [this]; rfl
   show if (!decide (V.int (Builtin.bitAnd (Builtin.bitOr (on:Int) (off:Int)) ((2 ^ v:Nat):Int))=V.int 0))=true then _ else _
   rw [ed]
   unfold fewer1 at st
   cases hb:(on|||off).testBit v with
   | false =>
    rw [hb] at st
    refine ⟨_,_,rfl,z1,?_⟩
    rw [st]
    simpa using z2
   | true =>
    rw [hb,if_pos rfl] at st
    refine ⟨_,rfl,.inl ⟨rfl,_,SqL.of z2.choose_spec.1⟩,?_⟩
    refine ⟨_,rfl,_,rfl,_,rfl,_,_,rfl,rfl,_,rfl,_,rfl,_,rfl,_,_,rfl,rfl,(by show 2≤sizeLine; decide),fun t ht=>?_⟩
    have s5:Same H' (upd H' t (.tup [.int (Builtin.bitAnd (on:Int) (Builtin.bitNot ((2 ^ v:Nat):Int))),.int (Builtin.bitAnd (off:Int) (Builtin.bitNot ((2 ^ v:Nat):Int)))])):=Same.new ht
    have ht5:TpA (upd H' t (.tup [.int (Builtin.bitAnd (on:Int) (Builtin.bitNot ((2 ^ v:Nat):Int))),.int (Builtin.bitAnd (off:Int) (Builtin.bitNot ((2 ^ v:Nat):Int)))])) t (clr on v,clr off v):=by
     unfold TpA
     rw [upd_same,bandn_nat,bandn_nat,clr_andNot,clr_andNot]
    obtain ⟨ts,e1,e2,e3⟩:=(z2.same s5).push (t:=t) ht5
    refine ⟨q,_,_,rfl,rfl,e1,?_,?_⟩
    ·rw [List.length_map,e2]
     have:=fewer_len (us.take i) on off
     rw [List.length_take] at this
     exact small1000 (by omega)
    refine ⟨_,_,rfl,Same.put (z1.trans s5) hq,?_⟩
    rw [st]
    exact e3
  ·rintro σ H' ⟨v4,v5,rfl,z1,z2⟩
   rw [List.length_map,List.take_length] at z2
   exact ⟨_,rfl,k H' q z1 z2⟩
end
end Cw
namespace Cw
open PySem PySem.Spec PyProof.Rows L2 CwG CwR
theorem for_trip{K:PySem.W.Frag}{a:Addr}{xs:List Addr}{p q r:Nat}{tb:TS}{D:Ends}{σ:L2.St}{H:Hp}(Pv:Nat->L2.St->Hp->Prop)(h0:Pv 0 σ H)(hl:∀ i σ H,i≤xs.length->Pv i σ H->SqL K H a (xs.map V.ref))
  (hs:∀ i t σ H,xs[i]?=some t->Pv i σ H->∃ x y z,SqT K H t [x,y,z]∧tb { D with nx:=Pv (i+1),ct:=Pv (i+1),bk:=D.nx } (((σ.set p (some x)).set q (some y)).set r (some z)) H) (hd:∀ σ H,Pv xs.length σ H->D.nx σ H) :
  ∃ W:Nat->Nat->L2.St->Hp->Prop,(∃ m,W 0 m σ H)∧∀ i m σ H,W i m σ H ->
   ((Itl K a).stop i H∧D.nx σ H)∨((Itl K a).go i H∧∃ N:L2.St->Hp->Prop,(∀ σ' H',N σ' H'->∃ m',m' < m∧W (i+1) m' σ' H')∧∀ x H',(Itl K a).yld i H x H'->(gTup K 3 (gCons (gName p) (gCons (gName q) (gCons (gName r) gNil)))) x σ H' fun σ2 H2=>tb { D with nx:=N,ct:=N,bk:=D.nx } σ2 H2):=by
 refine for_list (xs:=xs.map V.ref) Pv h0 (fun i σ H hi=>hl i σ H (by simpa using hi)) (fun i v σ H hv pp=>?_) (fun σ H pp=>hd σ H (by simpa using pp))
 obtain ⟨t,ht,rfl⟩:=map_get hv
 obtain ⟨x,y,z,h1,h2⟩:=hs i t σ H ht pp
 exact ⟨t,_,rfl,h1,rfl,_,_,rfl,_,_,rfl,_,_,rfl,rfl,h2⟩
def keyOf(on off:Nat):List Key:=[Sum.inl (on:Int),Sum.inl (off:Int)]
theorem keyOf_inj{a b c d:Nat}(h:keyOf a b=keyOf c d):a=c∧b=d:=by
 unfold keyOf at h
 injection h with h1 h2
 injection h2 with h2 _
 injection h1 with h1
 injection h2 with h2
 exact ⟨by omega,by omega⟩
def rK(s:Rung.Scheme)(r:CwG.Row):List Key×V:=(keyOf r.2.1 r.2.2,.int (scN s r.2.1 r.2.2:Nat))
theorem rK_none{s:Rung.Scheme}{C:List CwG.Row}(R:Rows s C){i m on off:Nat}(h:C[i]?=some (m,on,off)):valV ((C.take i).map (rK s)) (keyOf on off)=none:=by
 unfold valV
 rw [Option.map_eq_none_iff,List.find?_eq_none]
 intro x hx
 obtain ⟨⟨m',on',off'⟩,hr,rfl⟩:=List.mem_map.mp hx
 obtain ⟨j,hj⟩:=List.mem_iff_getElem?.mp hr
 have jl:=(List.getElem?_eq_some_iff.mp hj).1
 rw [List.length_take] at jl
 rw [List.getElem?_take_of_lt (by omega)] at hj
 intro e
 have e:keyOf on' off'=keyOf on off:=of_decide_eq_true e
 obtain ⟨e1,e2⟩:=keyOf_inj e
 subst e1 e2
 have:=R.inj hj h
 omega
theorem rK_some{s:Rung.Scheme}{C:List CwG.Row}(R:Rows s C){i j m on off:Nat}(h:C[j]?=some (m,on,off))(hji:j < i):valV ((C.take i).map (rK s)) (keyOf on off)=some (.int (scN s on off:Nat)):=by
 unfold valV
 have hm:(m,on,off)∈C.take i:=List.mem_of_getElem? (i:=j) (by rw [List.getElem?_take_of_lt hji]; exact h)
 cases hf:((C.take i).map (rK s)).find? (fun kv=>decide (kv.1=keyOf on off)) with
 | none =>
  have:=List.find?_eq_none.mp hf (rK s (m,on,off)) (List.mem_map.mpr ⟨_,hm,rfl⟩)
  exact absurd (by simp [rK]) this
 | some x =>
  obtain ⟨⟨m',on',off'⟩,_,rfl⟩:=List.mem_map.mp (List.mem_of_find?_eq_some hf)
  have e:=List.find?_some hf
  have e:keyOf on' off'=keyOf on off:=of_decide_eq_true e
  obtain ⟨e1,e2⟩:=keyOf_inj e
  subst e1 e2
  rfl
theorem least_snoc(s:Rung.Scheme){C:List CwG.Row}{i m on off:Nat}(h:C[i]?=some (m,on,off)):leastOf s (C.take (i+1))=leastOf s (C.take i)++if lsN s on off≠0 then [(on,off,lsN s on off)] else []:=by
 unfold leastOf
 rw [CwG.take_snoc h,List.filterMap_append]
 congr 1
 by_cases e:lsN s on off≠0
 ·simp [e]
 ·simp [e]
theorem least_len(s:Rung.Scheme)(C:List CwG.Row):(leastOf s C).length≤C.length:=List.length_filterMap_le _ _
theorem lsF_snoc(s:Rung.Scheme){fs:List (Nat×Nat)}{j:Nat}{f:Nat×Nat}(n:Nat)(h:fs[j]?=some f):lsF s n (fs.take (j+1))=andNot (lsF s n (fs.take j)) (scN s f.1 f.2):=by
 unfold lsF
 rw [CwG.take_snoc h,List.foldl_append]
 rfl
def Keep(d q:Addr)(H H':Hp):Prop:=∀ b o,H b=some o->b≠d->b≠q->H' b=some o
section
variable {P:Program} {w:World} {K:PySem.W.Frag} {mg:Str->Option Value} {base:Heap} {CC CS:Addr}
def spLeast(CC CS:Addr):Sp:=fun vs H Q _=>∃ (a:Addr) (s:Rung.Scheme),vs=[.ref a]∧SchAt CC CS H a s∧Ws s∧s.used.length≤6∧∀ (H':Hp) (q:Addr) (C:List CwG.Row),Same H H'->H q=none->Rows s C->RowsAt H' q (leastOf s C)->Q (.ref q) H'
theorem scLeast:FnScope ["scheme","reached","least","many","on","off","nodes","fewer"] ["scheme"] (defScope sLeast):=⟨rfl,rfl,rfl,by decide +kernel,rfl,by decide +kernel,by decide +kernel⟩
theorem ok_least{f fC fL fW:Addr}{fd fdC fdL fdW:FuncData}(F:Fun K "find_least_conditions" "find_least_conditions" sLeast f fd)(T:TxA K mg CC CS)(CO:Cal P w K mg base "conditions_on" ["variables"] spCondsOn 1 fC fdC)(CL:Cal P w K mg base "live_nodes" ["contacts","on","off"] (spLive CC) 3 fL fdL)
  (CW:Cal P w K mg base "with_one_left_out" ["variables","on","off"] spLeft 1 fW fdW):FnOk P w K mg base CX0 4 f fd ["scheme"] (spLeast CC CS):=by
 refine F.ok scLeast (fun vs H Q E h=>?_) (fun cdv A outer s H vs Q E hr h=>?_)
 ·obtain ⟨a,s,rfl,_⟩:=h
  rfl
 ·obtain ⟨a,sc,rfl,⟨l,u,b,lc,lt,⟨dx,hs⟩,hcs,hb,hus,hlc,hlt⟩,W,h6,k⟩:=h
  have hu:=hu_of hr
  have hr1:Room 1 _:=hr.mono (by decide)
  refine ⟨_,pss_cons (ps_set (i:=1) scLeast.nd rfl (Or.inl rfl) pe_dnewT)
   (pss_cons (ps_set (i:=2) scLeast.nd rfl (Or.inl rfl) (pe_lst pa_nil))
   (pss_cons (ps_for PassesOwn.never rfl (pi_list (pe_call CO.ok hr1 rfl CO.m CO.kp CO.b .nil pass0 (pa_cons (pe_fld (pv 0) rfl) pa_nil))) (pg_tup rfl (pgs_cons (pg_name (i:=3) scLeast.nd rfl (Or.inl rfl)) (pgs_cons (pg_name (i:=4) scLeast.nd rfl (Or.inl rfl)) (pgs_cons (pg_name (i:=5) scLeast.nd rfl (Or.inl rfl)) pgs_nil))))
    (pss_cons (ps_set (i:=6) scLeast.nd rfl (Or.inl rfl) (pe_call CL.ok hr rfl CL.m CL.kp CL.b .nil pass0 (pa_cons (pe_fld (pv 0) rfl) (pa_cons (pv 4) (pa_cons (pv 5) pa_nil)))))
    (pss_cons (ps_dput hu (pv 1) (pe_tup (pa_cons (pv 4) (pa_cons (pv 5) pa_nil))) (pv 6) rfl)
    (pss_cons (ps_for PassesOwn.never rfl (pi_list (pe_call CW.ok hr1 rfl CW.m CW.kp CW.b .nil pass0 (pa_cons (pe_fld (pv 0) rfl) (pa_cons (pv 4) (pa_cons (pv 5) pa_nil))))) (pg_name (i:=7) scLeast.nd rfl (Or.inl rfl))
     (pss_one (ps_set (i:=6) scLeast.nd rfl (Or.inl rfl) (pe_op op_and (pv 6) (pe_un un_inv (pe_dget hu (pv 1) (pv 7) (fun _ _=>rfl)))))))
    (pss_one (ps_if (pt_cmpR op_ne (pv 6) pe_int (nomark _)) (pss_one (ps_expr (pe_bm PySem.F.plainAttrs_list PySem.F.slot_list_append PySem.F.type_list_append mt_append (pv 2) (pa_cons (pe_tup (pa_cons (pv 4) (pa_cons (pv 5) (pa_cons (pv 6) pa_nil)))) pa_nil)))) pss_nil))))))
   (pss_one (ps_ret (pv 2))))),?_⟩
  intro d hd
  refine ⟨Nat.zero_le _,fun q hq=>?_⟩
  have nqd:q≠d:=(ne_of_none upd_same hq).symm
  have fq:H q=none:=by have:=hq; rw [upd_ne nqd] at this; exact this
  have S2:Same H (upd (upd H d (.dT [])) q (.lst [])):=Same.put (Same.new hd) fq
  have hd2:upd (upd H d (.dT [])) q (.lst []) d=some (.dT []):=by rw [upd_ne nqd.symm,upd_same]
  have hq2:upd (upd H d (.dT [])) q (.lst []) q=some (.lst []):=upd_same
  generalize upd (upd H d (.dT [])) q (.lst [])=H2 at *
  refine ⟨_,rfl,a,CS,dx,_,_,rfl,S2 _ _ hs,T.cs,T.nUsed,sc_used _ _ _ _ _,u,sc.used,rfl,S2 _ _ hus,h6,used_32 sc,fun H3 q0 C S3 fq0 hC pC oC=>?_⟩
  have R:Rows sc C:=Rows.mk' pC oC
  obtain ⟨ts0,e0,r0⟩:=hC
  have nq0d:q0≠d:=fun e=>by subst e; rw [hd2] at fq0; cases fq0
  have nq0q:q0≠q:=fun e=>by subst e; rw [hq2] at fq0; cases fq0
  have clen:C.length≤729:=by rw [pC.length_eq,cdOf_len]; exact pow3 h6
  have lc0:=Pd.len r0
  have S23:=S2.trans S3
  have tne:∀ t x,H3 t=some (.tup x)->t≠d∧t≠q:=fun t x e=>⟨ne_of e (S3 _ _ hd2) (by intro y; cases y),ne_of e (S3 _ _ hq2) (by intro y; cases y)⟩
  refine ⟨q0,rfl,⟨_,SqL.of e0⟩,for_trip (xs:=ts0) (fun i σ H'=>∃ v3 v4 v5 v6 v7:Option V,σ=[some (.ref a),some (.ref d),some (.ref q),v3,v4,v5,v6,v7]∧Same H H'∧Keep d q H3 H'∧H' d=some (.dT ((C.take i).map (rK sc)))∧RowsAt H' q (leastOf sc (C.take i))) ?_ ?_ ?_ ?_⟩
  ·exact ⟨none,none,none,none,none,rfl,S23,fun b o e _ _=>e,S3 _ _ hd2,[],S3 _ _ hq2,.nil⟩
  ·rintro i σ H' hi ⟨_,_,_,_,_,rfl,_,z,_⟩
   exact SqL.of (z _ _ e0 nq0d nq0q)
  ·rintro i t σ H' ht ⟨v3,v4,v5,v6,v7,rfl,z1,z2,z3,z4⟩
   obtain ⟨⟨m,on,off⟩,hc,hT⟩:=Pd.get r0 ht
   have il:i < C.length:=(List.getElem?_eq_some_iff.mp hc).1
   obtain ⟨n1,n2⟩:=tne _ _ hT
   refine ⟨_,_,_,SqT.of (z2 _ _ hT n1 n2),?_⟩
   have ok:=((R.mem _ _ _).mp (List.mem_of_getElem? hc)).1
   refine ⟨_,rfl,a,CS,dx,_,_,rfl,z1 _ _ hs,T.cs,T.nCon,sc_con _ _ _ _ _,_,rfl,_,rfl,l,sc.contacts,on,off,rfl,hcs.same z1,W.okc,W.len,fun H4 B S4 D0=>?_⟩
   rw [scN_dist W D0]
   refine ⟨_,rfl,_,rfl,_,rfl,_,rfl,(by show 2≤sizeLine; decide),fun t5 ht5=>?_⟩
   have S5:Same H4 (upd H4 t5 (.tup [.int on,.int off])):=Same.new ht5
   have S45:=S4.trans S5
   have hd5:=S45 _ _ z3
   have nd5:t5≠d:=(ne_of_none (S4 _ _ z3) ht5).symm
   refine ⟨d,_,rfl,DPut.t (k:=keyOf on off) hd5 upd_same ?_,?_⟩
   ·rw [List.length_map,List.length_take]
    exact small1000 (by omega)
   have hk:putK ((C.take i).map (rK sc)) (keyOf on off) (.int (scN sc on off:Nat))=(C.take (i+1)).map (rK sc):=by
    rw [putK_new _ (rK_none R hc),CwG.take_snoc hc,List.map_append]
    rfl
   rw [hk]
   have S6:Same H (upd (upd H4 t5 (.tup [.int on,.int off])) d (.dT ((C.take (i+1)).map (rK sc)))):=Same.put (z1.trans S45) hd
   have k6:Keep d q H3 (upd (upd H4 t5 (.tup [.int on,.int off])) d (.dT ((C.take (i+1)).map (rK sc)))):=fun b o e b1 b2=>by rw [upd_ne b1]; exact S45 _ _ (z2 _ _ e b1 b2)
   have hd6:upd (upd H4 t5 (.tup [.int on,.int off])) d (.dT ((C.take (i+1)).map (rK sc))) d=some (.dT ((C.take (i+1)).map (rK sc))):=upd_same
   have hq6:RowsAt (upd (upd H4 t5 (.tup [.int on,.int off])) d (.dT ((C.take (i+1)).map (rK sc)))) q (leastOf sc (C.take i)):=by
    obtain ⟨ts,e,r⟩:=z4.same S45
    refine ⟨ts,by rw [upd_ne nqd]; exact e,Pd.imp (fun t' x' z=>?_) r⟩
    unfold Tp3 at z ⊢
    rw [upd_ne (ne_of z hd5 (by intro y; cases y))]
    exact z
   generalize upd (upd H4 t5 (.tup [.int on,.int off])) d (.dT ((C.take (i+1)).map (rK sc)))=H6 at *
   refine ⟨_,rfl,a,CS,dx,_,_,rfl,S6 _ _ hs,T.cs,T.nUsed,sc_used _ _ _ _ _,_,rfl,_,rfl,u,sc.used,on,off,rfl,S6 _ _ hus,by omega,used_32 sc,fun H7 qf S7 hF=>?_⟩
   obtain ⟨tf,ef,rf⟩:=hF
   have hd7:=S7 _ _ hd6
   refine ⟨qf,rfl,⟨_,SqL.of ef⟩,for_list (xs:=tf.map V.ref) (fun j σ H'=>∃ v7:Option V,σ=[some (.ref a),some (.ref d),some (.ref q),some (.int (m:Nat)),some (.int (on:Nat)),some (.int (off:Nat)),some (.int (lsF sc (scN sc on off) ((fewerOf sc.used on off).take j):Nat)),v7]∧H'=H7) ?_ ?_ ?_ ?_⟩
   ·exact ⟨v7,rfl,rfl⟩
   ·rintro j σ H' hj ⟨_,rfl,rfl⟩
    exact SqL.of ef
   ·rintro j y σ H' hy ⟨v7,rfl,rfl⟩
    obtain ⟨t8,ht8,rfl⟩:=map_get hy
    obtain ⟨fw,hfw,hTf⟩:=Pd.get rf ht8
    obtain ⟨j',m',hj',hcj⟩:=R.earlier hc (List.mem_of_getElem? hfw)
    have dg:DGet H' d (.ref t8) (some (.int (scN sc fw.1 fw.2:Nat))):=by
     have:=DGet.t (k:=keyOf fw.1 fw.2) hd7 (b:=t8) hTf
     rw [rK_some R hcj (show j' < i+1 by omega)] at this
     exact this
    refine ⟨_,rfl,_,rfl,_,rfl,d,_,rfl,dg,_,rfl,_,_,rfl,rfl,some (.ref t8),?_,rfl⟩
    show List.set _ 6 (some (V.int (Builtin.bitAnd ((lsF sc (scN sc on off) ((fewerOf sc.used on off).take j):Nat):Int) (Builtin.bitNot ((scN sc fw.1 fw.2:Nat):Int)))))=_
    rw [bandn_nat,←lsF_snoc sc _ hfw]
    rfl
   rintro σ H8 ⟨v7,rfl,rfl⟩
   rw [List.length_map,Pd.len rf,List.take_length]
   have el:lsF sc (scN sc on off) (fewerOf sc.used on off)=lsN sc on off:=rfl
   rw [el]
   have st:=least_snoc sc hc
   have S68:=S6.trans S7
   have k8:Keep d q H3 H8:=fun b o e b1 b2=>S7 _ _ (k6 b o e b1 b2)
   have hq8:=hq6.same S7
   refine ⟨_,rfl,rfl,_,rfl,?_⟩
   by_cases h0:lsN sc on off=0
   ·rw [h0]
    refine ⟨_,_,_,_,_,rfl,S68,k8,hd7,?_⟩
    rw [st,h0]
    simpa using hq8
   ·have ed:(!decide (V.int (lsN sc on off:Nat)=V.int 0))=true:=by rw [decide_eq_false (by intro y; injection y with y; omega)]; rfl
    rw [if_pos h0] at st
    show if (!decide (V.int (lsN sc on off:Nat)=V.int 0))=true then _ else _
    rw [ed]
    refine ⟨_,rfl,.inl ⟨rfl,_,SqL.of hq8.choose_spec.1⟩,?_⟩
    refine ⟨_,rfl,_,rfl,_,rfl,(by show 3≤sizeLine; decide),fun t9 ht9=>?_⟩
    obtain ⟨ts,e1,r1⟩:=hq8
    have S9:Same H8 (upd H8 t9 (.tup [.int on,.int off,.int (lsN sc on off:Nat)])):=Same.new ht9
    refine ⟨q,_,_,rfl,rfl,S9 _ _ e1,?_,?_⟩
    ·rw [List.length_map,Pd.len r1]
     have:=least_len sc (C.take i)
     rw [List.length_take] at this
     exact small1000 (by omega)
    refine ⟨_,_,_,_,_,rfl,Same.put (S68.trans S9) fq,fun b o e b1 b2=>by rw [upd_ne b2]; exact S9 _ _ (k8 b o e b1 b2),by rw [upd_ne nqd.symm]; exact S9 _ _ hd7,ts++[t9],by rw [upd_same,List.map_append]; rfl,?_⟩
    rw [st]
    have keep:∀ t' x',Tp3 (upd H8 t9 (.tup [.int on,.int off,.int (lsN sc on off:Nat)])) t' x'->Tp3 (upd (upd H8 t9 (.tup [.int on,.int off,.int (lsN sc on off:Nat)])) q (.lst (ts.map V.ref++[.ref t9]))) t' x':=fun t' x' z=>by
     unfold Tp3 at z ⊢
     rw [upd_ne (ne_of z (S9 _ _ e1) (by intro y; cases y))]
     exact z
    exact Pd.snoc (Pd.imp keep (Pd.imp (fun _ _ z=>S9 _ _ z) r1)) (keep _ _ upd_same)
  ·rintro σ H' ⟨v3,v4,v5,v6,v7,rfl,z1,z2,z3,z4⟩
   rw [lc0,List.take_length] at z4
   exact ⟨_,rfl,k H' q C z1 fq R z4⟩
end
end Cw
namespace Cw
open PySem PySem.Spec PyProof.Rows L2 CwG CwR
theorem for_items{K:PySem.W.Frag}{d:Addr}{o:Obj}{kvs:List (Key×V)}{p q:Nat}{tb:TS}{D:Ends}{σ:L2.St}{H:Hp}(Pv:Nat->L2.St->Hp->Prop)(h0:Pv 0 σ H)(hl:∀ i σ H,i≤kvs.length->Pv i σ H->H d=some (.frz o (.dK kvs)))
  (hs:∀ i k v σ H T,kvs[i]?=some (k,v)->Pv i σ H->H T=none->tb { D with nx:=Pv (i+1),ct:=Pv (i+1),bk:=D.nx } ((σ.set p (some (kV k))).set q (some v)) (upd H T (.tup [kV k,v]))) (hd:∀ σ H,Pv kvs.length σ H->D.nx σ H) :
  ∃ W:Nat->Nat->L2.St->Hp->Prop,(∃ m,W 0 m σ H)∧∀ i m σ H,W i m σ H ->
   ((Iti d o kvs).stop i H∧D.nx σ H)∨((Iti d o kvs).go i H∧∃ N:L2.St->Hp->Prop,(∀ σ' H',N σ' H'->∃ m',m' < m∧W (i+1) m' σ' H')∧∀ x H',(Iti d o kvs).yld i H x H'->(gTup K 2 (gCons (gName p) (gCons (gName q) gNil))) x σ H' fun σ2 H2=>tb { D with nx:=N,ct:=N,bk:=D.nx } σ2 H2):=by
 refine ⟨fun i m σ H=>m=kvs.length - i∧i≤kvs.length∧Pv i σ H,⟨kvs.length,by simp,Nat.zero_le _,h0⟩,?_⟩
 rintro i m σ H ⟨rfl,hi,pp⟩
 have hq:=hl i σ H hi pp
 by_cases hlt:i < kvs.length
 ·refine .inr ⟨⟨hq,hlt⟩,Pv (i+1),fun σ' H' p'=>⟨kvs.length - (i+1),by omega,rfl,hlt,p'⟩,fun x H' y=>?_⟩
  obtain ⟨T,k,v,e,rfl,hT,rfl⟩:=y
  exact ⟨T,_,rfl,SqT.of upd_same,rfl,_,_,rfl,_,_,rfl,rfl,hs i k v σ H T e pp hT⟩
 ·have e:i=kvs.length:=by omega
  subst e
  exact .inl ⟨⟨hq,Nat.le_refl _⟩,hd σ H pp⟩
theorem pt_truthK{X:Cx}{K:PySem.W.Frag}{a:Expr}{ta:TE}(hK:X.K=K)(ha:PE X a ta)(he:∀ whole,isTrue a X.env whole=(do let v←whole; standAt a.pos; holding [v] (truthy v))):PT X a (fun σ H Q=>ta σ H fun x H'=>∃ k,TruV K x H' k∧Q k H'):=by
 subst hK
 exact pt_truth ha he
def But(a:Addr)(H H':Hp):Prop:=∀ b o,H b=some o->b≠a->H' b=some o
theorem But.of{a:Addr}{H H':Hp}(S:Same H H'):But a H H':=fun b o e _=>S b o e
theorem But.trans{a:Addr}{H H' H'':Hp}(h:But a H H')(h':But a H' H''):But a H H'':=fun b o e hb=>h' b o (h b o e hb) hb
theorem sch_write{CC CS a dx l u:Addr}{H:Hp}{s:Rung.Scheme}{b:Nat}{lc lt lc' lt':V}(hs:H a=some (.ins CS dx (scF b l u lc lt)))(hcs:ConsAt CC H l s.contacts)(hb:BitsOf s b)(hus:H u=some (.lst (s.used.map nV)))(hlc:LcOk H s lc')(hlt:LtOk H s lt') :
  SchAt CC CS (upd H a (.ins CS dx (scF b l u lc' lt'))) a s:=by
 have nl:∀ c o,H c=some o->(∀ C d fs,o≠.ins C d fs)->c≠a:=fun c o e h=>ne_of e hs (fun z=>h _ _ _ z)
 have up:∀ c o,H c=some o->(∀ C d fs,o≠.ins C d fs)->upd H a (.ins CS dx (scF b l u lc' lt')) c=some o:=fun c o e h=>by rw [upd_ne (nl c o e h)]; exact e
 refine ⟨l,u,b,lc',lt',⟨dx,upd_same⟩,?_,hb,up _ _ hus (by intro _ _ _ z; cases z),?_,?_⟩
 ·obtain ⟨as,e,r⟩:=hcs
  refine ⟨as,up _ _ e (by intro _ _ _ z; cases z),Pd.imp (fun c x ⟨d,z⟩=>⟨d,?_⟩) r⟩
  rw [upd_ne (ne_of z hs (fun y=>?_))]
  ·exact z
  ·injection y with _ _ y
   have:=congrArg List.length y
   simp [ctF,scF] at this
 ·exact hlc.imp id fun ⟨q,C,ts,h1,h2,h3,h4⟩=>⟨q,C,ts,h1,h2,up _ _ h3 (by intro _ _ _ z; cases z),Pd.imp (fun t x z=>up _ _ z (by intro _ _ _ y; cases y)) h4⟩
 ·exact hlt.imp id fun ⟨d,h1,h2⟩=>⟨d,h1,up _ _ h2 (by intro _ _ _ z; cases z)⟩
theorem rem_upd{H:Hp}{Z:Addr->Prop}{a:Addr}{o:HO}(h:¬ Z a):rem (upd H a o) Z=upd (rem H Z) a o:=by
 funext b
 by_cases e:b=a
 ·subst e
  rw [upd_same]
  exact rem_some.mpr ⟨h,upd_same⟩
 ·rw [upd_ne e]
  by_cases z:Z b
  ·simp [rem,z]
  ·simp only [rem,z,if_false]
   rw [upd_ne e]
def ZK(CC CS a:Addr)(s:Rung.Scheme)(H H':Hp):Prop:=∀ Z,Lists H Z->SchAt CC CS (rem H Z) a s->SchAt CC CS (rem H' Z) a s
theorem ZK.of{CC CS a:Addr}{s:Rung.Scheme}{H H':Hp}(S:Same H H'):ZK CC CS a s H H':=fun Z _ h=>h.same (sRem S)
theorem ZK.same{CC CS a:Addr}{s:Rung.Scheme}{H H1 H2:Hp}(h:ZK CC CS a s H H1)(S:Same H1 H2):ZK CC CS a s H H2:=fun Z hZ h0=>(h Z hZ h0).same (sRem S)
theorem scF_inj{b b':Int}{l l' u u':Addr}{lc lc' lt lt':V}(h:scF b l u lc lt=scF b' l' u' lc' lt'):b=b'∧l=l'∧u=u'∧lc=lc'∧lt=lt':=by
 simpa [scF] using h
theorem ZK.write{CC CS a dx l u:Addr}{H H1:Hp}{s:Rung.Scheme}{b:Nat}{lc lt lc' lt':V}(hs:H a=some (.ins CS dx (scF b l u lc lt)))(S1:Same H H1)
  (f1:∀ Z,Lists H Z->LcOk (rem H Z) s lc->LcOk (rem H1 Z) s lc') (f2:∀ Z,Lists H Z->LtOk (rem H Z) s lt->LtOk (rem H1 Z) s lt'):ZK CC CS a s H (upd H1 a (.ins CS dx (scF b l u lc' lt'))):=fun Z hZ h0=>by
 obtain ⟨l2,u2,b2,lc2,lt2,⟨dx2,hs2⟩,hcs,hb,hus,hlc,hlt⟩:=h0
 obtain ⟨na,e⟩:=rem_some.mp hs2
 rw [hs] at e
 injection e with e
 injection e with _ _ e
 obtain ⟨e1,rfl,rfl,rfl,rfl⟩:=scF_inj e
 have e1:b=b2:=by omega
 subst e1
 rw [rem_upd na]
 exact sch_write (rem_some.mpr ⟨na,S1 _ _ hs⟩) (hcs.same (sRem S1)) hb (sRem S1 _ _ hus) (f1 Z hZ hlc) (f2 Z hZ hlt)
section
variable {P:Program} {w:World} {K:PySem.W.Frag} {mg:Str->Option Value} {base:Heap} {CC CS:Addr}
def cdP(z:Rung.Conds):Nat×Nat:=(z.on,z.off)
def spSums(CC CS:Addr):Sp:=fun vs H Q _=>∃ (a:Addr) (s:Rung.Scheme) (k:Nat),vs=[.ref a,.int k]∧SchAt CC CS H a s∧Ws s∧s.used.length≤6∧k < 64 ∧
 ∀ (H':Hp) (q:Addr),SchAt CC CS H' a s->But a H H'->ZK CC CS a s H H'->FltAt H' q ((Rung.sumsOf s k).map cdP)->H q=none->Q (.ref q) H'
theorem scSums:FnScope ["scheme","node","on","off","nodes"] ["scheme","node"] (defScope sSums):=⟨rfl,rfl,rfl,by decide +kernel,rfl,by decide +kernel,by decide +kernel⟩
theorem lsum_snoc{L:List CwG.Row}{j k:Nat}{r:CwG.Row}(h:L[j]?=some r):((L.take (j+1)).filter fun r=>r.2.2.testBit k).map (fun r=>(r.1,r.2.1))=((L.take j).filter fun r=>r.2.2.testBit k).map (fun r=>(r.1,r.2.1))++if r.2.2.testBit k=true then [(r.1,r.2.1)] else []:=by
 rw [CwG.take_snoc h,List.filter_append,List.map_append]
 congr 1
 by_cases e:r.2.2.testBit k=true
 ·simp [e]
 ·simp [e]
theorem ok_sums{f fL fA:Addr}{fd fdL fdA:FuncData}(F:Fun K "sums_of" "sums_of" sSums f fd)(T:TxA K mg CC CS)(CL:Cal P w K mg base "find_least_conditions" ["scheme"] (spLeast CC CS) 4 fL fdL)(CA:Cal P w K mg base "is_among" ["nodes","node"] spAmong 1 fA fdA) :
  FnOk P w K mg base CX0 5 f fd ["scheme","node"] (spSums CC CS):=by
 refine F.ok scSums (fun vs H Q E h=>?_) (fun cdv A outer s H vs Q E hr h=>?_)
 ·obtain ⟨a,s,k,rfl,_⟩:=h
  rfl
 ·obtain ⟨a,sc,nd,rfl,hSc,W,h6,h64,k⟩:=h
  have hr1:Room 1 _:=hr.mono (by decide)
  refine ⟨_,pss_cons (ps_if (pt_cmp (pc_isN (pe_fld (pv 0) rfl))) (pss_one (ps_fld (pv 0) (pe_call CL.ok hr rfl CL.m CL.kp CL.b .nil pass0 (pa_cons (pv 0) pa_nil)) rfl)) pss_nil)
   (pss_one (ps_ret (pe_lc (own:=[("on",2),("off",3),("nodes",4)]) rfl scSums.nd (pi_list (pe_fld (pv 0) rfl)) (by exact blkOk_by (N:=["scheme","node","on","off","nodes"]) (sc:=defScope sSums) (by decide +kernel))
     (fun _ _ _ _ _=>pg_tupK (K:=K) (n:=3) rfl rfl (pgs_cons (pg_name (i:=2) scSums.nd rfl (Or.inl rfl)) (pgs_cons (pg_name (i:=3) scSums.nd rfl (Or.inl rfl)) (pgs_cons (pg_name (i:=4) scSums.nd rfl (Or.inl rfl)) pgs_nil)))) (fun _ _ _ _ _=>pts_one (pt_truthK (K:=K) rfl (pe_call CA.ok hr1 rfl CA.m CA.kp CA.b .nil pass0 (pa_cons (pv 4) (pa_cons (pv 1) pa_nil))) (fun _=>rfl))) (fun _ _ _ _ _=>pe_tup (pa_cons (pv 2) (pa_cons (pv 3) pa_nil)))))),?_⟩
  have rest:∀ (H1:Hp) (q0:Addr) (C:List CwG.Row) (ts:List Addr),SchAt CC CS H1 a sc->But a H H1->ZK CC CS a sc H H1->Rows sc C->H1 q0=some (.lst (ts.map V.ref))->Paired (Tp3 H1) ts (leastOf sc C)->∀ D,H1 D=none ->
    ∃ W:Nat->Nat->Hp->Prop,(∃ m,W 0 m (upd H1 D (.lst [])))∧∀ i m H,W i m H ->
   ((Itl K q0).stop i H∧Q (.ref D) H)∨((Itl K q0).go i H∧∃ Nx:Hp->Prop,(∀ H',Nx H'->∃ m',m' < m∧W (i+1) m' H')∧∀ x H',(Itl K q0).yld i H x H'->(gTup K 3 (gCons (gName 2) (gCons (gName 3) (gCons (gName 4) gNil)))) x (wipe [some (.ref a),some (.int nd),none,none,none] [2,3,4]) H' fun σ2 H2=>wipe σ2 [2,3,4]=wipe [some (.ref a),some (.int nd),none,none,none] [2,3,4] ∧
    (fun σ H Q=>tCall spAmong [] E0 (tCons (tVar 4) (tCons (tVar 1) tNil)) σ H fun x H'=>∃ k,TruV K x H' k∧Q k H':TT) σ2 H2 fun b H3 =>
    if b=true then tTup (tCons (tVar 2) (tCons (tVar 3) tNil)) σ2 H3 fun y H4=>∃ acc,H4 D=some (.lst acc)∧acc.length < sizeLine∧Nx (upd H4 D (.lst (acc++[y]))) else Nx H3):=fun H1 q0 C ts hS1 hB hZK R e0 r0 D hD=>by
   have clen:C.length≤729:=by rw [R.perm.length_eq,cdOf_len]; exact pow3 h6
   have llen:(leastOf sc C).length≤729:=Nat.le_trans (least_len sc C) clen
   have fD:H D=none:=by
    cases e:H D with
    | none=>rfl
    | some o =>
     by_cases h:D=a
     ·subst h
      obtain ⟨_,_,_,_,_,⟨_,z⟩,_⟩:=hS1
      rw [z] at hD; cases hD
     ·rw [hB D o e h] at hD; cases hD
   refine lc_list (K:=K) (a:=q0) (g:=gTup K 3 (gCons (gName 2) (gCons (gName 3) (gCons (gName 4) gNil)))) (tt:=fun σ H Q=>tCall spAmong [] E0 (tCons (tVar 4) (tCons (tVar 1) tNil)) σ H fun x H'=>∃ k,TruV K x H' k∧Q k H') (te:=tTup (tCons (tVar 2) (tCons (tVar 3) tNil))) (vs:=[2,3,4]) (σ:=[some (.ref a),some (.int nd),none,none,none]) (Qd:=fun H=>Q (.ref D) H) (xs:=ts.map V.ref) (fun j H2=>Same H1 H2∧FltAt H2 D ((((leastOf sc C).take j).filter fun r=>r.2.2.testBit nd).map fun r=>(r.1,r.2.1))) ⟨Same.new hD,[],upd_same,.nil⟩ ?_ ?_ ?_
   ·rintro j H2 hj ⟨S,_⟩
    exact SqL.of (S _ _ e0)
   ·rintro j x H2 hx ⟨S,hF⟩
    obtain ⟨t,ht,rfl⟩:=map_get hx
    obtain ⟨⟨on,off,ns⟩,hr0,hT⟩:=Pd.get r0 ht
    have jl:j < (leastOf sc C).length:=(List.getElem?_eq_some_iff.mp hr0).1
    have st:=lsum_snoc (k:=nd) hr0
    refine ⟨t,_,rfl,SqT.of (S _ _ hT),rfl,_,_,rfl,_,_,rfl,_,_,rfl,rfl,rfl,?_⟩
    refine ⟨_,rfl,_,rfl,ns,nd,rfl,_,rfl,?_⟩
    dsimp only at st
    cases hb:ns.testBit nd with
    | false =>
     rw [hb] at st
     refine ⟨S,?_⟩
     rw [st]
     simpa using hF
    | true =>
     rw [hb,if_pos rfl] at st
     refine ⟨_,rfl,_,rfl,(by show 2≤sizeLine; decide),fun u hu=>?_⟩
     have s5:Same H2 (upd H2 u (.tup [.int on,.int off])):=Same.new hu
     obtain ⟨ts',e1,e2,e3⟩:=(hF.same s5).push (t:=u) (x:=(on,off)) upd_same
     refine ⟨_,e1,?_,Same.put (S.trans s5) hD,?_⟩
     ·rw [List.length_map,e2,List.length_map]
      have:=List.length_filter_le (fun r:CwG.Row=>r.2.2.testBit nd) ((leastOf sc C).take j)
      rw [List.length_take] at this
      exact small1000 (by omega)
     ·rw [st]
      exact e3
   ·rintro H2 ⟨S,hF⟩
    rw [List.length_map,Pd.len r0,List.take_length] at hF
    refine k H2 D (hS1.same S) (hB.trans (But.of S)) (hZK.same S) ?_ fD
    have e:=least_sums R h64
    have e2:(((leastOf sc C).filter fun r=>r.2.2.testBit nd).map fun r=>(r.1,r.2.1))=(Rung.sumsOf sc nd).map cdP:=by
     rw [←e,List.map_map]
     rfl
    rw [←e2]
    exact hF
  obtain ⟨l,u,b,lc,lt,⟨dx,hs⟩,hcs,hb,hus,hlc,hlt⟩:=id hSc
  refine ⟨_,rfl,a,CS,dx,_,_,rfl,hs,T.cs,T.nLc,sc_lc _ _ _ _ _,_,rfl,?_⟩
  rcases hlc with rfl | ⟨q0,C,ts,rfl,R,e0,r0⟩
  ·refine ⟨_,rfl,a,sc,rfl,hSc,W,h6,fun H1 q0 C S1 fq0 R hRow=>?_⟩
   obtain ⟨ts,e0,r0⟩:=hRow
   have hs1:=S1 _ _ hs
   refine ⟨_,rfl,a,CS,dx,_,rfl,hs1,T.cs,T.nLc,(by show 5 < 1000; decide),?_⟩
   have hS2:SchAt CC CS (upd H1 a (.ins CS dx (scF b l u (.ref q0) lt))) a sc:=sch_write hs1 (hcs.same S1) hb (S1 _ _ hus) (.inr ⟨q0,C,ts,rfl,R,e0,r0⟩) (hlt.same S1)
   have up:∀ c o,H1 c=some o->(∀ C d fs,o≠.ins C d fs)->upd H1 a (.ins CS dx (scF b l u (.ref q0) lt)) c=some o:=fun c o e h=>by rw [upd_ne (ne_of e hs1 (fun z=>h _ _ _ z))]; exact e
   have hB2:But a H (upd H1 a (.ins CS dx (scF b l u (.ref q0) lt))):=fun c o e hc=>by rw [upd_ne hc]; exact S1 _ _ e
   have e2:=up _ _ e0 (by intro _ _ _ z; cases z)
   have r2:Paired (Tp3 (upd H1 a (.ins CS dx (scF b l u (.ref q0) lt)))) ts (leastOf sc C):=Pd.imp (fun t x z=>up _ _ z (by intro _ _ _ y; cases y)) r0
   refine ⟨_,rfl,a,CS,dx,_,_,rfl,upd_same,T.cs,T.nLc,sc_lc b l u (.ref q0) lt,q0,rfl,⟨_,SqL.of e2⟩,fun D hD=>?_⟩
   have hZ2:ZK CC CS a sc H (upd H1 a (.ins CS dx (scF b l u (.ref q0) lt))):=ZK.write hs S1 (fun Z hZ _=>.inr ⟨q0,C,ts,rfl,R,rem_some.mpr ⟨hZ.not fq0,e0⟩,Pd.imp (fun t x z=>rem_some.mpr ⟨(hZ.same S1).not' z (by intro _ y; cases y),z⟩) r0⟩) (fun Z _ h=>h.same (sRem S1))
   exact rest _ q0 C ts hS2 hB2 hZ2 R e2 r2 D hD
  ·refine ⟨_,rfl,a,CS,dx,_,_,rfl,hs,T.cs,T.nLc,sc_lc _ _ _ _ _,q0,rfl,⟨_,SqL.of e0⟩,fun D hD=>?_⟩
   exact rest H q0 C ts hSc (fun b o e _=>e) (ZK.of (Same.refl _)) R e0 r0 D hD
end
end Cw
namespace Cw
open PySem PySem.Spec PyProof.Rows L2 CwG CwR
theorem pow2{n:Nat}(h:n≤8):2 ^ n≤256:=by
 have:2 ^ n≤2 ^ 8:=Nat.pow_le_pow_right (by decide) h
 omega
section
variable {P:Program} {w:World} {K:PySem.W.Frag} {mg:Str->Option Value} {base:Heap} {CC CS:Addr}
def spStates:Sp:=fun vs H Q _=>∃ (u:Addr) (us:List Nat),vs=[.ref u]∧H u=some (.lst (us.map nV))∧us.length≤8∧(∀ v∈us,v < 32)∧∀ (H':Hp) (q:Addr),Same H H'->H q=none->H' q=some (.lst ((stOf us).map nV))->Q (.ref q) H'
theorem scStates:FnScope ["variables","states","variable","state"] ["variables"] (defScope sStates):=⟨rfl,rfl,rfl,by decide +kernel,rfl,by decide +kernel,by decide +kernel⟩
theorem ok_states{f:Addr}{fd:FuncData}(F:Fun K "states_of" "states_of" sStates f fd):FnOk P w K mg base CX0 1 f fd ["variables"] spStates:=by
 refine F.ok scStates (fun vs H Q E h=>?_) (fun cdv A outer s H vs Q E hr h=>?_)
 ·obtain ⟨u,us,rfl,_⟩:=h
  rfl
 ·obtain ⟨u,us,rfl,hu,h8,h32,k⟩:=h
  refine ⟨_,pss_cons (ps_set (i:=1) scStates.nd rfl (Or.inl rfl) (pe_lst (pa_cons pe_int pa_nil)))
   (pss_cons (ps_for PassesOwn.never rfl (pi_list (pv 0)) (pg_name (i:=2) scStates.nd rfl (Or.inr rfl))
    (pss_one (ps_set (i:=1) scStates.nd rfl (Or.inl rfl) (pe_op op_cat (pv 1) (pe_lc (own:=[("state",3)]) rfl scStates.nd (pi_list (pv 1)) (by exact blkOk_by (N:=["variables","states","variable","state"]) (sc:=defScope sStates) (by decide +kernel))
     (fun _ _ _ _ _=>pg_name (i:=3) scStates.nd rfl (Or.inl rfl)) (fun _ _ _ _ _=>pts_nil) (fun _ _ _ _ _=>pe_op op_or (pv 3) (pe_op op_shl pe_int (pv 2))))))))
   (pss_one (ps_ret (pv 1)))),?_⟩
  refine ⟨(by show 1≤sizeLine; decide),fun q hq=>?_⟩
  have S0:Same H (upd H q (.lst [.int 0])):=Same.new hq
  have hq0:upd H q (.lst [.int 0]) q=some (.lst ((stOf (us.take 0)).map nV)):=upd_same
  generalize upd H q (.lst [.int 0])=H0 at *
  refine ⟨_,rfl,u,rfl,⟨_,SqL.of (S0 _ _ hu)⟩,for_list (xs:=us.map nV) (fun i σ H'=>∃ (q:Addr) (v2:Option V),σ=[some (.ref u),some (.ref q),v2,none]∧Same H H'∧H q=none∧H' q=some (.lst ((stOf (us.take i)).map nV))) ?_ ?_ ?_ ?_⟩
  ·exact ⟨q,none,rfl,S0,hq,hq0⟩
  ·rintro i σ H' hi ⟨_,_,rfl,z,_⟩
   exact SqL.of (z _ _ hu)
  ·rintro i y σ H' hy ⟨q,v2,rfl,z1,z2,z3⟩
   obtain ⟨v,hv,rfl⟩:=map_get hy
   have v32:=h32 v (List.mem_of_getElem? hv)
   have il:i < us.length:=(List.getElem?_eq_some_iff.mp hv).1
   have sl:(stOf (us.take i)).length≤256:=by rw [stOf_len,List.length_take]; exact pow2 (by omega)
   refine ⟨_,rfl,_,rfl,q,rfl,⟨_,SqL.of z3⟩,fun D hD=>lc_list (xs:=(stOf (us.take i)).map nV) (fun j H2=>Same H' H2∧H2 D=some (.lst ((((stOf (us.take i)).take j).map fun x=>x|||2 ^ v).map nV))) ⟨Same.new hD,upd_same⟩ ?_ ?_ ?_⟩
   ·rintro j H2 hj ⟨S,_⟩
    exact SqL.of (S _ _ z3)
   ·rintro j x H2 hx ⟨S,hDl⟩
    obtain ⟨st,hst,rfl⟩:=map_get hx
    have jl:=(List.getElem?_eq_some_iff.mp hst).1
    refine ⟨rfl,_,rfl,_,rfl,_,_,rfl,rfl,cpow1 v (by omega),_,_,rfl,rfl,_,hDl,?_,Same.put S hD,?_⟩
    ·rw [List.length_map,List.length_map,List.length_take]
     exact small1000 (by omega)
    ·have es:V.int (Builtin.bitOr (st:Int) ((1:Int)*2 ^ (((v:Nat):Int)).toNat))=nV (st|||2 ^ v):=by rw [shl_nat,bor_nat]; rfl
     rw [upd_same,CwG.take_snoc hst]
     dsimp only
     rw [es,List.map_append,List.map_append]
     rfl
   rintro H2 ⟨S2,hDl⟩
   rw [List.length_map,List.take_length] at hDl
   refine ⟨q,D,_,_,rfl,rfl,S2 _ _ z3,hDl,?_,fun p hp=>?_⟩
   ·rw [List.length_map,List.length_map,List.length_map]
    have:sizeLine=16777216:=sizeLine_eq
    omega
   ·refine ⟨p,_,rfl,(z1.trans S2).trans (Same.new hp),(z1.trans S2).free hp,?_⟩
    rw [upd_same,CwG.take_snoc hv,stOf_snoc,List.map_append]
  ·rintro σ H' ⟨q,v2,rfl,z1,z2,z3⟩
   rw [List.length_map,List.take_length] at z3
   exact ⟨_,rfl,k H' q z1 z2 z3⟩
def spLiveTab(CC CS:Addr):Sp:=fun vs H Q _=>∃ (a:Addr) (s:Rung.Scheme),vs=[.ref a]∧SchAt CC CS H a s∧Ws s∧s.used.length≤8∧∀ (H':Hp) (d:Addr),SchAt CC CS H' a s->But a H H'->ZK CC CS a s H H'->H' d=some (.dK (ltK s (stOf s.used)))->Q (.ref d) H'
theorem scLiveTab:FnScope ["scheme","live","state"] ["scheme"] (defScope sLiveTab):=⟨rfl,rfl,rfl,by decide +kernel,rfl,by decide +kernel,by decide +kernel⟩
theorem ltK_none{s:Rung.Scheme}{l:List Nat}{i x:Nat}(nd:l.Nodup)(h:l[i]?=some x):valV (ltK s (l.take i)) (Sum.inl (x:Int))=none:=by
 unfold valV ltK
 rw [Option.map_eq_none_iff,List.find?_eq_none]
 intro y hy
 obtain ⟨z,hz,rfl⟩:=List.mem_map.mp hy
 intro e
 have e:(Sum.inl (z:Int):Key)=Sum.inl (x:Int):=of_decide_eq_true e
 injection e with e
 have e:z=x:=by omega
 subst e
 obtain ⟨j,hj⟩:=List.mem_iff_getElem?.mp hz
 have jl:=(List.getElem?_eq_some_iff.mp hj).1
 rw [List.length_take] at jl
 rw [List.getElem?_take_of_lt (by omega)] at hj
 have a1:=List.getElem?_eq_some_iff.mp hj
 have a2:=List.getElem?_eq_some_iff.mp h
 have:=List.pairwise_iff_getElem.mp (List.nodup_iff_pairwise_ne.mp nd) j i a1.1 a2.1 (by omega)
 rw [a1.2,a2.2] at this
 exact this rfl
theorem ltK_some{s:Rung.Scheme}{l:List Nat}{x:Nat}(h:x∈l):valV (ltK s l) (Sum.inl (x:Int))=some (.int (lvN s x:Nat)):=by
 unfold valV ltK
 cases hf:(l.map fun (x:Nat)=>((Sum.inl (x:Int):Key),V.int ((lvN s x:Nat):Int))).find? (fun kv=>decide (kv.1=Sum.inl (x:Int))) with
 | none=>exact absurd (by simp) (List.find?_eq_none.mp hf (Sum.inl (x:Int),V.int ((lvN s x:Nat):Int)) (List.mem_map.mpr ⟨x,h,rfl⟩))
 | some y =>
  obtain ⟨z,_,rfl⟩:=List.mem_map.mp (List.mem_of_find?_eq_some hf)
  have e0:=List.find?_some hf
  have e:(Sum.inl (z:Int):Key)=Sum.inl (x:Int):=of_decide_eq_true e0
  injection e with e
  have e:z=x:=by omega
  subst e
  rfl
theorem ok_liveTab{f fS fL fO:Addr}{fd fdS fdL fdO:FuncData}(F:Fun K "live_by_state" "live_by_state" sLiveTab f fd)(T:TxA K mg CC CS)(CS':Cal P w K mg base "states_of" ["variables"] spStates 1 fS fdS)(CL:Cal P w K mg base "live_nodes" ["contacts","on","off"] (spLive CC) 3 fL fdL)
  (CO:Cal P w K mg base "off_in" ["state"] spOffIn 1 fO fdO):FnOk P w K mg base CX0 4 f fd ["scheme"] (spLiveTab CC CS):=by
 refine F.ok scLiveTab (fun vs H Q E h=>?_) (fun cdv A outer s H vs Q E hr h=>?_)
 ·obtain ⟨a,s,rfl,_⟩:=h
  rfl
 ·obtain ⟨a,sc,rfl,hSc,W,h8,k⟩:=h
  have hu:=hu_of hr
  have hr1:Room 1 _:=hr.mono (by decide)
  refine ⟨_,pss_cons (ps_if (pt_cmp (pc_isN (pe_fld (pv 0) rfl)))
    (pss_cons (ps_set (i:=1) scLiveTab.nd rfl (Or.inl rfl) pe_dnewK)
    (pss_cons (ps_for PassesOwn.never rfl (pi_list (pe_call CS'.ok hr1 rfl CS'.m CS'.kp CS'.b .nil pass0 (pa_cons (pe_fld (pv 0) rfl) pa_nil))) (pg_name (i:=2) scLiveTab.nd rfl (Or.inl rfl))
     (pss_one (ps_dput hu (pv 1) (pv 2) (pe_call CL.ok hr rfl CL.m CL.kp CL.b .nil pass0 (pa_cons (pe_fld (pv 0) rfl) (pa_cons (pv 2) (pa_cons (pe_call CO.ok hr1 rfl CO.m CO.kp CO.b .nil pass0 (pa_cons (pv 2) pa_nil)) pa_nil)))) rfl)))
    (pss_one (ps_fld (pv 0) (pv 1) rfl)))) pss_nil)
   (pss_one (ps_ret (pe_fld (pv 0) rfl))),?_⟩
  obtain ⟨l,u,b,lc,lt,⟨dx,hs⟩,hcs,hb,hus,hlc,hlt⟩:=id hSc
  refine ⟨_,rfl,a,CS,dx,_,_,rfl,hs,T.cs,T.nLt,sc_lt _ _ _ _ _,_,rfl,?_⟩
  rcases hlt with rfl | ⟨d,rfl,hd⟩
  ·intro d hd
   have S1:Same H (upd H d (.dK [])):=Same.new hd
   have hd1:upd H d (.dK []) d=some (.dK []):=upd_same
   generalize upd H d (.dK [])=H1 at *
   refine ⟨_,rfl,a,CS,dx,_,_,rfl,S1 _ _ hs,T.cs,T.nUsed,sc_used _ _ _ _ _,u,sc.used,rfl,S1 _ _ hus,h8,used_32 sc,fun H2 q S2 fq hq=>?_⟩
   have nqd:q≠d:=fun e=>by subst e; rw [hd1] at fq; cases fq
   have S12:=S1.trans S2
   have hd2:=S2 _ _ hd1
   have slen:(stOf sc.used).length≤256:=by rw [stOf_len]; exact pow2 h8
   have snd:=stOf_nd _ (used_nd sc)
   refine ⟨q,rfl,⟨_,SqL.of hq⟩,for_list (xs:=(stOf sc.used).map nV) (fun i σ H'=>∃ v2:Option V,σ=[some (.ref a),some (.ref d),v2]∧Same H H'∧(∀ b o,H2 b=some o->b≠d->H' b=some o)∧H' d=some (.dK (ltK sc ((stOf sc.used).take i)))) ?_ ?_ ?_ ?_⟩
   ·exact ⟨none,rfl,S12,fun b o e _=>e,hd2⟩
   ·rintro i σ H' hi ⟨_,rfl,_,z,_⟩
    exact SqL.of (z _ _ hq nqd)
   ·rintro i y σ H' hy ⟨v2,rfl,z1,z2,z3⟩
    obtain ⟨x,hx,rfl⟩:=map_get hy
    have il:=(List.getElem?_eq_some_iff.mp hx).1
    have xlt:x < 4294967296:=stOf_lt (used_32 sc) x (List.mem_of_getElem? hx)
    refine ⟨_,rfl,a,CS,dx,_,_,rfl,z1 _ _ hs,T.cs,T.nCon,sc_con _ _ _ _ _,_,rfl,_,rfl,x,rfl,?_⟩
    refine ⟨l,sc.contacts,x,4294967295 - x,by rw [show (4294967295:Int) - (x:Int)=((4294967295 - x:Nat):Int) by omega]; rfl,hcs.same z1,W.okc,W.len,fun H3 B S3 D0=>?_⟩
    have D1:Dist sc.contacts (fun c=>c.closed x) 0 B:=by
     have j:∀ n u v,Joins sc.contacts (fun c=>c.closed x) n u v↔Joins sc.contacts (fun c=>c.by_ ⟨x,4294967295 - x⟩) n u v:=fun n u v=>by
      constructor
      ·rintro ⟨c,h1,h2,h3⟩
       exact ⟨c,h1,(by_closed xlt (W.var c (List.mem_of_getElem? h1)).2).trans h2,h3⟩
      ·rintro ⟨c,h1,h2,h3⟩
       exact ⟨c,h1,(by_closed xlt (W.var c (List.mem_of_getElem? h1)).2).symm.trans h2,h3⟩
     exact ⟨D0.zero,D0.only,fun n u v d h=>D0.step n u v d ((j n u v).mp h),fun v d h=>let ⟨n,u,h1,h2⟩:=D0.pred v d h; ⟨n,u,(j n u v).mpr h1,h2⟩⟩
    rw [lvN_dist W D1]
    refine ⟨_,rfl,_,rfl,d,_,rfl,DPut.k (k:=Sum.inl (x:Int)) (S3 _ _ z3) ?_,?_⟩
    ·unfold ltK
     rw [List.length_map,List.length_take]
     exact small1000 (by omega)
    refine ⟨_,rfl,Same.put (z1.trans S3) hd,fun b o e hb=>by rw [upd_ne hb]; exact S3 _ _ (z2 b o e hb),?_⟩
    rw [upd_same,putK_new _ (ltK_none snd hx),CwG.take_snoc hx]
    unfold ltK
    rw [List.map_append]
    rfl
   ·rintro σ H3 ⟨v2,rfl,z1,z2,z3⟩
    rw [List.length_map,List.take_length] at z3
    have hs3:=z1 _ _ hs
    refine ⟨_,rfl,_,rfl,a,CS,dx,_,rfl,hs3,T.cs,T.nLt,(by show 5 < 1000; decide),?_⟩
    have hS4:SchAt CC CS (upd H3 a (.ins CS dx (scF b l u lc (.ref d)))) a sc:=sch_write hs3 (hcs.same z1) hb (z1 _ _ hus) (hlc.same z1) (.inr ⟨d,rfl,z3⟩)
    refine ⟨_,rfl,a,CS,dx,_,_,rfl,upd_same,T.cs,T.nLt,sc_lt b l u lc (.ref d),?_⟩
    refine k _ d hS4 (fun c o e hc=>by rw [upd_ne hc]; exact z1 _ _ e) (ZK.write hs z1 (fun Z _ h=>h.same (sRem z1)) (fun Z hZ _=>.inr ⟨d,rfl,rem_some.mpr ⟨(hZ.same z1).not' z3 (by intro _ y; cases y),z3⟩⟩)) ?_
    rw [upd_ne (ne_of z3 hs3 (by intro y; cases y))]
    exact z3
  ·exact ⟨_,rfl,a,CS,dx,_,_,rfl,hs,T.cs,T.nLt,sc_lt _ _ _ _ _,k H d hSc (fun b o e _=>e) (ZK.of (Same.refl _)) hd⟩
end
end Cw
namespace Cw
open PySem PySem.Spec PyProof.Rows L2 CwG CwR
theorem ltK_get{s:Rung.Scheme}{l:List Nat}{i:Nat}{k:Key}{v:V}(h:(ltK s l)[i]?=some (k,v)):∃ x,l[i]?=some x∧k=Sum.inl ((x:Nat):Int)∧v=.int (lvN s x:Nat):=by
 unfold ltK at h
 obtain ⟨x,hx,e⟩:=map_get h
 injection e with e1 e2
 exact ⟨x,hx,e1,e2⟩
theorem ltK_len(s:Rung.Scheme)(l:List Nat):(ltK s l).length=l.length:=by unfold ltK; rw [List.length_map]
theorem bl_ne(a b:Bool):(!decide (V.bl a=V.bl b))=(a != b):=by cases a<;>cases b<;>rfl
theorem find_take{α:Type}{p:α->Bool}:∀ {l:List α} {i:Nat} {x:α},(∀ j y,j < i->l[j]?=some y->p y=false)->l[i]?=some x->p x=true->l.find? p=some x
 | [],i,x,_,h,_=>by simp at h
 | a::l,0,x,_,h,hp=>by
  have:a=x:=by simpa using h
  subst this
  rw [List.find?_cons,hp]
 | a::l,i+1,x,hb,h,hp=>by
  have ha:=hb 0 a (by omega) rfl
  rw [List.find?_cons,ha]
  exact find_take (i:=i) (fun j y hj hy=>hb (j+1) y (by omega) (by simpa using hy)) (by simpa using h) hp
theorem But.free{a d C dx:Addr}{H H1:Hp}{fs:List (Str×V)}(hB:But a H H1)(ha:H1 a=some (.ins C dx fs))(h:H1 d=none):H d=none:=by
 cases e:H d with
 | none=>rfl
 | some o =>
  by_cases z:d=a
  ·subst z
   rw [ha] at h; cases h
  ·rw [hB d o e z] at h; cases h
section
variable {P:Program} {w:World} {K:PySem.W.Frag} {mg:Str->Option Value} {base:Heap} {CC CS:Addr}
def spFirstA(CC CS:Addr):Sp:=fun vs H Q _=>∃ (a:Addr) (s:Rung.Scheme) (k l:Nat),vs=[.ref a,.int k,.int l]∧SchAt CC CS H a s∧Ws s∧s.used.length≤8∧k < 64∧l < 64∧∀ H':Hp,SchAt CC CS H' a s->But a H H'->ZK CC CS a s H H'->Q (oV (Rung.firstDiffer s k l)) H'
theorem scFirstA:FnScope ["scheme","node","other","live","state","nodes"] ["scheme","node","other"] (defScope sFirstA):=⟨rfl,rfl,rfl,by decide +kernel,rfl,by decide +kernel,by decide +kernel⟩
theorem But.unlock{a d:Addr}{H H1 H2:Hp}{u:HO}{od:Obj}(hB:But a H H1)(hd:H1 d=some u)(S:Same (upd H1 d (.frz od u)) H2):But a H (upd H2 d u):=hB.trans (But.of (Same.unlock hd S))
theorem ok_firstA{f fT fA:Addr}{fd fdT fdA:FuncData}(F:Fun K "first_apart" "first_apart" sFirstA f fd)(CT:Cal P w K mg base "live_by_state" ["scheme"] (spLiveTab CC CS) 4 fT fdT)(CA:Cal P w K mg base "is_among" ["nodes","node"] spAmong 1 fA fdA) :
  FnOk P w K mg base CX0 5 f fd ["scheme","node","other"] (spFirstA CC CS):=by
 refine F.ok scFirstA (fun vs H Q E h=>?_) (fun cdv A outer s H vs Q E hr h=>?_)
 ·obtain ⟨a,s,k,l,rfl,_⟩:=h
  rfl
 ·obtain ⟨a,sc,n1,n2,rfl,hSc,W,h8,hn1,hn2,k⟩:=h
  have hr1:Room 1 _:=hr.mono (by decide)
  refine ⟨_,pss_cons (ps_set (i:=3) scFirstA.nd rfl (Or.inl rfl) (pe_call CT.ok hr rfl CT.m CT.kp CT.b .nil pass0 (pa_cons (pv 0) pa_nil)))
   (pss_cons (ps_lock (ps_for PassesOwn.never rfl (pi_items (pv 3)) (pg_tup rfl (pgs_cons (pg_name (i:=4) scFirstA.nd rfl (Or.inl rfl)) (pgs_cons (pg_name (i:=5) scFirstA.nd rfl (Or.inl rfl)) pgs_nil)))
    (pss_one (ps_if (pt_cmpR op_ne (pe_call CA.ok hr1 rfl CA.m CA.kp CA.b .nil pass0 (pa_cons (pv 5) (pa_cons (pv 1) pa_nil))) (pe_call CA.ok hr1 rfl CA.m CA.kp CA.b .nil pass0 (pa_cons (pv 5) (pa_cons (pv 2) pa_nil))) (nomark _)) (pss_one (ps_ret (pv 4))) pss_nil))))
   (pss_one (ps_ret pe_non))),?_⟩
  refine ⟨_,rfl,a,sc,rfl,hSc,W,h8,fun H1 d hS1 hB hZK hd=>?_⟩
  have ef:=first_eq sc hn1 hn2
  refine ⟨d,_,hd,trivial,fun od=>?_⟩
  have hdf:upd H1 d (.frz od (.dK (ltK sc (stOf sc.used)))) d=some (.frz od (.dK (ltK sc (stOf sc.used)))):=upd_same
  generalize hHf:upd H1 d (.frz od (.dK (ltK sc (stOf sc.used))))=Hf at *
  have fin:∀ H2,Same Hf H2->SchAt CC CS (upd H2 d (.dK (ltK sc (stOf sc.used)))) a sc∧But a H (upd H2 d (.dK (ltK sc (stOf sc.used))))∧ZK CC CS a sc H (upd H2 d (.dK (ltK sc (stOf sc.used)))):=fun H2 S=>by
   rw [←hHf] at S
   exact ⟨hS1.same (Same.unlock hd S),But.unlock hB hd S,hZK.same (Same.unlock hd S)⟩
  refine ⟨_,rfl,d,od,_,rfl,hdf,for_items (kvs:=ltK sc (stOf sc.used)) (fun i σ H'=>∃ v4 v5:Option V,σ=[some (.ref a),some (.int n1),some (.int n2),some (.ref d),v4,v5]∧Same Hf H'∧∀ j x,j < i->(stOf sc.used)[j]?=some x->((lvN sc x).testBit n1 != (lvN sc x).testBit n2)=false) ?_ ?_ ?_ ?_⟩
  ·exact ⟨none,none,rfl,Same.refl _,fun j x hj=>absurd hj (by omega)⟩
  ·rintro i σ H' hi ⟨_,_,rfl,S,_⟩
   exact S _ _ hdf
  ·rintro i kk vv σ H' t hk ⟨v4,v5,rfl,S,bef⟩ ht
   obtain ⟨x,hx,rfl,rfl⟩:=ltK_get hk
   have S2:Same H' (upd H' t (.tup [kV (Sum.inl (x:Int)),.int (lvN sc x:Nat)])):=Same.new ht
   have SA:=S.trans S2
   generalize upd H' t (.tup [kV (Sum.inl (x:Int)),.int (lvN sc x:Nat)])=H2 at *
   refine ⟨_,rfl,_,rfl,lvN sc x,n1,rfl,_,rfl,_,rfl,lvN sc x,n2,rfl,rfl,_,rfl,?_⟩
   rw [bl_ne]
   cases hb:((lvN sc x).testBit n1 != (lvN sc x).testBit n2) with
   | false =>
    refine ⟨_,_,rfl,SA,fun j y hj hy=>?_⟩
    by_cases e:j=i
    ·subst e
     rw [hx] at hy
     cases hy
     exact hb
    ·exact bef j y (by omega) hy
   | true =>
    obtain ⟨f1,f2,f3⟩:=fin H2 SA
    refine ⟨_,rfl,SA _ _ hdf,?_⟩
    have:=k _ f1 f2 f3
    rw [ef,find_take (fun j y hj hy=>bef j y hj hy) hx hb] at this
    exact this
  ·rintro σ H' ⟨v4,v5,rfl,S,bef⟩
   obtain ⟨f1,f2,f3⟩:=fin H' S
   refine ⟨S _ _ hdf,?_⟩
   have:=k _ f1 f2 f3
   have en:(stOf sc.used).find? (fun x=>(lvN sc x).testBit n1 != (lvN sc x).testBit n2)=none:=by
    rw [List.find?_eq_none]
    intro x hx
    obtain ⟨j,hj⟩:=List.mem_iff_getElem?.mp hx
    have jl:=(List.getElem?_eq_some_iff.mp hj).1
    rw [bef j x (by rw [ltK_len]; exact jl) hj]
    simp
   rw [ef,en] at this
   exact this
def spMatters:Sp:=fun vs H Q _=>∃ (d:Addr) (s:Rung.Scheme) (v k:Nat),vs=[.ref d,.int v,.int k]∧H d=some (.dK (ltK s (stOf s.used)))∧v∈s.used∧∀ H':Hp,Same H H'->Q (.bl (mat s k v)) H'
theorem scMatters:FnScope ["live","variable","node","state","nodes","turned"] ["live","variable","node"] (defScope sMatters):=⟨rfl,rfl,rfl,by decide +kernel,rfl,by decide +kernel,by decide +kernel⟩
theorem ok_matters{f fA:Addr}{fd fdA:FuncData}(F:Fun K "does_matter" "does_matter" sMatters f fd)(CA:Cal P w K mg base "is_among" ["nodes","node"] spAmong 1 fA fdA):FnOk P w K mg base CX0 2 f fd ["live","variable","node"] spMatters:=by
 refine F.ok scMatters (fun vs H Q E h=>?_) (fun cdv A outer s H vs Q E hr h=>?_)
 ·obtain ⟨d,s,v,k,rfl,_⟩:=h
  rfl
 ·obtain ⟨d,sc,v,nd,rfl,hd,hv,k⟩:=h
  have hu:=hu_of hr
  refine ⟨_,pss_cons (ps_lock (ps_for PassesOwn.never rfl (pi_items (pv 0)) (pg_tup rfl (pgs_cons (pg_name (i:=3) scMatters.nd rfl (Or.inl rfl)) (pgs_cons (pg_name (i:=4) scMatters.nd rfl (Or.inl rfl)) pgs_nil)))
    (pss_cons (ps_set (i:=5) scMatters.nd rfl (Or.inl rfl) (pe_dget hu (pv 0) (pe_op op_xor (pv 3) (pe_op op_shl pe_int (pv 1))) (fun _ _=>rfl)))
    (pss_one (ps_if (pt_cmpR op_ne (pe_call CA.ok hr rfl CA.m CA.kp CA.b .nil pass0 (pa_cons (pv 4) (pa_cons (pv 2) pa_nil))) (pe_call CA.ok hr rfl CA.m CA.kp CA.b .nil pass0 (pa_cons (pv 5) (pa_cons (pv 2) pa_nil))) (nomark _)) (pss_one (ps_ret pe_bl)) pss_nil)))))
   (pss_one (ps_ret pe_bl)),?_⟩
  have v32:=used_32 sc v hv
  refine ⟨d,_,hd,trivial,fun od=>?_⟩
  have hdf:upd H d (.frz od (.dK (ltK sc (stOf sc.used)))) d=some (.frz od (.dK (ltK sc (stOf sc.used)))):=upd_same
  generalize hHf:upd H d (.frz od (.dK (ltK sc (stOf sc.used))))=Hf at *
  have fin:∀ H2,Same Hf H2->Same H (upd H2 d (.dK (ltK sc (stOf sc.used)))):=fun H2 S=>by
   rw [←hHf] at S
   exact Same.unlock hd S
  refine ⟨_,rfl,d,od,_,rfl,hdf,for_items (kvs:=ltK sc (stOf sc.used)) (fun i σ H'=>∃ v3 v4 v5:Option V,σ=[some (.ref d),some (.int v),some (.int nd),v3,v4,v5]∧Same Hf H'∧∀ j x,j < i->(stOf sc.used)[j]?=some x->((lvN sc x).testBit nd != (lvN sc (x^^^2 ^ v)).testBit nd)=false) ?_ ?_ ?_ ?_⟩
  ·exact ⟨none,none,none,rfl,Same.refl _,fun j x hj=>absurd hj (by omega)⟩
  ·rintro i σ H' hi ⟨_,_,_,rfl,S,_⟩
   exact S _ _ hdf
  ·rintro i kk vv σ H' t hk ⟨v3,v4,v5,rfl,S,bef⟩ ht
   obtain ⟨x,hx,rfl,rfl⟩:=ltK_get hk
   have S2:Same H' (upd H' t (.tup [kV (Sum.inl (x:Int)),.int (lvN sc x:Nat)])):=Same.new ht
   have SA:=S.trans S2
   generalize upd H' t (.tup [kV (Sum.inl (x:Int)),.int (lvN sc x:Nat)])=H2 at *
   have hm:=turned_mem hv (List.mem_of_getElem? hx)
   have ex:V.int (Builtin.bitXor (x:Int) ((1:Int)*2 ^ (((v:Nat):Int)).toNat))=kV (Sum.inl ((x^^^2 ^ v:Nat):Int)):=by rw [shl_nat,bxor_nat]; rfl
   have dg:DGet H2 d (V.int (Builtin.bitXor (x:Int) ((1:Int)*2 ^ (((v:Nat):Int)).toNat))) (some (.int (lvN sc (x^^^2 ^ v):Nat))):=by
    rw [ex]
    exact .inl ⟨_,_,.inr ⟨od,SA _ _ hdf⟩,rfl,(ltK_some hm).symm⟩
   refine ⟨_,rfl,_,rfl,_,rfl,_,_,rfl,rfl,cpow1 v (by omega),_,_,rfl,rfl,d,_,rfl,dg,?_⟩
   refine ⟨_,rfl,_,rfl,lvN sc x,nd,rfl,_,rfl,_,rfl,lvN sc (x^^^2 ^ v),nd,rfl,rfl,_,rfl,?_⟩
   rw [bl_ne]
   cases hb:((lvN sc x).testBit nd != (lvN sc (x^^^2 ^ v)).testBit nd) with
   | false =>
    refine ⟨_,_,_,rfl,SA,fun j y hj hy=>?_⟩
    by_cases e:j=i
    ·subst e
     rw [hx] at hy
     cases hy
     exact hb
    ·exact bef j y (by omega) hy
   | true =>
    refine ⟨SA _ _ hdf,?_⟩
    have em:mat sc nd v=true:=by
     unfold mat
     exact List.any_eq_true.mpr ⟨x,List.mem_of_getElem? hx,hb⟩
    have:=k _ (fin H2 SA)
    rw [em] at this
    exact this
  ·rintro σ H' ⟨v3,v4,v5,rfl,S,bef⟩
   refine ⟨S _ _ hdf,?_⟩
   have em:mat sc nd v=false:=by
    unfold mat
    rw [List.any_eq_false]
    intro x hx
    obtain ⟨j,hj⟩:=List.mem_iff_getElem?.mp hx
    have jl:=(List.getElem?_eq_some_iff.mp hj).1
    rw [bef j x (by rw [ltK_len]; exact jl) hj]
    simp
   have:=k _ (fin H' S)
   rw [em] at this
   exact this
def spVarsM(CC CS:Addr):Sp:=fun vs H Q _=>∃ (a:Addr) (s:Rung.Scheme) (k:Nat),vs=[.ref a,.int k]∧SchAt CC CS H a s∧Ws s∧s.used.length≤8∧k < 64 ∧
 ∀ (H':Hp) (q:Addr),SchAt CC CS H' a s->But a H H'->ZK CC CS a s H H'->H q=none->H' q=some (.lst ((Rung.mattersTo s k).map nV))->Q (.ref q) H'
theorem scVarsM:FnScope ["scheme","node","live","variable"] ["scheme","node"] (defScope sVarsM):=⟨rfl,rfl,rfl,by decide +kernel,rfl,by decide +kernel,by decide +kernel⟩
theorem filt_take{p:Nat->Bool}{l:List Nat}{i x:Nat}(h:l[i]?=some x):(l.take (i+1)).filter p=(l.take i).filter p++if p x=true then [x] else []:=by
 rw [CwG.take_snoc h,List.filter_append]
 congr 1
 by_cases e:p x=true
 ·simp [e]
 ·simp [e]
theorem ok_varsM{f fT fM:Addr}{fd fdT fdM:FuncData}(F:Fun K "variables_that_matter" "variables_that_matter" sVarsM f fd)(T:TxA K mg CC CS)(CT:Cal P w K mg base "live_by_state" ["scheme"] (spLiveTab CC CS) 4 fT fdT)(CM:Cal P w K mg base "does_matter" ["live","variable","node"] spMatters 2 fM fdM) :
  FnOk P w K mg base CX0 5 f fd ["scheme","node"] (spVarsM CC CS):=by
 refine F.ok scVarsM (fun vs H Q E h=>?_) (fun cdv A outer s H vs Q E hr h=>?_)
 ·obtain ⟨a,s,k,rfl,_⟩:=h
  rfl
 ·obtain ⟨a,sc,nd,rfl,hSc,W,h8,h64,k⟩:=h
  have hr2:Room 2 _:=hr.mono (by decide)
  refine ⟨_,pss_cons (ps_set (i:=2) scVarsM.nd rfl (Or.inr rfl) (pe_call CT.ok hr rfl CT.m CT.kp CT.b .nil pass0 (pa_cons (pv 0) pa_nil)))
   (pss_one (ps_ret (pe_lc (own:=[("variable",3)]) rfl scVarsM.nd (pi_list (pe_fld (pv 0) rfl)) (by exact blkOk_by (N:=["scheme","node","live","variable"]) (sc:=defScope sVarsM) (by decide +kernel))
     (fun _ _ _ _ _=>pg_name (i:=3) scVarsM.nd rfl (Or.inl rfl)) (fun _ _ _ _ _=>pts_one (pt_truthK (K:=K) rfl (pe_call CM.ok hr2 rfl CM.m CM.kp CM.b .nil pass0 (pa_cons (pv 2) (pa_cons (pv 3) (pa_cons (pv 1) pa_nil)))) (fun _=>rfl))) (fun _ _ _ _ _=>pv 3)))),?_⟩
  refine ⟨_,rfl,a,sc,rfl,hSc,W,h8,fun H1 d hS1 hB hZK hd=>?_⟩
  obtain ⟨l,u,b,lc,lt,⟨dx,hs⟩,hcs,hb,hus,hlc,hlt⟩:=id hS1
  refine ⟨_,rfl,a,CS,dx,_,_,rfl,hs,T.cs,T.nUsed,sc_used _ _ _ _ _,u,rfl,⟨_,SqL.of hus⟩,fun D hD=>lc_list (tt:=fun σ H Q=>tCall spMatters [] E0 (tCons (tVar 2) (tCons (tVar 3) (tCons (tVar 1) tNil))) σ H fun x H'=>∃ k,TruV K x H' k∧Q k H') (xs:=sc.used.map nV) (fun j H2=>Same H1 H2∧H2 D=some (.lst (((sc.used.take j).filter (mat sc nd)).map nV))) ⟨Same.new hD,upd_same⟩ ?_ ?_ ?_⟩
  ·rintro j H2 hj ⟨S,_⟩
   exact SqL.of (S _ _ hus)
  ·rintro j x H2 hx ⟨S,hDl⟩
   obtain ⟨v,hv,rfl⟩:=map_get hx
   have st:=filt_take (p:=mat sc nd) hv
   have jl:=(List.getElem?_eq_some_iff.mp hv).1
   refine ⟨rfl,_,rfl,_,rfl,_,rfl,d,sc,v,nd,rfl,S _ _ hd,List.mem_of_getElem? hv,fun H3 S3=>⟨_,rfl,?_⟩⟩
   cases hm:mat sc nd v with
   | false =>
    rw [hm] at st
    refine ⟨S.trans S3,?_⟩
    rw [st]
    simpa using S3 _ _ hDl
   | true =>
    rw [hm,if_pos rfl] at st
    refine ⟨_,rfl,_,S3 _ _ hDl,?_,Same.put (S.trans S3) hD,?_⟩
    ·rw [List.length_map]
     have:=List.length_filter_le (mat sc nd) (sc.used.take j)
     rw [List.length_take] at this
     exact small1000 (by omega)
    ·rw [upd_same,st,List.map_append]
     rfl
  ·rintro H2 ⟨S,hDl⟩
   rw [List.length_map,List.take_length,←matter_eq sc h64] at hDl
   exact k H2 D (hS1.same S) (hB.trans (But.of S)) (hZK.same S) (hB.free hs hD) hDl
end
end Cw
namespace Cw
open PySem PySem.Spec PyProof.Rows L2 CwG CwR
abbrev sCabI:Stmt:=inClass (top 82) 0
abbrev sLoad:Stmt:=inClass (top 82) 1
abbrev sPath:Stmt:=inClass (top 82) 2
abbrev sBorder:Stmt:=inClass (top 82) 3
abbrev sSuffice:Stmt:=inClass (top 82) 4
abbrev sSumsM:Stmt:=inClass (top 82) 5
abbrev sFirst:Stmt:=inClass (top 82) 6
abbrev sMatter:Stmt:=inClass (top 82) 7
abbrev sEndOf:Stmt:=top 83
abbrev sAnswer:Stmt:=top 84
abbrev sAnswers:Stmt:=top 85
structure TxC(K:PySem.W.Frag)(mg:Str->Option Value)(CB:Addr):Prop where
 cb:Cls K CB
 nSch:NoAttr K CB "scheme"
 mgB:mg "Cabinet"=some (.ref CB)
 out:∃ t,mg "OUT_OF_RANGE"=some (.int (-1) t)
 notSo:∃ t,mg "NOT_SO"=some (.int (-5) t)
 tooMany:∃ t,mg "TOO_MANY_USED"=some (.int (-9) t)
 mostBytes:∃ t,mg "MOST_BYTES"=some (.int 20000 t)
 mostSums:∃ t,mg "MOST_USED_FOR_SUMS"=some (.int 6 t)
 mostStates:∃ t,mg "MOST_USED_FOR_STATES"=some (.int 8 t)
 load:∃ t,mg "LOAD"=some (.int 1 t)
 path:∃ t,mg "PATH"=some (.int 2 t)
 border:∃ t,mg "BORDER"=some (.int 3 t)
 suffice:∃ t,mg "SUFFICE"=some (.int 4 t)
 sums:∃ t,mg "SUMS"=some (.int 5 t)
 first:∃ t,mg "FIRST"=some (.int 6 t)
 matter:∃ t,mg "MATTER"=some (.int 7 t)
 args:∃ a,mg "ARGUMENTS"=some (.ref a)∧KInts K a [(2,2),(3,1),(4,3),(5,1),(6,2),(7,1)]
 len:mg "len"=none
def NI(H H':Hp):Prop:=∀ b o,H b=some o->(∀ C dx fs,o≠.ins C dx fs)->H' b=some o
theorem NI.of{H H':Hp}(S:Same H H'):NI H H':=fun b o e _=>S b o e
theorem NI.trans{H H' H'':Hp}(h:NI H H')(h':NI H' H''):NI H H'':=fun b o e n=>h' b o (h b o e n) n
def cbF(a:Addr):List (Str×V):=[("scheme",.ref a)]
theorem cb_sch(a:Addr):(cbF a).lookup ("scheme":Str)=some (.ref a):=rfl
def CabAt(CC CS CB:Addr)(H:Hp)(p:Addr)(s:Rung.Scheme):Prop:=∃ dx a:Addr,H p=some (.ins CB dx (cbF a))∧SchAt CC CS H a s
theorem sch_ins{CC CS:Addr}{H:Hp}{a:Addr}{s:Rung.Scheme}(h:SchAt CC CS H a s):∃ dx fs,H a=some (.ins CS dx fs)∧fs.length=5:=by
 obtain ⟨l,u,b,lc,lt,⟨dx,e⟩,_⟩:=h
 exact ⟨dx,_,e,rfl⟩
theorem cab_ne{CC CS CB dx p a:Addr}{H:Hp}{s:Rung.Scheme}(hp:H p=some (.ins CB dx (cbF a)))(h:SchAt CC CS H a s):p≠a:=by
 obtain ⟨dx',fs,e,hl⟩:=sch_ins h
 intro z
 subst z
 rw [hp] at e
 injection e with e
 injection e with _ _ e
 rw [←e] at hl
 simp [cbF] at hl
def ZC(CC CS CB p:Addr)(s s':Rung.Scheme)(H H':Hp):Prop:=∀ Z,Lists H Z->CabAt CC CS CB (rem H Z) p s->CabAt CC CS CB (rem H' Z) p s'
def Ret(CC CS CB p:Addr)(s:Rung.Scheme)(u:Rung.Scheme×List Int)(H:Hp)(Q:VK):Prop:=∀ (H':Hp) (q:Addr),CabAt CC CS CB H' p u.1->NI H H'->ZC CC CS CB p s u.1 H H'->H' q=some (.lst (u.2.map V.int))->H q=none->Q (.ref q) H'
theorem within_state(x:Int):RungWaySeed.within x RungWaySeed.STATES=(decide (0≤x)&&decide (x≤4294967295)):=by
 unfold RungWaySeed.within RungWaySeed.STATES
 congr 1
 exact decide_eq_decide.mpr (by omega)
theorem within_node(x:Int):RungWaySeed.within x Rung.NODES=(decide (0≤x)&&decide (x < 64)):=rfl
theorem within_nat{x:Int}{m:Nat}(h:RungWaySeed.within x m=true):x=((x.toNat:Nat):Int)∧x.toNat < m:=by
 unfold RungWaySeed.within at h
 simp only [Bool.and_eq_true,decide_eq_true_eq] at h
 omega
theorem nums_map(l:List Nat):(RungWaySeed.nums l).map V.int=l.map nV:=by
 unfold RungWaySeed.nums RungWaySeed.list
 rw [List.map_map]
 rfl
theorem path_len{s:Rung.Scheme}{x k:Nat}{l:List Nat}(ok:Okc s.contacts)(h:Rung.pathTo s x k=some l):l.length < 64:=by
 obtain ⟨h1,h2⟩:=ways_told (s:=s) (x:=x) ok 64 0 _ _ told0 (by omega)
 unfold Rung.pathTo at h
 obtain ⟨⟨k',m⟩,hu,e⟩:=Option.map_eq_some_iff.mp h
 have b:=h1 _ _ (List.mem_of_find?_eq_some hu)
 subst e
 exact d_small ok b.d
theorem border_len{s:Rung.Scheme}{x:Nat}(W:Ws s):(Rung.border s x).length≤256:=by
 unfold Rung.border
 have:=List.length_filterMap_le (fun (u:Rung.Contact×Nat)=>if (Rung.liveNodes s x).testBit u.1.a≠(Rung.liveNodes s x).testBit u.1.b then some u.2 else none) s.contacts.zipIdx
 rw [List.length_zipIdx] at this
 have:=W.len
 dsimp only
 omega
section
variable {P:Program} {w:World} {K:PySem.W.Frag} {mg:Str->Option Value} {base:Heap} {CC CS CB:Addr}
theorem CabAt.same{H H':Hp}{p:Addr}{s:Rung.Scheme}(h:CabAt CC CS CB H p s)(S:Same H H'):CabAt CC CS CB H' p s:=let ⟨dx,a,e,z⟩:=h; ⟨dx,a,S _ _ e,z.same S⟩
theorem Ret.new{p:Addr}{s:Rung.Scheme}{u:Rung.Scheme×List Int}{H H1:Hp}{Q:VK}(k:Ret CC CS CB p s u H Q)(e1:u.1=s)(hC:CabAt CC CS CB H p s)(S:Same H H1){xs:List V}(hx:xs=u.2.map V.int){q:Addr}(hq:H1 q=none):Q (.ref q) (upd H1 q (.lst xs)):=by
 subst hx
 subst e1
 have S2:=S.trans (Same.new (o:=.lst (u.2.map V.int)) hq)
 exact k _ q (hC.same S2) (NI.of S2) (fun Z _ h=>h.same (sRem S2)) upd_same (S.free hq)
def spCabI(CC CS CB:Addr):Sp:=fun vs H Q _=>∃ (p dx:Addr),vs=[.ref p]∧H p=some (.ins CB dx [])∧∀ H':Hp,CabAt CC CS CB H' p RungWaySeed.start->(∀ b o,H b=some o->b≠p->H' b=some o)->Q .non H'
theorem scCabI:FnScope ["self"] ["self"] (defScope sCabI):=⟨rfl,rfl,rfl,by decide +kernel,rfl,by decide +kernel,by decide +kernel⟩
theorem start_bits:BitsOf RungWaySeed.start 0:=fun v=>by
 rw [Nat.zero_testBit]
 unfold Rung.Scheme.hasVar RungWaySeed.start
 simp
theorem start_ws:Ws RungWaySeed.start:=⟨fun c h=>by simp [RungWaySeed.start] at h,by simp [RungWaySeed.start],fun c h=>by simp [RungWaySeed.start] at h⟩
theorem ok_cabI{f fS:Addr}{fd fdS:FuncData}(F:Fun K "__init__" "Cabinet.__init__" sCabI f fd)(T:TxA K mg CC CS)(C:TxC K mg CB)(MS:MkC P w K mg base CS fS fdS ["self","bits","contacts"] (spSchemeI CC CS)):FnOk P w K mg base CX0 3 f fd ["self"] (spCabI CC CS CB):=by
 refine F.ok scCabI (fun vs H Q E h=>?_) (fun cdv A outer s H vs Q E hr h=>?_)
 ·obtain ⟨p,dx,rfl,_⟩:=h
  rfl
 ·obtain ⟨p,dx,rfl,hp,k⟩:=h
  refine ⟨_,pss_one (ps_fld (pv 0) (pe_make MS.M MS.ok hr rfl T.mgS MS.b .nil pass0 (pa_cons pe_int (pa_cons (pe_lst pa_nil) pa_nil))) rfl),?_⟩
  refine ⟨Nat.zero_le _,fun l hl=>?_⟩
  have S1:Same H (upd H l (.lst [])):=Same.new hl
  have hl1:upd H l (.lst []) l=some (.lst []):=upd_same
  generalize upd H l (.lst [])=H1 at *
  intro y dy ny ndy ne
  have kk:∀ b o,H1 b=some o->upd (upd H1 dy (.own y)) y (.ins CS dy []) b=some o:=fun b o e=>by rw [upd_ne (ne_of_none e ny),upd_ne (ne_of_none e ndy)]; exact e
  refine ⟨y,dy,0,l,[],rfl,upd_same,⟨[],kk _ _ hl1,.nil⟩,by simp,fun c h=>by simp at h,fun H2 u hS fu hU kp=>⟨rfl,?_⟩⟩
  have S2:Same H1 H2:=Same.made ny ndy kp
  have S12:=S1.trans S2
  have hp2:=S12 _ _ hp
  refine ⟨_,rfl,p,CB,dx,_,rfl,hp2,C.cb,C.nSch,(by show 0 < 1000; decide),?_⟩
  have hSch:SchAt CC CS H2 y RungWaySeed.start:=by
   refine ⟨l,u,0,.non,.non,hS,⟨[],S2 _ _ hl1,.nil⟩,start_bits,?_,.inl rfl,.inl rfl⟩
   rw [hU]
   rfl
  obtain ⟨dy',fs,ey,hlen⟩:=sch_ins hSch
  have npy:y≠p:=fun e=>by subst e; rw [hp2] at ey; injection ey with ey; injection ey with _ _ ey; rw [←ey] at hlen; simp at hlen
  refine k _ ⟨dx,y,upd_same,?_⟩ fun b o e hb=>by rw [upd_ne hb]; exact S12 _ _ e
  obtain ⟨l',u',b',lc',lt',⟨d',e'⟩,h2,h3,h4,h5,h6⟩:=hSch
  have up:∀ c o,H2 c=some o->c≠p->upd H2 p (.ins CB dx (putF "scheme" (.ref y) [])) c=some o:=fun c o e h=>by rw [upd_ne h]; exact e
  have hne:∀ c o,H2 c=some o->(∀ C d fs,o≠.ins C d fs)->c≠p:=fun c o e h=>ne_of e hp2 (fun z=>h _ _ _ z)
  refine ⟨l',u',b',lc',lt',⟨d',up _ _ e' npy⟩,?_,h3,up _ _ h4 (hne _ _ h4 (by intro _ _ _ z; cases z)),?_,?_⟩
  ·obtain ⟨as,e,r⟩:=h2
   refine ⟨as,up _ _ e (hne _ _ e (by intro _ _ _ z; cases z)),Pd.imp (fun c x ⟨d,z⟩=>⟨d,up _ _ z fun y=>?_⟩) r⟩
   subst y
   rw [hp2] at z
   injection z with z
   injection z with _ _ z
   have:=congrArg List.length z
   simp [ctF] at this
  ·exact h5.imp id fun ⟨q,C,ts,g1,g2,g3,g4⟩=>⟨q,C,ts,g1,g2,up _ _ g3 (hne _ _ g3 (by intro _ _ _ z; cases z)),Pd.imp (fun t x z=>up _ _ z (hne _ _ z (by intro _ _ _ y; cases y))) g4⟩
  ·exact h6.imp id fun ⟨d,g1,g2⟩=>⟨d,g1,up _ _ g2 (hne _ _ g2 (by intro _ _ _ z; cases z))⟩
def spPath(CC CS CB:Addr):Sp:=fun vs H Q _=>∃ (p:Addr) (s:Rung.Scheme) (x k:Int),vs=[.ref p,.int x,.int k]∧CabAt CC CS CB H p s∧Ws s∧Ret CC CS CB p s (RungWaySeed.step s (.path x k)) H Q
theorem scPath:FnScope ["self","state","node","way"] ["self","state","node"] (defScope sPath):=⟨rfl,rfl,rfl,by decide +kernel,rfl,by decide +kernel,by decide +kernel⟩
theorem ok_path{f f1 f2 f3:Addr}{fd fd1 fd2 fd3:FuncData}(F:Fun K "path" "Cabinet.path" sPath f fd)(T:TxA K mg CC CS)(C:TxC K mg CB)(C1:Cal P w K mg base "is_state" ["number"] spIsState 1 f1 fd1)(C2:Cal P w K mg base "is_node" ["number"] spIsNode 1 f2 fd2)
  (C3:Cal P w K mg base "way_told" ["contacts","state","node"] (spWay CC) 3 f3 fd3):FnOk P w K mg base CX0 4 f fd ["self","state","node"] (spPath CC CS CB):=by
 refine F.ok scPath (fun vs H Q E h=>?_) (fun cdv A outer s H vs Q E hr h=>?_)
 ·obtain ⟨p,s,x,k,rfl,_⟩:=h
  rfl
 ·obtain ⟨p,sc,x,kd,rfl,hC,W,k⟩:=h
  have hr1:Room 1 _:=hr.mono (by decide)
  refine ⟨_,pss_cons (ps_if (PW.pt (pw_or (pt_not (pt_truth (pe_call C1.ok hr1 rfl C1.m C1.kp C1.b .nil pass0 (pa_cons (pv 1) pa_nil)) (fun _=>rfl))) (pw_or1 (pt_not (pt_truth (pe_call C2.ok hr1 rfl C2.m C2.kp C2.b .nil pass0 (pa_cons (pv 2) pa_nil)) (fun _=>rfl)))))) (pss_one (ps_ret (pe_lst (pa_cons (pe_gI rfl C.out) pa_nil)))) pss_nil)
   (pss_cons (ps_set (i:=3) scPath.nd rfl (Or.inl rfl) (pe_call C3.ok hr rfl C3.m C3.kp C3.b .nil pass0 (pa_cons (pe_fld (pe_fld (pv 0) rfl) rfl) (pa_cons (pv 1) (pa_cons (pv 2) pa_nil)))))
   (pss_cons (ps_if (pt_cmp (pc_isN (pv 3))) (pss_one (ps_ret (pe_lst (pa_cons (pe_gI rfl C.notSo) pa_nil)))) pss_nil)
   (pss_one (ps_ret (pe_op op_cat (pe_lst (pa_cons pe_int pa_nil)) (pv 3)))))),?_⟩
  have es:(RungWaySeed.step sc (.path x kd)).2=if (RungWaySeed.within x RungWaySeed.STATES&&RungWaySeed.within kd Rung.NODES)=false then RungWaySeed.no 1 else match Rung.pathTo sc x.toNat kd.toNat with
   | some l=>RungWaySeed.tells (RungWaySeed.nums l)
   | none=>RungWaySeed.no 5:=rfl
  refine ⟨_,rfl,x,rfl,_,rfl,?_⟩
  rw [←within_state]
  cases h1:RungWaySeed.within x RungWaySeed.STATES with
  | false =>
   rw [h1] at es
   exact ⟨(by show 1≤sizeLine; decide),fun q hq=>k.new rfl hC (Same.refl _) (by rw [es]; rfl) hq⟩
  | true =>
   refine ⟨_,rfl,kd,rfl,_,rfl,?_⟩
   rw [←within_node]
   cases h2:RungWaySeed.within kd Rung.NODES with
   | false =>
    rw [h1,h2] at es
    exact ⟨(by show 1≤sizeLine; decide),fun q hq=>k.new rfl hC (Same.refl _) (by rw [es]; rfl) hq⟩
   | true =>
    rw [h1,h2] at es
    rw [if_neg (by decide)] at es
    obtain ⟨ex,hx⟩:=within_nat h1
    obtain ⟨ek,hk⟩:=within_nat h2
    obtain ⟨dx,a,hp,hS⟩:=id hC
    obtain ⟨l,u,b,lc,lt,⟨da,ha⟩,hcs,_⟩:=id hS
    generalize x.toNat=xn at *
    generalize kd.toNat=kn at *
    subst ex ek
    refine ⟨_,rfl,p,CB,dx,_,_,rfl,hp,C.cb,C.nSch,cb_sch a,a,CS,da,_,_,rfl,ha,T.cs,T.nCon,sc_con _ _ _ _ _,_,rfl,_,rfl,l,sc,xn,kn,rfl,hcs,W,hx,hk,fun H1 S1=>⟨fun e=>?_,fun q wl e hq fq=>?_⟩⟩
    ·rw [e] at es
     refine ⟨_,rfl,_,rfl,(by show 1≤sizeLine; decide),fun q hq=>k.new rfl hC S1 (by rw [es]; rfl) hq⟩
    ·rw [e] at es
     refine ⟨_,rfl,_,rfl,(by show 1≤sizeLine; decide),fun q2 hq2=>?_⟩
     have S2:Same H1 (upd H1 q2 (.lst [.int 0])):=Same.new hq2
     refine ⟨_,rfl,q2,q,_,_,rfl,rfl,upd_same,S2 _ _ hq,?_,fun q3 hq3=>?_⟩
     ·have:=path_len W.okc e
      rw [List.length_map]
      have lb:sizeLine=16777216:=sizeLine_eq
      simp only [List.length_cons,List.length_nil]
      omega
     ·have S12:=S1.trans S2
      refine k.new rfl hC S12 ?_ hq3
      rw [es]
      unfold RungWaySeed.tells
      rw [List.map_cons,nums_map]
      rfl
def spBorderM(CC CS CB:Addr):Sp:=fun vs H Q _=>∃ (p:Addr) (s:Rung.Scheme) (x:Int),vs=[.ref p,.int x]∧CabAt CC CS CB H p s∧Ws s∧Ret CC CS CB p s (RungWaySeed.step s (.border x)) H Q
theorem scBorderM:FnScope ["self","state"] ["self","state"] (defScope sBorder):=⟨rfl,rfl,rfl,by decide +kernel,rfl,by decide +kernel,by decide +kernel⟩
theorem ok_borderM{f f1 f3:Addr}{fd fd1 fd3:FuncData}(F:Fun K "border" "Cabinet.border" sBorder f fd)(T:TxA K mg CC CS)(C:TxC K mg CB)(C1:Cal P w K mg base "is_state" ["number"] spIsState 1 f1 fd1)(C3:Cal P w K mg base "border_of" ["contacts","state"] (spBorder CC) 3 f3 fd3) :
  FnOk P w K mg base CX0 4 f fd ["self","state"] (spBorderM CC CS CB):=by
 refine F.ok scBorderM (fun vs H Q E h=>?_) (fun cdv A outer s H vs Q E hr h=>?_)
 ·obtain ⟨p,s,x,rfl,_⟩:=h
  rfl
 ·obtain ⟨p,sc,x,rfl,hC,W,k⟩:=h
  have hr1:Room 1 _:=hr.mono (by decide)
  refine ⟨_,pss_cons (ps_if (pt_not (pt_truth (pe_call C1.ok hr1 rfl C1.m C1.kp C1.b .nil pass0 (pa_cons (pv 1) pa_nil)) (fun _=>rfl))) (pss_one (ps_ret (pe_lst (pa_cons (pe_gI rfl C.out) pa_nil)))) pss_nil)
   (pss_one (ps_ret (pe_op op_cat (pe_lst (pa_cons pe_int pa_nil)) (pe_call C3.ok hr rfl C3.m C3.kp C3.b .nil pass0 (pa_cons (pe_fld (pe_fld (pv 0) rfl) rfl) (pa_cons (pv 1) pa_nil)))))),?_⟩
  have es:(RungWaySeed.step sc (.border x)).2=if RungWaySeed.within x RungWaySeed.STATES=false then RungWaySeed.no 1 else RungWaySeed.tells (RungWaySeed.nums (Rung.border sc x.toNat)):=rfl
  refine ⟨_,rfl,x,rfl,_,rfl,?_⟩
  rw [←within_state]
  cases h1:RungWaySeed.within x RungWaySeed.STATES with
  | false =>
   rw [h1] at es
   exact ⟨(by show 1≤sizeLine; decide),fun q hq=>k.new rfl hC (Same.refl _) (by rw [es]; rfl) hq⟩
  | true =>
   rw [h1,if_neg (by decide)] at es
   obtain ⟨ex,hx⟩:=within_nat h1
   obtain ⟨dx,a,hp,hS⟩:=id hC
   obtain ⟨l,u,b,lc,lt,⟨da,ha⟩,hcs,_⟩:=id hS
   generalize x.toNat=xn at *
   subst ex
   refine ⟨(by show 1≤sizeLine; decide),fun q2 hq2=>?_⟩
   have S2:Same H (upd H q2 (.lst [.int 0])):=Same.new hq2
   have hq22:upd H q2 (.lst [.int 0]) q2=some (.lst [.int 0]):=upd_same
   generalize upd H q2 (.lst [.int 0])=H2 at *
   refine ⟨_,rfl,p,CB,dx,_,_,rfl,S2 _ _ hp,C.cb,C.nSch,cb_sch a,a,CS,da,_,_,rfl,S2 _ _ ha,T.cs,T.nCon,sc_con _ _ _ _ _,_,rfl,l,sc,xn,rfl,hcs.same S2,W,hx,fun H1 q S1 hq fq=>?_⟩
   refine ⟨q2,q,_,_,rfl,rfl,S1 _ _ hq22,hq,?_,fun q3 hq3=>?_⟩
   ·have:=border_len (x:=xn) W
    rw [List.length_map]
    have lb:sizeLine=16777216:=sizeLine_eq
    simp only [List.length_cons,List.length_nil]
    omega
   ·have S12:=S2.trans S1
    refine k.new rfl hC S12 ?_ hq3
    rw [es]
    unfold RungWaySeed.tells
    rw [List.map_cons,nums_map]
    rfl
def spSufficeM(CC CS CB:Addr):Sp:=fun vs H Q _=>∃ (p:Addr) (s:Rung.Scheme) (x y k:Int),vs=[.ref p,.int x,.int y,.int k]∧CabAt CC CS CB H p s∧Ws s∧Ret CC CS CB p s (RungWaySeed.step s (.suffice x y k)) H Q
theorem scSufficeM:FnScope ["self","on","off","node"] ["self","on","off","node"] (defScope sSuffice):=⟨rfl,rfl,rfl,by decide +kernel,rfl,by decide +kernel,by decide +kernel⟩
theorem ok_sufficeM{f f1 f2 f3 f4:Addr}{fd fd1 fd2 fd3 fd4:FuncData}(F:Fun K "suffice" "Cabinet.suffice" sSuffice f fd)(T:TxA K mg CC CS)(C:TxC K mg CB)(C1:Cal P w K mg base "is_state" ["number"] spIsState 1 f1 fd1)(C2:Cal P w K mg base "is_node" ["number"] spIsNode 1 f2 fd2)
  (C3:Cal P w K mg base "are_clashing" ["scheme","on","off"] (spClash CC CS) 1 f3 fd3) (C4:Cal P w K mg base "are_sufficient" ["scheme","on","off","node"] (spSuff CC CS) 3 f4 fd4):FnOk P w K mg base CX0 4 f fd ["self","on","off","node"] (spSufficeM CC CS CB):=by
 refine F.ok scSufficeM (fun vs H Q E h=>?_) (fun cdv A outer s H vs Q E hr h=>?_)
 ·obtain ⟨p,s,x,y,k,rfl,_⟩:=h
  rfl
 ·obtain ⟨p,sc,x,y,kd,rfl,hC,W,k⟩:=h
  have hr1:Room 1 _:=hr.mono (by decide)
  refine ⟨_,pss_cons (ps_if (PW.pt (pw_or (pt_not (pt_truth (pe_call C1.ok hr1 rfl C1.m C1.kp C1.b .nil pass0 (pa_cons (pv 1) pa_nil)) (fun _=>rfl))) (pw_or (pt_not (pt_truth (pe_call C1.ok hr1 rfl C1.m C1.kp C1.b .nil pass0 (pa_cons (pv 2) pa_nil)) (fun _=>rfl))) (pw_or1 (pt_not (pt_truth (pe_call C2.ok hr1 rfl C2.m C2.kp C2.b .nil pass0 (pa_cons (pv 3) pa_nil)) (fun _=>rfl))))))) (pss_one (ps_ret (pe_lst (pa_cons (pe_gI rfl C.out) pa_nil)))) pss_nil)
   (pss_cons (ps_if (pt_truth (pe_call C3.ok hr1 rfl C3.m C3.kp C3.b .nil pass0 (pa_cons (pe_fld (pv 0) rfl) (pa_cons (pv 1) (pa_cons (pv 2) pa_nil)))) (fun _=>rfl)) (pss_one (ps_ret (pe_lst (pa_cons (pe_gI rfl C.notSo) pa_nil)))) pss_nil)
   (pss_cons (ps_if (pt_truth (pe_call C4.ok hr rfl C4.m C4.kp C4.b .nil pass0 (pa_cons (pe_fld (pv 0) rfl) (pa_cons (pv 1) (pa_cons (pv 2) (pa_cons (pv 3) pa_nil))))) (fun _=>rfl)) (pss_one (ps_ret (pe_lst (pa_cons pe_int (pa_cons pe_int pa_nil))))) pss_nil)
   (pss_one (ps_ret (pe_lst (pa_cons pe_int (pa_cons pe_int pa_nil))))))),?_⟩
  have es:(RungWaySeed.step sc (.suffice x y kd)).2=if (RungWaySeed.within x RungWaySeed.STATES&&(RungWaySeed.within y RungWaySeed.STATES&&RungWaySeed.within kd Rung.NODES))=false then RungWaySeed.no 1 else if (sc.clean x.toNat&&&sc.clean y.toNat)≠0 then RungWaySeed.no 5 else RungWaySeed.tells [RungWaySeed.flag (Rung.suffice sc ⟨sc.clean x.toNat,sc.clean y.toNat⟩ kd.toNat)]:=rfl
  have bad:(RungWaySeed.step sc (.suffice x y kd)).2=RungWaySeed.no 1->∀ q,H q=none->Q (.ref q) (upd H q (.lst [.int (-1)])):=fun e q hq=>k.new rfl hC (Same.refl _) (by rw [e]; rfl) hq
  refine ⟨_,rfl,x,rfl,_,rfl,?_⟩
  rw [←within_state]
  cases h1:RungWaySeed.within x RungWaySeed.STATES with
  | false =>
   rw [h1] at es
   exact ⟨(by show 1≤sizeLine; decide),bad es⟩
  | true =>
   refine ⟨_,rfl,y,rfl,_,rfl,?_⟩
   rw [←within_state]
   cases h2:RungWaySeed.within y RungWaySeed.STATES with
   | false =>
    rw [h1,h2] at es
    exact ⟨(by show 1≤sizeLine; decide),bad es⟩
   | true =>
    refine ⟨_,rfl,kd,rfl,_,rfl,?_⟩
    rw [←within_node]
    cases h3:RungWaySeed.within kd Rung.NODES with
    | false =>
     rw [h1,h2,h3] at es
     exact ⟨(by show 1≤sizeLine; decide),bad es⟩
    | true =>
     rw [h1,h2,h3,if_neg (by decide)] at es
     obtain ⟨ex,hx⟩:=within_nat h1
     obtain ⟨ey,hy⟩:=within_nat h2
     obtain ⟨ek,hk⟩:=within_nat h3
     obtain ⟨dx,a,hp,hS⟩:=id hC
     clear bad
     generalize x.toNat=xn at *
     generalize y.toNat=yn at *
     generalize kd.toNat=kn at *
     subst ex ey ek
     refine ⟨_,rfl,p,CB,dx,_,_,rfl,hp,C.cb,C.nSch,cb_sch a,_,rfl,_,rfl,a,sc,xn,yn,rfl,hS,_,rfl,?_⟩
     by_cases hc:(sc.clean xn&&&sc.clean yn)≠0
     ·rw [decide_eq_true hc]
      rw [if_pos hc] at es
      exact ⟨(by show 1≤sizeLine; decide),fun q hq=>k.new rfl hC (Same.refl _) (by rw [es]; rfl) hq⟩
     ·rw [decide_eq_false hc]
      rw [if_neg hc] at es
      refine ⟨_,rfl,p,CB,dx,_,_,rfl,hp,C.cb,C.nSch,cb_sch a,_,rfl,_,rfl,_,rfl,a,sc,xn,yn,kn,rfl,hS,W,hk,fun H1 S1=>⟨_,rfl,?_⟩⟩
      cases hs:Rung.suffice sc ⟨sc.clean xn,sc.clean yn⟩ kn with
      | true =>
       rw [hs] at es
       exact ⟨(by show 2≤sizeLine; decide),fun q hq=>k.new rfl hC S1 (by rw [es]; rfl) hq⟩
      | false =>
       rw [hs] at es
       exact ⟨(by show 2≤sizeLine; decide),fun q hq=>k.new rfl hC S1 (by rw [es]; rfl) hq⟩
end
end Cw
namespace Cw
open PySem PySem.Spec PyProof.Rows L2 CwG CwR
theorem ins_len(z:Rung.Conds):∀ l:List Rung.Conds,(Rung.insert z l).length=l.length+1
 | []=>rfl
 | y::r=>by
  unfold Rung.insert
  split
  ·rw [List.length_cons,ins_len z r,List.length_cons]
  ·rfl
theorem fold_ins:∀ l:List Rung.Conds,(l.foldr Rung.insert []).length=l.length
 | []=>rfl
 | y::r=>by rw [List.foldr_cons,ins_len,fold_ins r,List.length_cons]
theorem allC_len:∀ l:List Nat,(Rung.allConds l).length=3 ^ l.length
 | []=>rfl
 | v::r=>by
  unfold Rung.allConds
  rw [List.length_flatMap,List.length_cons,Nat.pow_succ,←allC_len r]
  generalize Rung.allConds r=L
  induction L with
  | nil=>rfl
  | cons a L ih=>rw [List.map_cons,List.sum_cons,ih,List.length_cons]; simp only [List.length_cons,List.length_nil]; omega
theorem sums_len{s:Rung.Scheme}(h:s.used.length≤6)(k:Nat):(Rung.sumsOf s k).length≤729:=by
 unfold Rung.sumsOf
 rw [fold_ins]
 have:=List.length_filter_le (Rung.isSum s k) (Rung.allConds s.used)
 rw [allC_len] at this
 exact Nat.le_trans this (pow3 h)
section
variable {P:Program} {w:World} {K:PySem.W.Frag} {mg:Str->Option Value} {base:Heap} {CC CS CB:Addr}
theorem same_none{H:Hp}:Same H (rem H fun _=>False):=fun b o e=>rem_some.mpr ⟨fun z=>z,e⟩
theorem cab_at{H:Hp}{p dx a:Addr}{s:Rung.Scheme}{Z:Addr->Prop}(hp:H p=some (.ins CB dx (cbF a)))(h:CabAt CC CS CB (rem H Z) p s):¬ Z p∧SchAt CC CS (rem H Z) a s:=by
 obtain ⟨dx',a',e,z⟩:=h
 obtain ⟨n,e⟩:=rem_some.mp e
 rw [hp] at e
 injection e with e
 injection e with _ _ e
 injection e with e
 injection e with _ e
 injection e with e
 subst e
 exact ⟨n,z⟩
theorem Ret.ext{p dx a:Addr}{s:Rung.Scheme}{u:Rung.Scheme×List Int}{H H2 H3 H4:Hp}{Q:VK}(k:Ret CC CS CB p s u H Q)(e1:u.1=s)(hp:H p=some (.ins CB dx (cbF a)))(hS:SchAt CC CS H a s)(T:Addr->Prop)(hT:∀ t,T t->H t=none∧∃ xs,H2 t=some (.lst xs))
  (S0:Same H H2) (hB:But a H2 H3) (hZ:ZK CC CS a s H2 H3) (S4:∀ b o,H3 b=some o->¬ T b->H4 b=some o) {q:Addr} (hq:H4 q=some (.lst (u.2.map V.int))) (fq:H q=none):Q (.ref q) H4:=by
 have nT:∀ b o,H b=some o->¬ T b:=fun b o e h=>by rw [(hT b h).1] at e; cases e
 have npa:=cab_ne hp hS
 have zc:ZC CC CS CB p s u.1 H H4:=fun Z hL h0=>by
  obtain ⟨np,z0⟩:=cab_at hp h0
  have s1:Same (rem H Z) (rem H2 fun b=>Z b∨T b):=fun b o e=>by
   obtain ⟨n,e⟩:=rem_some.mp e
   exact rem_some.mpr ⟨fun h=>h.elim n (nT b o e),S0 _ _ e⟩
  have l2:Lists H2 fun b=>Z b∨T b:=fun b h=>h.elim (fun z=>(hL.same S0) b z) fun z=>(hT b z).2
  have z3:=hZ _ l2 (z0.same s1)
  have s4:Same (rem H3 fun b=>Z b∨T b) (rem H4 Z):=fun b o e=>by
   obtain ⟨n,e⟩:=rem_some.mp e
   exact rem_some.mpr ⟨fun h=>n (.inl h),S4 _ _ e fun h=>n (.inr h)⟩
  rw [e1]
  exact ⟨dx,a,rem_some.mpr ⟨np,S4 _ _ (hB _ _ (S0 _ _ hp) npa) (nT _ _ hp)⟩,z3.same s4⟩
 obtain ⟨da,fs,ha,_⟩:=sch_ins hS
 refine k H4 q ?_ (fun b o e n=>S4 _ _ (hB _ _ (S0 _ _ e) (ne_of e ha (fun z=>n _ _ _ z))) (nT _ _ e)) zc hq fq
 have:=zc (fun _=>False) (fun z h=>absurd h id) (CabAt.same ⟨dx,a,hp,hS⟩ same_none)
 exact this.same Same.of_rem
theorem Ret.but{p dx a:Addr}{s:Rung.Scheme}{u:Rung.Scheme×List Int}{H H2 H3 H4:Hp}{Q:VK}(k:Ret CC CS CB p s u H Q)(e1:u.1=s)(hp:H p=some (.ins CB dx (cbF a)))(hS:SchAt CC CS H a s)
  (S0:Same H H2) (hB:But a H2 H3) (hZ:ZK CC CS a s H2 H3) (S4:Same H3 H4) {q:Addr} (hq:H4 q=some (.lst (u.2.map V.int))) (fq:H q=none):Q (.ref q) H4 :=
 k.ext e1 hp hS (fun _=>False) (fun t h=>absurd h id) S0 hB hZ (fun b o e _=>S4 _ _ e) hq fq
theorem used_dec{s:Rung.Scheme}(n:Nat):decide ((n:Int) < ((s.used.map nV).length:Nat))=decide (n < s.used.length):=by
 rw [List.length_map]
 exact decide_eq_decide.mpr (by omega)
def spFirstM(CC CS CB:Addr):Sp:=fun vs H Q _=>∃ (p:Addr) (s:Rung.Scheme) (x y:Int),vs=[.ref p,.int x,.int y]∧CabAt CC CS CB H p s∧Ws s∧Ret CC CS CB p s (RungWaySeed.step s (.first x y)) H Q
theorem scFirstM:FnScope ["self","node","other","state"] ["self","node","other"] (defScope sFirst):=⟨rfl,rfl,rfl,by decide +kernel,rfl,by decide +kernel,by decide +kernel⟩
theorem ok_firstM{f f2 f3:Addr}{fd fd2 fd3:FuncData}(F:Fun K "first" "Cabinet.first" sFirst f fd)(T:TxA K mg CC CS)(C:TxC K mg CB)(C2:Cal P w K mg base "is_node" ["number"] spIsNode 1 f2 fd2)
  (C3:Cal P w K mg base "first_apart" ["scheme","node","other"] (spFirstA CC CS) 5 f3 fd3):FnOk P w K mg base CX0 6 f fd ["self","node","other"] (spFirstM CC CS CB):=by
 refine F.ok scFirstM (fun vs H Q E h=>?_) (fun cdv A outer s H vs Q E hr h=>?_)
 ·obtain ⟨p,s,x,k,rfl,_⟩:=h
  rfl
 ·obtain ⟨p,sc,x,y,rfl,hC,W,k⟩:=h
  have hr1:Room 1 _:=hr.mono (by decide)
  refine ⟨_,pss_cons (ps_if (PW.pt (pw_or (pt_not (pt_truth (pe_call C2.ok hr1 rfl C2.m C2.kp C2.b .nil pass0 (pa_cons (pv 1) pa_nil)) (fun _=>rfl))) (pw_or1 (pt_not (pt_truth (pe_call C2.ok hr1 rfl C2.m C2.kp C2.b .nil pass0 (pa_cons (pv 2) pa_nil)) (fun _=>rfl)))))) (pss_one (ps_ret (pe_lst (pa_cons (pe_gI rfl C.out) pa_nil)))) pss_nil)
   (pss_cons (ps_if (pt_cmpR op_gt (pe_callB call_len_seq (by rfl) C.len PySem.boot_len (pa_cons (pe_fld (pe_fld (pv 0) rfl) rfl) pa_nil)) (pe_gI rfl C.mostStates) (nomark _)) (pss_one (ps_ret (pe_lst (pa_cons (pe_gI rfl C.tooMany) pa_nil)))) pss_nil)
   (pss_cons (ps_set (i:=3) scFirstM.nd rfl (Or.inl rfl) (pe_call C3.ok hr rfl C3.m C3.kp C3.b .nil pass0 (pa_cons (pe_fld (pv 0) rfl) (pa_cons (pv 1) (pa_cons (pv 2) pa_nil)))))
   (pss_cons (ps_if (pt_cmp (pc_isN (pv 3))) (pss_one (ps_ret (pe_lst (pa_cons (pe_gI rfl C.notSo) pa_nil)))) pss_nil)
   (pss_one (ps_ret (pe_lst (pa_cons pe_int (pa_cons (pv 3) pa_nil)))))))),?_⟩
  have es:(RungWaySeed.step sc (.first x y)).2=if (RungWaySeed.within x Rung.NODES&&RungWaySeed.within y Rung.NODES)=false then RungWaySeed.no 1 else if 8 < sc.used.length then RungWaySeed.no 9 else match Rung.firstDiffer sc x.toNat y.toNat with
   | some x=>RungWaySeed.tells [(x:Int)]
   | none=>RungWaySeed.no 5:=rfl
  refine ⟨_,rfl,x,rfl,_,rfl,?_⟩
  rw [←within_node]
  cases h1:RungWaySeed.within x Rung.NODES with
  | false =>
   rw [h1] at es
   exact ⟨(by show 1≤sizeLine; decide),fun q hq=>k.new rfl hC (Same.refl _) (by rw [es]; rfl) hq⟩
  | true =>
   refine ⟨_,rfl,y,rfl,_,rfl,?_⟩
   rw [←within_node]
   cases h2:RungWaySeed.within y Rung.NODES with
   | false =>
    rw [h1,h2] at es
    exact ⟨(by show 1≤sizeLine; decide),fun q hq=>k.new rfl hC (Same.refl _) (by rw [es]; rfl) hq⟩
   | true =>
    rw [h1,h2,if_neg (by decide)] at es
    obtain ⟨ex,hx⟩:=within_nat h1
    obtain ⟨ey,hy⟩:=within_nat h2
    obtain ⟨dx,a,hp,hS⟩:=id hC
    obtain ⟨l,u,b,lc,lt,⟨da,ha⟩,hcs,_,hus,_⟩:=id hS
    generalize x.toNat=xn at *
    generalize y.toNat=yn at *
    subst ex ey
    refine ⟨_,rfl,p,CB,dx,_,_,rfl,hp,C.cb,C.nSch,cb_sch a,a,CS,da,_,_,rfl,ha,T.cs,T.nUsed,sc_used _ _ _ _ _,u,_,rfl,.inl (SqL.of hus),_,_,rfl,rfl,_,rfl,?_⟩
    rw [show decide ((8:Int) < ((sc.used.map nV).length:Nat))=decide (8 < sc.used.length) from used_dec 8]
    by_cases h8:8 < sc.used.length
    ·rw [decide_eq_true h8]
     rw [if_pos h8] at es
     exact ⟨(by show 1≤sizeLine; decide),fun q hq=>k.new rfl hC (Same.refl _) (by rw [es]; rfl) hq⟩
    ·rw [decide_eq_false h8]
     rw [if_neg h8] at es
     refine ⟨_,rfl,p,CB,dx,_,_,rfl,hp,C.cb,C.nSch,cb_sch a,_,rfl,_,rfl,a,sc,xn,yn,rfl,hS,W,by omega,hx,hy,fun H3 hS3 hB hZ=>?_⟩
     have done:∀ (H4:Hp) (q:Addr) (xs:List V),H3 q=none->xs=(RungWaySeed.step sc (.first xn yn)).2.map V.int->Q (.ref q) (upd H3 q (.lst xs)):=fun H4 q xs hq e=>by
      subst e
      obtain ⟨d3,f3,a3,_⟩:=sch_ins hS3
      exact k.but rfl hp hS (Same.refl _) hB hZ (Same.new hq) upd_same (hB.free a3 hq)
     cases hf:Rung.firstDiffer sc xn yn with
     | none =>
      rw [hf] at es
      exact ⟨_,rfl,_,rfl,(by show 1≤sizeLine; decide),fun q hq=>done H3 q _ hq (by rw [es]; rfl)⟩
     | some z =>
      rw [hf] at es
      refine ⟨_,rfl,_,rfl,_,rfl,(by show 2≤sizeLine; decide),fun q hq=>done H3 q _ hq (by rw [es]; rfl)⟩
def spMatterM(CC CS CB:Addr):Sp:=fun vs H Q _=>∃ (p:Addr) (s:Rung.Scheme) (x:Int),vs=[.ref p,.int x]∧CabAt CC CS CB H p s∧Ws s∧Ret CC CS CB p s (RungWaySeed.step s (.matter x)) H Q
theorem scMatterM:FnScope ["self","node"] ["self","node"] (defScope sMatter):=⟨rfl,rfl,rfl,by decide +kernel,rfl,by decide +kernel,by decide +kernel⟩
theorem mats_len(s:Rung.Scheme)(k:Nat):(Rung.mattersTo s k).length≤s.used.length:=List.length_filter_le _ _
theorem ok_matterM{f f2 f3:Addr}{fd fd2 fd3:FuncData}(F:Fun K "matter" "Cabinet.matter" sMatter f fd)(T:TxA K mg CC CS)(C:TxC K mg CB)(C2:Cal P w K mg base "is_node" ["number"] spIsNode 1 f2 fd2)
  (C3:Cal P w K mg base "variables_that_matter" ["scheme","node"] (spVarsM CC CS) 5 f3 fd3):FnOk P w K mg base CX0 6 f fd ["self","node"] (spMatterM CC CS CB):=by
 refine F.ok scMatterM (fun vs H Q E h=>?_) (fun cdv A outer s H vs Q E hr h=>?_)
 ·obtain ⟨p,s,x,rfl,_⟩:=h
  rfl
 ·obtain ⟨p,sc,x,rfl,hC,W,k⟩:=h
  have hr1:Room 1 _:=hr.mono (by decide)
  refine ⟨_,pss_cons (ps_if (pt_not (pt_truth (pe_call C2.ok hr1 rfl C2.m C2.kp C2.b .nil pass0 (pa_cons (pv 1) pa_nil)) (fun _=>rfl))) (pss_one (ps_ret (pe_lst (pa_cons (pe_gI rfl C.out) pa_nil)))) pss_nil)
   (pss_cons (ps_if (pt_cmpR op_gt (pe_callB call_len_seq (by rfl) C.len PySem.boot_len (pa_cons (pe_fld (pe_fld (pv 0) rfl) rfl) pa_nil)) (pe_gI rfl C.mostStates) (nomark _)) (pss_one (ps_ret (pe_lst (pa_cons (pe_gI rfl C.tooMany) pa_nil)))) pss_nil)
   (pss_one (ps_ret (pe_op op_cat (pe_lst (pa_cons pe_int pa_nil)) (pe_call C3.ok hr rfl C3.m C3.kp C3.b .nil pass0 (pa_cons (pe_fld (pv 0) rfl) (pa_cons (pv 1) pa_nil))))))),?_⟩
  have es:(RungWaySeed.step sc (.matter x)).2=if RungWaySeed.within x Rung.NODES=false then RungWaySeed.no 1 else if 8 < sc.used.length then RungWaySeed.no 9 else RungWaySeed.tells (RungWaySeed.nums (Rung.mattersTo sc x.toNat)):=rfl
  refine ⟨_,rfl,x,rfl,_,rfl,?_⟩
  rw [←within_node]
  cases h1:RungWaySeed.within x Rung.NODES with
  | false =>
   rw [h1] at es
   exact ⟨(by show 1≤sizeLine; decide),fun q hq=>k.new rfl hC (Same.refl _) (by rw [es]; rfl) hq⟩
  | true =>
   rw [h1,if_neg (by decide)] at es
   obtain ⟨ex,hx⟩:=within_nat h1
   obtain ⟨dx,a,hp,hS⟩:=id hC
   obtain ⟨l,u,b,lc,lt,⟨da,ha⟩,hcs,_,hus,_⟩:=id hS
   generalize x.toNat=xn at *
   subst ex
   refine ⟨_,rfl,p,CB,dx,_,_,rfl,hp,C.cb,C.nSch,cb_sch a,a,CS,da,_,_,rfl,ha,T.cs,T.nUsed,sc_used _ _ _ _ _,u,_,rfl,.inl (SqL.of hus),_,_,rfl,rfl,_,rfl,?_⟩
   rw [show decide ((8:Int) < ((sc.used.map nV).length:Nat))=decide (8 < sc.used.length) from used_dec 8]
   by_cases h8:8 < sc.used.length
   ·rw [decide_eq_true h8]
    rw [if_pos h8] at es
    exact ⟨(by show 1≤sizeLine; decide),fun q hq=>k.new rfl hC (Same.refl _) (by rw [es]; rfl) hq⟩
   ·rw [decide_eq_false h8]
    rw [if_neg h8] at es
    refine ⟨(by show 1≤sizeLine; decide),fun q2 hq2=>?_⟩
    have S2:Same H (upd H q2 (.lst [.int 0])):=Same.new hq2
    have hq22:upd H q2 (.lst [.int 0]) q2=some (.lst [.int 0]):=upd_same
    generalize upd H q2 (.lst [.int 0])=H2 at *
    refine ⟨_,rfl,p,CB,dx,_,_,rfl,S2 _ _ hp,C.cb,C.nSch,cb_sch a,_,rfl,a,sc,xn,rfl,hS.same S2,W,by omega,hx,fun H3 q hS3 hB hZ fq hq=>?_⟩
    refine ⟨q2,q,_,_,rfl,rfl,hB _ _ hq22 (ne_of hq22 (S2 _ _ ha) (by intro z; cases z)),hq,?_,fun q3 hq3=>?_⟩
    ·have:=mats_len sc xn
     rw [List.length_map]
     have lb:sizeLine=16777216:=sizeLine_eq
     simp only [List.length_cons,List.length_nil]
     omega
    ·obtain ⟨d3,f3,a3,_⟩:=sch_ins hS3
     refine k.but rfl hp hS S2 hB hZ (Same.new hq3) ?_ (S2.free (hB.free a3 hq3))
     rw [upd_same,es]
     unfold RungWaySeed.tells
     rw [List.map_cons,nums_map]
     rfl
def spSumsM(CC CS CB:Addr):Sp:=fun vs H Q _=>∃ (p:Addr) (s:Rung.Scheme) (x:Int),vs=[.ref p,.int x]∧CabAt CC CS CB H p s∧Ws s∧Ret CC CS CB p s (RungWaySeed.step s (.sums x)) H Q
theorem scSumsM:FnScope ["self","node","told","on","off"] ["self","node"] (defScope sSumsM):=⟨rfl,rfl,rfl,by decide +kernel,rfl,by decide +kernel,by decide +kernel⟩
def cdL(l:List (Nat×Nat)):List Nat:=l.flatMap fun z=>[z.1,z.2]
theorem cdL_len(l:List (Nat×Nat)):(cdL l).length=2*l.length:=by
 unfold cdL
 induction l with
 | nil=>rfl
 | cons a l ih=>rw [List.flatMap_cons,List.length_append,ih,List.length_cons]; simp only [List.length_cons,List.length_nil]; omega
theorem ok_sumsM{f f2 f3:Addr}{fd fd2 fd3:FuncData}(F:Fun K "sums" "Cabinet.sums" sSumsM f fd)(T:TxA K mg CC CS)(C:TxC K mg CB)(C2:Cal P w K mg base "is_node" ["number"] spIsNode 1 f2 fd2)
  (C3:Cal P w K mg base "sums_of" ["scheme","node"] (spSums CC CS) 5 f3 fd3):FnOk P w K mg base CX0 6 f fd ["self","node"] (spSumsM CC CS CB):=by
 refine F.ok scSumsM (fun vs H Q E h=>?_) (fun cdv A outer s H vs Q E hr h=>?_)
 ·obtain ⟨p,s,x,rfl,_⟩:=h
  rfl
 ·obtain ⟨p,sc,x,rfl,hC,W,k⟩:=h
  have hr1:Room 1 _:=hr.mono (by decide)
  refine ⟨_,pss_cons (ps_if (pt_not (pt_truth (pe_call C2.ok hr1 rfl C2.m C2.kp C2.b .nil pass0 (pa_cons (pv 1) pa_nil)) (fun _=>rfl))) (pss_one (ps_ret (pe_lst (pa_cons (pe_gI rfl C.out) pa_nil)))) pss_nil)
   (pss_cons (ps_if (pt_cmpR op_gt (pe_callB call_len_seq (by rfl) C.len PySem.boot_len (pa_cons (pe_fld (pe_fld (pv 0) rfl) rfl) pa_nil)) (pe_gI rfl C.mostSums) (nomark _)) (pss_one (ps_ret (pe_lst (pa_cons (pe_gI rfl C.tooMany) pa_nil)))) pss_nil)
   (pss_cons (ps_set (i:=2) scSumsM.nd rfl (Or.inl rfl) (pe_lst (pa_cons pe_int pa_nil)))
   (pss_cons (ps_for PassesOwn.never rfl (pi_list (pe_call C3.ok hr rfl C3.m C3.kp C3.b .nil pass0 (pa_cons (pe_fld (pv 0) rfl) (pa_cons (pv 1) pa_nil)))) (pg_tup rfl (pgs_cons (pg_name (i:=3) scSumsM.nd rfl (Or.inl rfl)) (pgs_cons (pg_name (i:=4) scSumsM.nd rfl (Or.inl rfl)) pgs_nil)))
    (pss_one (ps_expr (pe_bm PySem.F.plainAttrs_list PySem.F.slot_list_extend PySem.F.type_list_extend mt_extend (pv 2) (pa_cons (pe_lst (pa_cons (pv 3) (pa_cons (pv 4) pa_nil))) pa_nil)))))
   (pss_one (ps_ret (pv 2)))))),?_⟩
  have es:(RungWaySeed.step sc (.sums x)).2=if RungWaySeed.within x Rung.NODES=false then RungWaySeed.no 1 else if 6 < sc.used.length then RungWaySeed.no 9 else RungWaySeed.tells (RungWaySeed.nums ((Rung.sumsOf sc x.toNat).flatMap fun (z:Rung.Conds)=>[z.on,z.off])):=rfl
  refine ⟨_,rfl,x,rfl,_,rfl,?_⟩
  rw [←within_node]
  cases h1:RungWaySeed.within x Rung.NODES with
  | false =>
   rw [h1] at es
   exact ⟨(by show 1≤sizeLine; decide),fun q hq=>k.new rfl hC (Same.refl _) (by rw [es]; rfl) hq⟩
  | true =>
   rw [h1,if_neg (by decide)] at es
   obtain ⟨ex,hx⟩:=within_nat h1
   obtain ⟨dx,a,hp,hS⟩:=id hC
   obtain ⟨l,u,b,lc,lt,⟨da,ha⟩,hcs,_,hus,_⟩:=id hS
   generalize x.toNat=xn at *
   subst ex
   refine ⟨_,rfl,p,CB,dx,_,_,rfl,hp,C.cb,C.nSch,cb_sch a,a,CS,da,_,_,rfl,ha,T.cs,T.nUsed,sc_used _ _ _ _ _,u,_,rfl,.inl (SqL.of hus),_,_,rfl,rfl,_,rfl,?_⟩
   rw [show decide ((6:Int) < ((sc.used.map nV).length:Nat))=decide (6 < sc.used.length) from used_dec 6]
   by_cases h6:6 < sc.used.length
   ·rw [decide_eq_true h6]
    rw [if_pos h6] at es
    exact ⟨(by show 1≤sizeLine; decide),fun q hq=>k.new rfl hC (Same.refl _) (by rw [es]; rfl) hq⟩
   ·rw [decide_eq_false h6]
    rw [if_neg h6] at es
    refine ⟨(by show 1≤sizeLine; decide),fun t ht=>?_⟩
    have S2:Same H (upd H t (.lst [.int 0])):=Same.new ht
    have ht2:upd H t (.lst [.int 0]) t=some (.lst [.int 0]):=upd_same
    generalize upd H t (.lst [.int 0])=H2 at *
    refine ⟨_,rfl,p,CB,dx,_,_,rfl,S2 _ _ hp,C.cb,C.nSch,cb_sch a,_,rfl,a,sc,xn,rfl,hS.same S2,W,by omega,hx,fun H3 q hS3 hB hZ hF fq=>?_⟩
    have nqt:q≠t:=fun e=>by subst e; rw [ht2] at fq; cases fq
    have ht3:=hB _ _ ht2 (ne_of ht2 (S2 _ _ ha) (by intro z; cases z))
    obtain ⟨ts,e0,r0⟩:=hF
    have slen:=sums_len (s:=sc) (by omega) xn
    refine ⟨q,rfl,⟨_,SqL.of e0⟩,for_pairs (xs:=ts) (fun i σ H'=>∃ v3 v4:Option V,σ=[some (.ref p),some (.int xn),some (.ref t),v3,v4]∧(∀ b o,H3 b=some o->b≠t->H' b=some o)∧H' t=some (.lst ((0::cdL (((Rung.sumsOf sc xn).map cdP).take i)).map nV))) ?_ ?_ ?_ ?_⟩
    ·exact ⟨none,none,rfl,fun b o e _=>e,ht3⟩
    ·rintro i σ H' hi ⟨_,_,rfl,z,_⟩
     exact SqL.of (z _ _ e0 nqt)
    ·rintro i tt σ H' hy ⟨v3,v4,rfl,z1,z2⟩
     obtain ⟨⟨on,off⟩,hf,hT⟩:=Pd.get r0 hy
     have il:=(List.getElem?_eq_some_iff.mp hf).1
     rw [List.length_map] at il
     have hT':=z1 _ _ hT (ne_of hT ht3 (by intro z; cases z))
     refine ⟨_,_,SqT.of hT',_,rfl,.inl ⟨rfl,_,SqL.of z2⟩,_,rfl,_,rfl,(by show 2≤sizeLine; decide),fun q5 hq5=>?_⟩
     have n5:t≠q5:=ne_of_none z2 hq5
     refine ⟨t,q5,_,_,rfl,rfl,(by rw [upd_ne n5]; exact z2),upd_same,?_,_,_,rfl,fun b o e hb=>?_,?_⟩
     ·rw [List.length_map,List.length_cons,cdL_len,List.length_take]
      have lb:sizeLine=16777216:=sizeLine_eq
      simp only [List.length_cons,List.length_nil]
      omega
     ·have:=z1 b o e hb
      rw [upd_ne hb,upd_ne (ne_of_none this hq5)]
      exact this
     ·rw [upd_same,CwG.take_snoc hf]
      unfold cdL
      rw [List.flatMap_append,List.map_cons,List.map_cons,List.map_append]
      rfl
    ·rintro σ H4 ⟨v3,v4,rfl,z1,z2⟩
     have el:=Pd.len r0
     rw [el,List.take_length] at z2
     refine ⟨_,rfl,k.ext rfl hp hS (fun b=>b=t) (fun b e=>by subst e; exact ⟨ht,_,ht2⟩) S2 hB hZ (fun b o e h=>z1 b o e h) ?_ ht⟩
     rw [z2,es]
     unfold RungWaySeed.tells
     rw [List.map_cons,List.map_cons,nums_map]
     have:cdL ((Rung.sumsOf sc xn).map cdP)=(Rung.sumsOf sc xn).flatMap fun (z:Rung.Conds)=>[z.on,z.off]:=by
      unfold cdL
      rw [List.flatMap_map]
      rfl
     rw [this]
     rfl
end
end Cw
namespace Cw
open PySem PySem.Spec PyProof.Rows L2 CwG CwR
theorem sch_other{CC CS p a C dx:Addr}{H:Hp}{s:Rung.Scheme}{fs:List (Str×V)}{o:HO}(hp:H p=some (.ins C dx fs))(hl:fs.length < 4)(h:SchAt CC CS H a s):SchAt CC CS (upd H p o) a s:=by
 obtain ⟨l',u',b',lc',lt',⟨d',e'⟩,h2,h3,h4,h5,h6⟩:=h
 have up:∀ c o',H c=some o'->c≠p->upd H p o c=some o':=fun c o' e h=>by rw [upd_ne h]; exact e
 have hne:∀ c o',H c=some o'->(∀ C d fs,o'≠.ins C d fs)->c≠p:=fun c o e h=>ne_of e hp (fun z=>h _ _ _ z)
 have hin:∀ c C' d' fs',H c=some (.ins C' d' fs')->4≤fs'.length->c≠p:=fun c C' d' fs' e h z=>by
  subst z
  rw [hp] at e
  injection e with e
  injection e with _ _ e
  subst e
  omega
 refine ⟨l',u',b',lc',lt',⟨d',up _ _ e' (hin _ _ _ _ e' (by show 4≤5; decide))⟩,?_,h3,up _ _ h4 (hne _ _ h4 (by intro _ _ _ z; cases z)),?_,?_⟩
 ·obtain ⟨as,e,r⟩:=h2
  exact ⟨as,up _ _ e (hne _ _ e (by intro _ _ _ z; cases z)),Pd.imp (fun c x ⟨d,z⟩=>⟨d,up _ _ z (hin _ _ _ _ z (by show 4≤4; decide))⟩) r⟩
 ·exact h5.imp id fun ⟨q,C,ts,g1,g2,g3,g4⟩=>⟨q,C,ts,g1,g2,up _ _ g3 (hne _ _ g3 (by intro _ _ _ z; cases z)),Pd.imp (fun t x z=>up _ _ z (hne _ _ z (by intro _ _ _ y; cases y))) g4⟩
 ·exact h6.imp id fun ⟨d,g1,g2⟩=>⟨d,g1,up _ _ g2 (hne _ _ g2 (by intro _ _ _ z; cases z))⟩
theorem faults_kind{p:List Rung.Line}{x:Nat×Nat}(h:(faults p).head?=some x):x.1≠0:=by
 have hm:=List.mem_of_head? h
 unfold faults at hm
 simp only [List.mem_append,List.mem_map] at hm
 rcases hm with ((⟨k,_,rfl⟩ | ⟨k,_,rfl⟩) | ⟨k,_,rfl⟩) | ⟨k,_,rfl⟩<;>exact Nat.succ_ne_zero _
inductive Rd(t:Rung.Bytes):Prop
 | ok (p:List Rung.Line):rdLines t=p.map some->Clean p->ffOf (rdLines t)=(0,0)->Rung.readText t=.ok (Rung.schemeOf p)->Rd t
 | no (f:Nat×Nat):f.1≠0->ffOf (rdLines t)=f->Rung.readText t=.error f->Rd t
theorem rd_cases(t:Rung.Bytes):Rd t:=by
 rcases lines_cases (rdLines t) with ⟨p,e⟩ | ⟨p,r,e⟩
 ·cases h:(faults p).head? with
  | none =>
   refine .ok p e ⟨rd_ok (r:=[]) (by rw [List.append_nil]; exact e),h⟩ ?_ ?_
   ·rw [e,ff_some,h]; rfl
   ·rw [read_ok e,h]
  | some f =>
   refine .no f (faults_kind h) ?_ ?_
   ·rw [e,ff_some,h]; rfl
   ·rw [read_ok e,h]
 ·exact .no (1,p.length) (Nat.succ_ne_zero 0) (by rw [e,ff_none]) (read_no e)
section
variable {P:Program} {w:World} {K:PySem.W.Frag} {mg:Str->Option Value} {base:Heap} {CC CS CB CL:Addr}
def spLoadM(CC CS CB:Addr):Sp:=fun vs H Q _=>∃ (p l:Addr) (s:Rung.Scheme) (t:Rung.Bytes),vs=[.ref p,.ref l]∧CabAt CC CS CB H p s∧H l=some (.lst (t.map byV))∧Ret CC CS CB p s (RungWaySeed.step s (.load t)) H Q
theorem scLoadM:FnScope ["self","text","lines","fault"] ["self","text"] (defScope sLoad):=⟨rfl,rfl,rfl,by decide +kernel,rfl,by decide +kernel,by decide +kernel⟩
theorem ok_loadM{f f1 f2 f3:Addr}{fd fd1 fd2 fd3:FuncData}(F:Fun K "load" "Cabinet.load" sLoad f fd)(C:TxC K mg CB)(C1:Cal P w K mg base "read_lines" ["text"] (spReadLines CL) 5 f1 fd1)(C2:Cal P w K mg base "first_fault" ["lines"] (spFirstF CL) 3 f2 fd2)
  (C3:Cal P w K mg base "scheme_of" ["lines"] (spSchemeOf CL CC CS) 3 f3 fd3):FnOk P w K mg base CX0 6 f fd ["self","text"] (spLoadM CC CS CB):=by
 refine F.ok scLoadM (fun vs H Q E h=>?_) (fun cdv A outer s H vs Q E hr h=>?_)
 ·obtain ⟨p,l,s,t,rfl,_⟩:=h
  rfl
 ·obtain ⟨p,l,sc,t,rfl,hC,hl,k⟩:=h
  have hr3:Room 3 _:=hr.mono (by decide)
  refine ⟨_,pss_cons (ps_if (pt_cmpR op_gt (pe_callB call_len_seq (by rfl) C.len PySem.boot_len (pa_cons (pv 1) pa_nil)) (pe_gI rfl C.mostBytes) (nomark _)) (pss_one (ps_ret (pe_lst (pa_cons (pe_gI rfl C.out) pa_nil)))) pss_nil)
   (pss_cons (ps_set (i:=2) scLoadM.nd rfl (Or.inl rfl) (pe_call C1.ok hr rfl C1.m C1.kp C1.b .nil pass0 (pa_cons (pv 1) pa_nil)))
   (pss_cons (ps_set (i:=3) scLoadM.nd rfl (Or.inl rfl) (pe_call C2.ok hr3 rfl C2.m C2.kp C2.b .nil pass0 (pa_cons (pv 2) pa_nil)))
   (pss_cons (ps_if (pt_cmpR (op_eqD hr.units) (pv 3) (pe_tup (pa_cons pe_int (pa_cons pe_int pa_nil))) (nomark _)) (pss_one (ps_fld (pv 0) (pe_call C3.ok hr3 rfl C3.m C3.kp C3.b .nil pass0 (pa_cons (pv 2) pa_nil)) rfl)) pss_nil)
   (pss_one (ps_ret (pe_lst (pa_cons pe_int (pa_cons (pe_ix ix_tup (pv 3) pe_int (fun _ _=>rfl)) (pa_cons (pe_ix ix_tup (pv 3) pe_int (fun _ _=>rfl)) pa_nil))))))))),?_⟩
  have es:RungWaySeed.step sc (.load t)=if 20000 < t.length then (sc,RungWaySeed.no 1) else (match Rung.readText t with
   | .error f=>(sc,RungWaySeed.tells [(f.1:Int),(f.2:Int)])
   | .ok z=>(z,RungWaySeed.tells [0,0])):=rfl
  rw [es] at k
  refine ⟨_,rfl,l,_,rfl,.inl (SqL.of hl),_,_,rfl,rfl,_,rfl,?_⟩
  rw [List.length_map]
  by_cases h2:20000 < t.length
  ·rw [decide_eq_true (show (20000:Int) < (t.length:Nat) by omega)]
   rw [if_pos h2] at k
   exact ⟨(by show 1≤sizeLine; decide),fun q hq=>k.new rfl hC (Same.refl _) rfl hq⟩
  ·rw [decide_eq_false (show ¬ (20000:Int) < (t.length:Nat) by omega)]
   rw [if_neg h2] at k
   refine ⟨_,rfl,l,t,rfl,hl,by omega,fun H1 q1 S1 hL=>?_⟩
   have rl:=rd_len t
   refine ⟨_,rfl,q1,_,rfl,hL,by omega,fun H2 tt S2 hT=>?_⟩
   refine ⟨_,rfl,(by show 2≤sizeLine; decide),fun z hz=>?_⟩
   have S3:Same H2 (upd H2 z (.tup [.int 0,.int 0])):=Same.new hz
   have hz3:upd H2 z (.tup [.int 0,.int 0]) z=some (.tup [.int 0,.int 0]):=upd_same
   generalize upd H2 z (.tup [.int 0,.int 0])=H3 at *
   have S03:=(S1.trans S2).trans S3
   have hT3:=S3 _ _ hT
   refine ⟨_,_,.tup (SqT.of hT3) (.cons (.int _) (.cons (.int _) .nil)),.tup (SqT.of hz3) (.cons (.int _) (.cons (.int _) .nil)),rfl,rfl,_,rfl,?_⟩
   rcases rd_cases t with ⟨pl,e,Cl,ff,er⟩ | ⟨fl,nz,ff,er⟩
   ·rw [ff] at hT3 ⊢
    rw [er] at k
    refine iteT ?_
    rw [e] at hL
    obtain ⟨vs0,hl0,hp0⟩:=hL
    obtain ⟨as0,rfl,hp1⟩:=lns_lines hp0
    have hLi:LinesAt CL H1 q1 pl:=⟨as0,hl0,hp1⟩
    rw [e,List.length_map] at rl
    refine ⟨_,rfl,q1,pl,rfl,hLi.same (S2.trans S3),by omega,Cl,fun H4 a S4 fa hS hZ=>?_⟩
    have S04:=S03.trans S4
    obtain ⟨dx,a0,hp,hS0⟩:=id hC
    have hp4:=S04 _ _ hp
    have npt:tt≠p:=ne_of (S4 _ _ hT3) hp4 (by intro y; cases y)
    have ht5:upd H4 p (.ins CB dx (cbF a)) tt=some (.tup [.int ((0:Nat):Int),.int ((0:Nat):Int)]):=by rw [upd_ne npt]; exact S4 _ _ hT3
    refine ⟨_,rfl,p,CB,dx,_,rfl,hp4,C.cb,C.nSch,(by show 1 < 1000; decide),?_⟩
    refine ⟨_,rfl,tt,_,_,_,rfl,rfl,SqT.of ht5,rfl,_,rfl,tt,_,_,_,rfl,rfl,SqT.of ht5,rfl,(by show 3≤sizeLine; decide),fun q hq=>?_⟩
    have hq5:upd H4 p (.ins CB dx (cbF a)) q=none:=hq
    have nqp:q≠p:=fun e=>by subst e; rw [upd_same] at hq5; cases hq5
    have fq:H q=none:=S04.free (by rw [upd_ne nqp] at hq5; exact hq5)
    have S5:Same (upd H4 p (.ins CB dx (cbF a))) (upd (upd H4 p (.ins CB dx (cbF a))) q (.lst [.int 0,.int ((0:Nat):Int),.int ((0:Nat):Int)])):=Same.new hq5
    refine k _ q (CabAt.same ⟨dx,a,upd_same,sch_other hp4 (by show 1 < 4; decide) hS⟩ S5) (fun b o e n=>S5 _ _ (by rw [upd_ne (ne_of e hp (fun z=>n _ _ _ z))]; exact S04 _ _ e)) (fun Z hLs h0=>?_) upd_same fq
    obtain ⟨nZp,_⟩:=cab_at hp h0
    have h4:=hZ Z (hLs.same S03)
    have hp4':rem H4 Z p=some (.ins CB dx (cbF a0)):=rem_some.mpr ⟨nZp,hp4⟩
    refine CabAt.same (H:=rem (upd H4 p (.ins CB dx (cbF a))) Z) ⟨dx,a,rem_some.mpr ⟨nZp,upd_same⟩,?_⟩ (sRem S5)
    rw [rem_upd nZp]
    exact sch_other hp4' (by show 1 < 4; decide) h4
   ·rw [ff] at hT3 ⊢
    rw [er] at k
    have en:PyData.eqv (.tuple [.int fl.1,.int fl.2]) (.tuple [.int 0,.int 0])=false:=by
     have:((fl.1:Int)==0)=false:=by
      rw [beq_eq_false_iff_ne]; omega
     simp [PyData.eqv,PyData.eqvAll,this]
    rw [en]
    refine iteF ?_
    refine ⟨_,rfl,tt,_,_,_,rfl,rfl,SqT.of hT3,rfl,_,rfl,tt,_,_,_,rfl,rfl,SqT.of hT3,rfl,(by show 3≤sizeLine; decide),fun q hq=>?_⟩
    exact k.new rfl hC S03 rfl hq
end
end Cw
namespace Cw
open PySem PySem.Spec PyProof.Rows L2 CwG CwR
inductive Flat:List Int->RungWaySeed.Call->Prop
 | load (t:Rung.Bytes):Flat (1::(t.length:Int)::t.map fun c=>(c.toNat:Int)) (.load t)
 | path (x k:Int):Flat [2,x,k] (.path x k)
 | border (x:Int):Flat [3,x] (.border x)
 | suffice (x y k:Int):Flat [4,x,y,k] (.suffice x y k)
 | sums (k:Int):Flat [5,k] (.sums k)
 | first (k l:Int):Flat [6,k,l] (.first k l)
 | matter (k:Int):Flat [7,k] (.matter k)
theorem Flat.pos{l:List Int}{x:RungWaySeed.Call}(h:Flat l x):0 < l.length:=by cases h<;>exact Nat.succ_pos _
theorem bytes_back:∀ {l:List Int},l.all (fun (z:Int)=>decide (0≤z)&&decide (z≤255))=true->(WayNeutral.bytesOf l).map (fun c=>(c.toNat:Int))=l
 | [],_=>rfl
 | z::l,h=>by
  rw [List.all_cons,Bool.and_eq_true,Bool.and_eq_true,decide_eq_true_eq,decide_eq_true_eq] at h
  have ih:=bytes_back h.2
  unfold WayNeutral.bytesOf at ih ⊢
  rw [List.map_cons,List.map_cons,ih]
  congr 1
  rw [UInt8.toNat_ofNat']
  omega
theorem call_is{p:Int}{r:List Int}{c:List (List Int)}{t:List Int}(h:PyFlat.call PyWqlgsb.shape (p::r)=some (c,t))(ha:WayNeutral.asked1 (PyWqlgsb.whole c)=true) :
  ∃ (f:List Int) (x:RungWaySeed.Call),p::r=f++t∧WayNeutral.callOf (PyWqlgsb.whole c)=some x∧Flat f x:=by
 unfold PyFlat.call PyWqlgsb.shape at h
 dsimp only at h
 by_cases e1:p=1
 ·subst e1
  simp only [if_true,Nat.not_lt_zero,if_false,List.drop_zero,List.take_zero,PyFlat.rows] at h
  cases r with
  | nil=>simp [PyFlat.row] at h
  | cons n r =>
   unfold PyFlat.row at h
   by_cases hn:0≤n∧n.toNat≤r.length
   ·simp only [hn,and_self,if_true] at h
    injection h with h
    injection h with h1 h2
    subst h1 h2
    have ha:(r.take n.toNat).all (fun (z:Int)=>decide (0≤z)&&decide (z≤255))=true:=ha
    have hb:=bytes_back ha
    have hl:(WayNeutral.bytesOf (r.take n.toNat)).length=n.toNat:=by unfold WayNeutral.bytesOf; rw [List.length_map,List.length_take]; omega
    refine ⟨1::n::r.take n.toNat,.load (WayNeutral.bytesOf (r.take n.toNat)),by simp,rfl,?_⟩
    have:=Flat.load (WayNeutral.bytesOf (r.take n.toNat))
    rw [hb,hl] at this
    rw [show ((n.toNat:Nat):Int)=n by omega] at this
    exact this
   ·simp only [hn,if_false] at h
    cases h
 ·rw [if_neg e1] at h
  by_cases e2:p=2
  ·subst e2
   simp only [if_true] at h
   split at h
   ·cases h
   ·rename_i hl
    match r,hl with
    | [],hl=>exact absurd (by simp) hl
    | [_],hl=>exact absurd (by simp) hl
    | a::b::r,_ =>
     simp [PyFlat.rows] at h
     obtain ⟨rfl,rfl⟩:=h
     exact ⟨[2,a,b],_,rfl,rfl,.path a b⟩
  ·rw [if_neg e2] at h
   by_cases e3:p=3
   ·subst e3
    simp only [if_true] at h
    split at h
    ·cases h
    ·rename_i hl
     match r,hl with
     | [],hl=>exact absurd (by simp) hl
     | a::r,_ =>
      simp [PyFlat.rows] at h
      obtain ⟨rfl,rfl⟩:=h
      exact ⟨[3,a],_,rfl,rfl,.border a⟩
   ·rw [if_neg e3] at h
    by_cases e4:p=4
    ·subst e4
     simp only [if_true] at h
     split at h
     ·cases h
     ·rename_i hl
      match r,hl with
      | [],hl=>exact absurd (by simp) hl
      | [_],hl=>exact absurd (by simp) hl
      | [_,_],hl=>exact absurd (by simp) hl
      | a::b::c::r,_ =>
       simp [PyFlat.rows] at h
       obtain ⟨rfl,rfl⟩:=h
       exact ⟨[4,a,b,c],_,rfl,rfl,.suffice a b c⟩
    ·rw [if_neg e4] at h
     by_cases e5:p=5
     ·subst e5
      simp only [if_true] at h
      split at h
      ·cases h
      ·rename_i hl
       match r,hl with
       | [],hl=>exact absurd (by simp) hl
       | a::r,_ =>
        simp [PyFlat.rows] at h
        obtain ⟨rfl,rfl⟩:=h
        exact ⟨[5,a],_,rfl,rfl,.sums a⟩
     ·rw [if_neg e5] at h
      by_cases e6:p=6
      ·subst e6
       simp only [if_true] at h
       split at h
       ·cases h
       ·rename_i hl
        match r,hl with
        | [],hl=>exact absurd (by simp) hl
        | [_],hl=>exact absurd (by simp) hl
        | a::b::r,_ =>
         simp [PyFlat.rows] at h
         obtain ⟨rfl,rfl⟩:=h
         exact ⟨[6,a,b],_,rfl,rfl,.first a b⟩
      ·rw [if_neg e6] at h
       by_cases e7:p=7
       ·subst e7
        simp only [if_true] at h
        split at h
        ·cases h
        ·rename_i hl
         match r,hl with
         | [],hl=>exact absurd (by simp) hl
         | a::r,_ =>
          simp [PyFlat.rows] at h
          obtain ⟨rfl,rfl⟩:=h
          exact ⟨[7,a],_,rfl,rfl,.matter a⟩
       ·rw [if_neg e7] at h
        cases h
theorem step_ws{s:Rung.Scheme}(W:Ws s)(x:RungWaySeed.Call):Ws (RungWaySeed.step s x).1:=by
 cases x with
 | load t =>
  show Ws (if 20000 < t.length then (s,RungWaySeed.no 1) else (match Rung.readText t with
   | .error f=>(s,RungWaySeed.tells [(f.1:Int),(f.2:Int)])
   | .ok z=>(z,RungWaySeed.tells [0,0]))).1
  by_cases h:20000 < t.length
  ·rw [if_pos h]; exact W
  ·rw [if_neg h]
   rcases rd_cases t with ⟨pl,e,Cl,ff,er⟩ | ⟨fl,nz,ff,er⟩
   ·rw [er]; exact Cl.ws
   ·rw [er]; exact W
 | _=>exact W
theorem tells_len(l:List Nat):(RungWaySeed.tells (RungWaySeed.nums l)).length=l.length+1:=by
 show (0::(l.map fun (n:Nat)=>(n:Int))).length=_
 rw [List.length_cons,List.length_map]
theorem ans_len{s:Rung.Scheme}(W:Ws s)(x:RungWaySeed.Call):(RungWaySeed.step s x).2.length≤1459:=by
 cases x with
 | load t =>
  show (if 20000 < t.length then (s,RungWaySeed.no 1) else (match Rung.readText t with
   | .error f=>(s,RungWaySeed.tells [(f.1:Int),(f.2:Int)])
   | .ok z=>(z,RungWaySeed.tells [0,0]))).2.length≤1459
  split
  ·show 1≤1459; decide
  ·split<;>(show 3≤1459; decide)
 | path x k =>
  show (if (RungWaySeed.within x RungWaySeed.STATES&&RungWaySeed.within k Rung.NODES)=false then RungWaySeed.no 1 else match Rung.pathTo s x.toNat k.toNat with
   | some l=>RungWaySeed.tells (RungWaySeed.nums l)
   | none=>RungWaySeed.no 5).length≤1459
  split
  ·show 1≤1459; decide
  ·cases h:Rung.pathTo s x.toNat k.toNat with
   | none=>show 1≤1459; decide
   | some l =>
    have:=path_len W.okc h
    show (RungWaySeed.tells (RungWaySeed.nums l)).length≤1459
    rw [tells_len]; omega
 | border x =>
  show (if RungWaySeed.within x RungWaySeed.STATES=false then RungWaySeed.no 1 else RungWaySeed.tells (RungWaySeed.nums (Rung.border s x.toNat))).length≤1459
  split
  ·show 1≤1459; decide
  ·have:=border_len (x:=x.toNat) W
   rw [tells_len]; omega
 | suffice p q k =>
  show (if (RungWaySeed.within p RungWaySeed.STATES&&(RungWaySeed.within q RungWaySeed.STATES&&RungWaySeed.within k Rung.NODES))=false then RungWaySeed.no 1 else if (s.clean p.toNat&&&s.clean q.toNat)≠0 then RungWaySeed.no 5 else RungWaySeed.tells [RungWaySeed.flag (Rung.suffice s ⟨s.clean p.toNat,s.clean q.toNat⟩ k.toNat)]).length≤1459
  split
  ·show 1≤1459; decide
  ·split
   ·show 1≤1459; decide
   ·show 2≤1459; decide
 | sums k =>
  show (if RungWaySeed.within k Rung.NODES=false then RungWaySeed.no 1 else if 6 < s.used.length then RungWaySeed.no 9 else RungWaySeed.tells (RungWaySeed.nums ((Rung.sumsOf s k.toNat).flatMap fun (z:Rung.Conds)=>[z.on,z.off]))).length≤1459
  split
  ·show 1≤1459; decide
  ·split
   ·show 1≤1459; decide
   ·rename_i h6
    have h1:=sums_len (s:=s) (by omega) k.toNat
    have h2:=cdL_len ((Rung.sumsOf s k.toNat).map cdP)
    have:cdL ((Rung.sumsOf s k.toNat).map cdP)=(Rung.sumsOf s k.toNat).flatMap fun (z:Rung.Conds)=>[z.on,z.off]:=by
     unfold cdL
     rw [List.flatMap_map]
     rfl
    rw [this,List.length_map] at h2
    rw [tells_len]; omega
 | first k l =>
  show (if (RungWaySeed.within k Rung.NODES&&RungWaySeed.within l Rung.NODES)=false then RungWaySeed.no 1 else if 8 < s.used.length then RungWaySeed.no 9 else match Rung.firstDiffer s k.toNat l.toNat with
   | some x=>RungWaySeed.tells [(x:Int)]
   | none=>RungWaySeed.no 5).length≤1459
  split
  ·show 1≤1459; decide
  ·split
   ·show 1≤1459; decide
   ·split
    ·show 2≤1459; decide
    ·show 1≤1459; decide
 | matter k =>
  show (if RungWaySeed.within k Rung.NODES=false then RungWaySeed.no 1 else if 8 < s.used.length then RungWaySeed.no 9 else RungWaySeed.tells (RungWaySeed.nums (Rung.mattersTo s k.toNat))).length≤1459
  split
  ·show 1≤1459; decide
  ·split
   ·show 1≤1459; decide
   ·have:=mats_len s k.toNat
    rw [tells_len]; omega
end Cw
namespace Cw
open PySem PySem.Spec PyProof.Rows L2 CwG CwR
def argsL:List (Int×Int):=[(2,2),(3,1),(4,3),(5,1),(6,2),(7,1)]
structure Mth(P:Program)(w:World)(K:PySem.W.Frag)(mg:Str->Option Value)(base:Heap)(C:Addr)(m:Str)(ps:List Str)(sp:Sp)(k:Nat)(f:Addr)(fd:FuncData):Prop where
 ok:FnOk P w K mg base CX0 k f fd ps sp
 m:Meth K C m f
 b:Binds K fd ps []
section
variable {P:Program} {w:World} {K:PySem.W.Frag} {mg:Str->Option Value} {base:Heap} {CC CS CB CL:Addr}
def spEnd(K:PySem.W.Frag):Sp:=fun vs H Q _=>∃ (a:Addr) (ns:List Int) (i:Nat) (c:Int),vs=[.ref a,.int i]∧SqL K H a (ns.map V.int)∧ns[i]?=some c ∧
 ((c=1∧∃ z,ns[i+1]?=some z∧Q (.int ((i:Int)+2+z)) H)∨(c≠1∧∃ n,(c,n)∈argsL∧Q (.int ((i:Int)+1+n)) H))
theorem scEnd:FnScope ["calls","place"] ["calls","place"] (defScope sEndOf):=⟨rfl,rfl,rfl,by decide +kernel,rfl,by decide +kernel,by decide +kernel⟩
theorem get_int{ns:List Int}{i:Nat}{c:Int}(h:ns[i]?=some c):(ns.map V.int)[i]?=some (.int c):=by rw [List.getElem?_map,h]; rfl
theorem ok_end{f:Addr}{fd:FuncData}(F:Fun K "end_of" "end_of" sEndOf f fd)(C:TxC K mg CB):FnOk P w K mg base CX0 1 f fd ["calls","place"] (spEnd K):=by
 refine F.ok scEnd (fun vs H Q E h=>?_) (fun cdv A outer s H vs Q E hr h=>?_)
 ·obtain ⟨a,ns,i,c,rfl,_⟩:=h
  rfl
 ·obtain ⟨a,ns,i,c,rfl,hS,hc,k⟩:=h
  obtain ⟨aa,ma,ka⟩:=C.args
  refine ⟨_,pss_cons (ps_if (pt_cmpR op_eq (pe_ix ix_list (pv 0) (pv 1) (fun _ _=>rfl)) (pe_gI rfl C.load) (nomark _))
    (pss_one (ps_ret (pe_op op_add (pe_op op_add (pv 1) pe_int) (pe_ix ix_list (pv 0) (pe_op op_add (pv 1) pe_int) (fun _ _=>rfl))))) pss_nil)
   (pss_one (ps_ret (pe_op op_add (pe_op op_add (pv 1) pe_int) (pe_kget (pe_glob (v:=.ref aa) rfl ma rfl) (pe_ix ix_list (pv 0) (pv 1) (fun _ _=>rfl)) (fun _ _=>rfl))))),?_⟩
  refine ⟨_,rfl,_,rfl,a,_,_,_,rfl,rfl,hS,atI_nat (get_int hc),rfl,_,rfl,?_⟩
  rcases k with ⟨rfl,z,hz,k⟩ | ⟨nc,n,hn,k⟩
  ·refine iteT ?_
   refine ⟨_,rfl,_,_,rfl,rfl,_,rfl,_,rfl,_,_,rfl,rfl,a,_,_,_,rfl,rfl,hS,at_of (j:=i+1) (by omega) (get_int hz),_,_,rfl,rfl,k⟩
  ·rw [decide_eq_false (by intro e; injection e with e; exact nc e)]
   refine iteF ?_
   exact ⟨_,rfl,_,_,rfl,rfl,_,rfl,_,rfl,a,_,_,_,rfl,rfl,hS,atI_nat (get_int hc),aa,argsL,c,n,rfl,ka,rfl,hn,_,_,rfl,rfl,k⟩
theorem Ret.same{p:Addr}{s:Rung.Scheme}{u:Rung.Scheme×List Int}{H H1:Hp}{Q:VK}(k:Ret CC CS CB p s u H Q)(S:Same H H1):Ret CC CS CB p s u H1 Q:=fun H' q h1 h2 h3 h4 h5 =>
 k H' q h1 ((NI.of S).trans h2) (fun Z hZ h0=>h3 Z (hZ.same S) (h0.same (sRem S))) h4 (S.free h5)
def spAnswer(CC CS CB:Addr):Sp:=fun vs H Q _=>∃ (p l:Addr) (s:Rung.Scheme) (f:List Int) (x:RungWaySeed.Call),vs=[.ref p,.ref l]∧CabAt CC CS CB H p s∧Ws s∧H l=some (.lst (f.map V.int))∧Flat f x∧Ret CC CS CB p s (RungWaySeed.step s x) H Q
theorem scAnswer:FnScope ["cabinet","call"] ["cabinet","call"] (defScope sAnswer):=⟨rfl,rfl,rfl,by decide +kernel,rfl,by decide +kernel,by decide +kernel⟩
theorem cb_no(a:Addr){m:Str}(h:¬ m="scheme"):(cbF a).lookup m=none:=by
 unfold cbF
 rw [List.lookup_cons,beq_eq_false_iff_ne.mpr h]
 rfl
theorem cut2(a b:V)(l:List V):cutV (a::b::l) (some 2) none=l:=by
 unfold cutV
 rw [show HT.sIx (a::b::l).length 0 (some 2)=min 2 (a::b::l).length from HT.sIx_nat _ _ 2,HT.sIx_none,List.length_cons,List.length_cons]
 rw [show min 2 (l.length+1+1)=2 by omega]
 show l.take _=l
 rw [show l.length+1+1 - 2=l.length by omega,List.take_length]
theorem ok_answer{f f1 f2 f3 f4 f5 f6 f7:Addr}{fd fd1 fd2 fd3 fd4 fd5 fd6 fd7:FuncData}(F:Fun K "answer" "answer" sAnswer f fd)(C:TxC K mg CB)
  (M1:Mth P w K mg base CB "load" ["self","text"] (spLoadM CC CS CB) 6 f1 fd1) (M2:Mth P w K mg base CB "path" ["self","state","node"] (spPath CC CS CB) 4 f2 fd2) (M3:Mth P w K mg base CB "border" ["self","state"] (spBorderM CC CS CB) 4 f3 fd3)
  (M4:Mth P w K mg base CB "suffice" ["self","on","off","node"] (spSufficeM CC CS CB) 4 f4 fd4) (M5:Mth P w K mg base CB "sums" ["self","node"] (spSumsM CC CS CB) 6 f5 fd5) (M6:Mth P w K mg base CB "first" ["self","node","other"] (spFirstM CC CS CB) 6 f6 fd6)
  (M7:Mth P w K mg base CB "matter" ["self","node"] (spMatterM CC CS CB) 6 f7 fd7):FnOk P w K mg base CX0 7 f fd ["cabinet","call"] (spAnswer CC CS CB):=by
 refine F.ok scAnswer (fun vs H Q E h=>?_) (fun cdv A outer s H vs Q E hr h=>?_)
 ·obtain ⟨p,l,s,f,x,rfl,_⟩:=h
  rfl
 ·obtain ⟨p,l,sc,f,x,rfl,hC,W,hl,fl,k⟩:=h
  have hr4:Room 4 _:=hr.mono (by decide)
  refine ⟨_,pss_cons (ps_if (pt_cmpR op_eq (pe_ix ix_list (pv 1) pe_int (fun _ _=>rfl)) (pe_gI rfl C.path) (nomark _))
    (pss_one (ps_ret (pe_meth (pv 0) C.cb M2.m M2.ok hr4 M2.b .nil pass0 (pa_cons (pe_ix ix_list (pv 1) pe_int (fun _ _=>rfl)) (pa_cons (pe_ix ix_list (pv 1) pe_int (fun _ _=>rfl)) pa_nil))))) pss_nil)
   (pss_cons (ps_if (pt_cmpR op_eq (pe_ix ix_list (pv 1) pe_int (fun _ _=>rfl)) (pe_gI rfl C.border) (nomark _))
    (pss_one (ps_ret (pe_meth (pv 0) C.cb M3.m M3.ok hr4 M3.b .nil pass0 (pa_cons (pe_ix ix_list (pv 1) pe_int (fun _ _=>rfl)) pa_nil)))) pss_nil)
   (pss_cons (ps_if (pt_cmpR op_eq (pe_ix ix_list (pv 1) pe_int (fun _ _=>rfl)) (pe_gI rfl C.suffice) (nomark _))
    (pss_one (ps_ret (pe_meth (pv 0) C.cb M4.m M4.ok hr4 M4.b .nil pass0 (pa_cons (pe_ix ix_list (pv 1) pe_int (fun _ _=>rfl)) (pa_cons (pe_ix ix_list (pv 1) pe_int (fun _ _=>rfl)) (pa_cons (pe_ix ix_list (pv 1) pe_int (fun _ _=>rfl)) pa_nil)))))) pss_nil)
   (pss_cons (ps_if (pt_cmpR op_eq (pe_ix ix_list (pv 1) pe_int (fun _ _=>rfl)) (pe_gI rfl C.sums) (nomark _))
    (pss_one (ps_ret (pe_meth (pv 0) C.cb M5.m M5.ok hr M5.b .nil pass0 (pa_cons (pe_ix ix_list (pv 1) pe_int (fun _ _=>rfl)) pa_nil)))) pss_nil)
   (pss_cons (ps_if (pt_cmpR op_eq (pe_ix ix_list (pv 1) pe_int (fun _ _=>rfl)) (pe_gI rfl C.first) (nomark _))
    (pss_one (ps_ret (pe_meth (pv 0) C.cb M6.m M6.ok hr M6.b .nil pass0 (pa_cons (pe_ix ix_list (pv 1) pe_int (fun _ _=>rfl)) (pa_cons (pe_ix ix_list (pv 1) pe_int (fun _ _=>rfl)) pa_nil))))) pss_nil)
   (pss_cons (ps_if (pt_cmpR op_eq (pe_ix ix_list (pv 1) pe_int (fun _ _=>rfl)) (pe_gI rfl C.matter) (nomark _))
    (pss_one (ps_ret (pe_meth (pv 0) C.cb M7.m M7.ok hr M7.b .nil pass0 (pa_cons (pe_ix ix_list (pv 1) pe_int (fun _ _=>rfl)) pa_nil)))) pss_nil)
   (pss_one (ps_ret (pe_meth (pv 0) C.cb M1.m M1.ok hr M1.b .nil pass0 (pa_cons (pe_slice sl_list (pv 1) (po_some pe_int) po_none) pa_nil))))))))),?_⟩
  obtain ⟨dx,a,hp,hS⟩:=id hC
  cases fl with
  | path x y =>
   refine ⟨_,rfl,l,_,_,_,rfl,rfl,SqL.of hl,rfl,rfl,_,rfl,iteT ?_⟩
   exact ⟨_,rfl,p,dx,_,rfl,hp,cb_no a (by decide +kernel),_,rfl,l,_,_,_,rfl,rfl,SqL.of hl,rfl,_,rfl,l,_,_,_,rfl,rfl,SqL.of hl,rfl,p,sc,x,y,rfl,hC,W,k⟩
  | border x =>
   refine ⟨_,rfl,l,_,_,_,rfl,rfl,SqL.of hl,rfl,rfl,_,rfl,iteF ?_⟩
   refine ⟨_,rfl,l,_,_,_,rfl,rfl,SqL.of hl,rfl,rfl,_,rfl,iteT ?_⟩
   exact ⟨_,rfl,p,dx,_,rfl,hp,cb_no a (by decide +kernel),_,rfl,l,_,_,_,rfl,rfl,SqL.of hl,rfl,p,sc,x,rfl,hC,W,k⟩
  | suffice x y z =>
   refine ⟨_,rfl,l,_,_,_,rfl,rfl,SqL.of hl,rfl,rfl,_,rfl,iteF ?_⟩
   refine ⟨_,rfl,l,_,_,_,rfl,rfl,SqL.of hl,rfl,rfl,_,rfl,iteF ?_⟩
   refine ⟨_,rfl,l,_,_,_,rfl,rfl,SqL.of hl,rfl,rfl,_,rfl,iteT ?_⟩
   exact ⟨_,rfl,p,dx,_,rfl,hp,cb_no a (by decide +kernel),_,rfl,l,_,_,_,rfl,rfl,SqL.of hl,rfl,_,rfl,l,_,_,_,rfl,rfl,SqL.of hl,rfl,_,rfl,l,_,_,_,rfl,rfl,SqL.of hl,rfl,p,sc,x,y,z,rfl,hC,W,k⟩
  | sums x =>
   refine ⟨_,rfl,l,_,_,_,rfl,rfl,SqL.of hl,rfl,rfl,_,rfl,iteF ?_⟩
   refine ⟨_,rfl,l,_,_,_,rfl,rfl,SqL.of hl,rfl,rfl,_,rfl,iteF ?_⟩
   refine ⟨_,rfl,l,_,_,_,rfl,rfl,SqL.of hl,rfl,rfl,_,rfl,iteF ?_⟩
   refine ⟨_,rfl,l,_,_,_,rfl,rfl,SqL.of hl,rfl,rfl,_,rfl,iteT ?_⟩
   exact ⟨_,rfl,p,dx,_,rfl,hp,cb_no a (by decide +kernel),_,rfl,l,_,_,_,rfl,rfl,SqL.of hl,rfl,p,sc,x,rfl,hC,W,k⟩
  | first x y =>
   refine ⟨_,rfl,l,_,_,_,rfl,rfl,SqL.of hl,rfl,rfl,_,rfl,iteF ?_⟩
   refine ⟨_,rfl,l,_,_,_,rfl,rfl,SqL.of hl,rfl,rfl,_,rfl,iteF ?_⟩
   refine ⟨_,rfl,l,_,_,_,rfl,rfl,SqL.of hl,rfl,rfl,_,rfl,iteF ?_⟩
   refine ⟨_,rfl,l,_,_,_,rfl,rfl,SqL.of hl,rfl,rfl,_,rfl,iteF ?_⟩
   refine ⟨_,rfl,l,_,_,_,rfl,rfl,SqL.of hl,rfl,rfl,_,rfl,iteT ?_⟩
   exact ⟨_,rfl,p,dx,_,rfl,hp,cb_no a (by decide +kernel),_,rfl,l,_,_,_,rfl,rfl,SqL.of hl,rfl,_,rfl,l,_,_,_,rfl,rfl,SqL.of hl,rfl,p,sc,x,y,rfl,hC,W,k⟩
  | matter x =>
   refine ⟨_,rfl,l,_,_,_,rfl,rfl,SqL.of hl,rfl,rfl,_,rfl,iteF ?_⟩
   refine ⟨_,rfl,l,_,_,_,rfl,rfl,SqL.of hl,rfl,rfl,_,rfl,iteF ?_⟩
   refine ⟨_,rfl,l,_,_,_,rfl,rfl,SqL.of hl,rfl,rfl,_,rfl,iteF ?_⟩
   refine ⟨_,rfl,l,_,_,_,rfl,rfl,SqL.of hl,rfl,rfl,_,rfl,iteF ?_⟩
   refine ⟨_,rfl,l,_,_,_,rfl,rfl,SqL.of hl,rfl,rfl,_,rfl,iteF ?_⟩
   refine ⟨_,rfl,l,_,_,_,rfl,rfl,SqL.of hl,rfl,rfl,_,rfl,iteT ?_⟩
   exact ⟨_,rfl,p,dx,_,rfl,hp,cb_no a (by decide +kernel),_,rfl,l,_,_,_,rfl,rfl,SqL.of hl,rfl,p,sc,x,rfl,hC,W,k⟩
  | load t =>
   have hl':H l=some (.lst (V.int 1::V.int t.length::t.map byV)):=by rw [hl,List.map_cons,List.map_cons,List.map_map]; rfl
   clear hl
   refine ⟨_,rfl,l,_,_,_,rfl,rfl,SqL.of hl',(atI_nat (j:=0) rfl),rfl,_,rfl,iteF ?_⟩
   refine ⟨_,rfl,l,_,_,_,rfl,rfl,SqL.of hl',(atI_nat (j:=0) rfl),rfl,_,rfl,iteF ?_⟩
   refine ⟨_,rfl,l,_,_,_,rfl,rfl,SqL.of hl',(atI_nat (j:=0) rfl),rfl,_,rfl,iteF ?_⟩
   refine ⟨_,rfl,l,_,_,_,rfl,rfl,SqL.of hl',(atI_nat (j:=0) rfl),rfl,_,rfl,iteF ?_⟩
   refine ⟨_,rfl,l,_,_,_,rfl,rfl,SqL.of hl',(atI_nat (j:=0) rfl),rfl,_,rfl,iteF ?_⟩
   refine ⟨_,rfl,l,_,_,_,rfl,rfl,SqL.of hl',(atI_nat (j:=0) rfl),rfl,_,rfl,iteF ?_⟩
   refine ⟨_,rfl,p,dx,_,rfl,hp,cb_no a (by decide +kernel),_,rfl,_,rfl,l,_,rfl,SqL.of hl',fun q hq=>?_⟩
   have S1:Same H (upd H q (.lst (cutV (V.int 1::V.int t.length::t.map byV) (some 2) none))):=Same.new hq
   exact ⟨p,q,sc,t,rfl,hC.same S1,by rw [upd_same,cut2],k.same S1⟩
end
end Cw
namespace Cw
open PySem PySem.Spec PyProof.Rows L2 CwG CwR
theorem Flat.end_{f:List Int}{x:RungWaySeed.Call}(h:Flat f x):∃ c r,f=c::r∧((c=1∧∃ z,r[0]?=some z∧2+z=(f.length:Int))∨(c≠1∧∃ n,(c,n)∈argsL∧1+n=(f.length:Int))):=by
 cases h with
 | load t =>
  refine ⟨1,_,rfl,.inl ⟨rfl,(t.length:Int),rfl,?_⟩⟩
  rw [List.length_cons,List.length_cons,List.length_map]
  omega
 | path x k=>exact ⟨2,_,rfl,.inr ⟨by decide,2,by decide,rfl⟩⟩
 | border x=>exact ⟨3,_,rfl,.inr ⟨by decide,1,by decide,rfl⟩⟩
 | suffice x y k=>exact ⟨4,_,rfl,.inr ⟨by decide,3,by decide,rfl⟩⟩
 | sums k=>exact ⟨5,_,rfl,.inr ⟨by decide,1,by decide,rfl⟩⟩
 | first k l=>exact ⟨6,_,rfl,.inr ⟨by decide,2,by decide,rfl⟩⟩
 | matter k=>exact ⟨7,_,rfl,.inr ⟨by decide,1,by decide,rfl⟩⟩
theorem calls_nil{n:Nat}{l:List Int}(h:PyFlat.calls PyWqlgsb.shape n l=some []):l=[]:=by
 cases l with
 | nil=>rfl
 | cons p r =>
  cases n with
  | zero=>cases h
  | succ n =>
   unfold PyFlat.calls at h
   cases e:PyFlat.call PyWqlgsb.shape (p::r) with
   | none=>rw [e] at h; cases h
   | some u =>
    rw [e] at h
    dsimp only at h
    cases e2:PyFlat.calls PyWqlgsb.shape n u.2 with
    | none=>rw [e2] at h; cases h
    | some cs=>rw [e2] at h; cases h
theorem calls_cons{n:Nat}{l:List Int}{c:List (List Int)}{cs:List (List (List Int))}(h:PyFlat.calls PyWqlgsb.shape n l=some (c::cs)):∃ (p:Int) (r:List Int) (t:List Int) (m:Nat),l=p::r∧PyFlat.call PyWqlgsb.shape (p::r)=some (c,t)∧PyFlat.calls PyWqlgsb.shape m t=some cs:=by
 cases l with
 | nil=>cases n<;>cases h
 | cons p r =>
  cases n with
  | zero=>cases h
  | succ n =>
   unfold PyFlat.calls at h
   cases e:PyFlat.call PyWqlgsb.shape (p::r) with
   | none=>rw [e] at h; cases h
   | some u =>
    obtain ⟨c',t⟩:=u
    rw [e] at h
    dsimp only at h
    cases e2:PyFlat.calls PyWqlgsb.shape n t with
    | none=>rw [e2] at h; cases h
    | some cs' =>
     rw [e2] at h
     injection h with h
     injection h with h1 h2
     subst h1 h2
     exact ⟨p,r,t,n,rfl,e,e2⟩
theorem told_cons(a:List Int)(l:List (List Int)):PyFlat.told (a::l)=((a.length:Int)::a)++PyFlat.told l:=by
 unfold PyFlat.told
 rw [List.flatMap_cons]
theorem played_cons(s:Rung.Scheme)(c:List (List Int))(cs:List (List (List Int))){x:RungWaySeed.Call}(h:WayNeutral.callOf c=some x):PyFlat.played WayNeutral.step s (c::cs)=(RungWaySeed.step s x).2::PyFlat.played WayNeutral.step (RungWaySeed.step s x).1 cs:=by
 have e:WayNeutral.step s c=RungWaySeed.step s x:=by unfold WayNeutral.step; rw [h]
 show (WayNeutral.step s c).2::PyFlat.played WayNeutral.step (WayNeutral.step s c).1 cs=_
 rw [e]
theorem cut_at{ns f t:List Int}{i:Nat}(h:ns.drop i=f++t)(hi:i≤ns.length):cutV (ns.map V.int) (some (i:Int)) (some ((i+f.length:Nat):Int))=f.map V.int:=by
 have hl:=congrArg List.length h
 rw [List.length_drop,List.length_append] at hl
 unfold cutV
 rw [HT.sIx_nat,HT.sIx_nat,List.length_map,show min i ns.length=i by omega,show min (i+f.length) ns.length=i+f.length by omega,show i+f.length - i=f.length by omega,←List.map_drop,h,List.map_append]
 rw [show f.length=(f.map V.int).length by rw [List.length_map],List.take_left]
section
variable {P:Program} {w:World} {K:PySem.W.Frag} {mg:Str->Option Value} {base:Heap} {CC CS CB CL:Addr}
theorem NI.seq{H H':Hp}{a:Addr}{xs:List V}(h:NI H H')(hS:SqL K H a xs):SqL K H' a xs:=by
 rcases hS with (e | ⟨o,e⟩) | e
 ·exact .inl (.inl (h _ _ e (by intro _ _ _ z; cases z)))
 ·exact .inl (.inr ⟨o,h _ _ e (by intro _ _ _ z; cases z)⟩)
 ·exact .inr e
def spAnswers(K:PySem.W.Frag):Sp:=fun vs H Q _=>∃ (a:Addr) (ns:List Int),vs=[.ref a]∧SqL K H a (ns.map V.int)∧PyWqlgsb.answers_asked ns=true∧∀ (H':Hp) (p:Addr),H' p=some (.lst ((PyWqlgsb.answers ns).map V.int))->Q (.ref p) H'
theorem scAnswers:FnScope ["calls","cabinet","told","place","end","numbers"] ["calls"] (defScope sAnswers):=⟨rfl,rfl,rfl,by decide +kernel,rfl,by decide +kernel,by decide +kernel⟩
theorem ok_answers{f f1 f2 f3:Addr}{fd fd1 fd2 fd3:FuncData}(F:Fun K "answers" "answers" sAnswers f fd)(C:TxC K mg CB)(MB:Mk K CB f1)(GB:FnOk P w K mg base CX0 3 f1 fd1 ["self"] (spCabI CC CS CB))(bB:Binds K fd1 ["self"] [])
  (CE:Cal P w K mg base "end_of" ["calls","place"] (spEnd K) 1 f2 fd2) (CA:Cal P w K mg base "answer" ["cabinet","call"] (spAnswer CC CS CB) 7 f3 fd3):FnOk P w K mg base CX0 8 f fd ["calls"] (spAnswers K):=by
 refine F.ok scAnswers (fun vs H Q E h=>?_) (fun cdv A outer s H vs Q E hr h=>?_)
 ·obtain ⟨a,ns,rfl,_⟩:=h
  rfl
 ·obtain ⟨a,ns,rfl,hS,hask,k⟩:=h
  have hr1:Room 1 _:=hr.mono (by decide)
  have hr3:Room 4 _:=hr.mono (by decide)
  refine ⟨_,pss_cons (ps_set (i:=1) scAnswers.nd rfl (Or.inl rfl) (pe_make0 MB GB hr3 rfl C.mgB bB .nil pass0))
   (pss_cons (ps_set (i:=2) scAnswers.nd rfl (Or.inl rfl) (pe_lst pa_nil))
   (pss_cons (ps_set (i:=3) scAnswers.nd rfl (Or.inl rfl) pe_int)
   (pss_cons (ps_while PassesOwn.never (pt_cmpR op_lt (pv 3) (pe_callB call_len_seq (by rfl) C.len PySem.boot_len (pa_cons (pv 0) pa_nil)) (nomark _))
    (pss_cons (ps_set (i:=4) scAnswers.nd rfl (Or.inl rfl) (pe_call CE.ok hr1 rfl CE.m CE.kp CE.b .nil pass0 (pa_cons (pv 0) (pa_cons (pv 3) pa_nil))))
    (pss_cons (ps_set (i:=5) scAnswers.nd rfl (Or.inl rfl) (pe_call CA.ok hr rfl CA.m CA.kp CA.b .nil pass0 (pa_cons (pv 1) (pa_cons (pe_slice sl_list (pv 0) (po_some (pv 3)) (po_some (pv 4))) pa_nil))))
    (pss_cons (ps_expr (pe_bm PySem.F.plainAttrs_list PySem.F.slot_list_append PySem.F.type_list_append mt_append (pv 2) (pa_cons (pe_callB call_len_seq (by rfl) C.len PySem.boot_len (pa_cons (pv 5) pa_nil)) pa_nil)))
    (pss_cons (ps_expr (pe_bm PySem.F.plainAttrs_list PySem.F.slot_list_extend PySem.F.type_list_extend mt_extend (pv 2) (pa_cons (pv 5) pa_nil)))
    (pss_one (ps_set (i:=3) scAnswers.nd rfl (Or.inl rfl) (pv 4))))))))
   (pss_one (ps_ret (pv 2)))))),?_⟩
  intro p dp np ndp nep
  refine ⟨p,dp,rfl,upd_same,fun H1 hC1 kp=>⟨rfl,?_⟩⟩
  have S1:Same H H1:=Same.made np ndp kp
  refine ⟨Nat.zero_le _,fun t ht=>?_⟩
  have ft:H t=none:=S1.free ht
  have S2:Same H1 (rem (upd H1 t (.lst [])) fun b=>b=t):=fun b o e=>rem_some.mpr ⟨ne_of_none e ht,by rw [upd_ne (ne_of_none e ht)]; exact e⟩
  obtain ⟨cs0,e0,e1,e2⟩:∃ cs0,PyFlat.calls PyWqlgsb.shape ns.length ns=some cs0∧cs0.length≤300∧(cs0.map PyWqlgsb.whole).all WayNeutral.asked1=true:=by
   unfold PyWqlgsb.answers_asked PyWqlgsb.calls at hask
   cases e:PyFlat.calls PyWqlgsb.shape ns.length ns with
   | none=>rw [e] at hask; cases hask
   | some cs =>
    rw [e] at hask
    have hask:(PyFlat.atMost 300 (cs.map PyWqlgsb.whole)&&WayNeutral.asked (cs.map PyWqlgsb.whole))=true:=hask
    rw [Bool.and_eq_true] at hask
    refine ⟨cs,rfl,?_,?_⟩
    ·have:=of_decide_eq_true hask.1
     rw [List.length_map] at this
     exact this
    ·have:=hask.2
     unfold WayNeutral.asked at this
     rw [Bool.and_eq_true] at this
     exact this.2
  have ea:PyWqlgsb.answers ns=PyFlat.told (PyFlat.played WayNeutral.step WayNeutral.start (cs0.map PyWqlgsb.whole)):=by
   unfold PyWqlgsb.answers PyWqlgsb.calls
   rw [e0]
  refine ⟨fun m σ H'=>∃ (i:Nat) (s:Rung.Scheme) (cs:List (List (List Int))) (acc:List Int) (fu:Nat) (v4 v5:Option V),σ=[some (.ref a),some (.ref p),some (.ref t),some (.int i),v4,v5]∧m=cs.length∧i≤ns.length∧PyFlat.calls PyWqlgsb.shape fu (ns.drop i)=some cs∧(cs.map PyWqlgsb.whole).all WayNeutral.asked1=true∧Ws s ∧
   CabAt CC CS CB (rem H' fun b=>b=t) p s∧NI H H'∧H' t=some (.lst (acc.map V.int))∧acc.length+cs.length*1460≤438000∧PyWqlgsb.answers ns=acc++PyFlat.told (PyFlat.played WayNeutral.step s (cs.map PyWqlgsb.whole)),⟨cs0.length,0,RungWaySeed.start,cs0,[],ns.length,none,none,rfl,rfl,Nat.zero_le _,e0,e2,start_ws,hC1.same S2,(NI.of S1).trans (NI.of (Same.new ht)),upd_same,?_,?_⟩,?_⟩
  ·rw [List.length_nil]; omega
  ·rw [ea]; rfl
  rintro m σ H' ⟨i,s,cs,acc,fu,v4,v5,rfl,rfl,hi,hcs,has,W,hC,hN,hT,hlen,hans⟩
  refine ⟨_,rfl,_,rfl,a,_,rfl,.inl (hN.seq hS),_,_,rfl,rfl,_,rfl,?_⟩
  rw [List.length_map]
  cases cs with
  | nil =>
   have:=congrArg List.length (calls_nil hcs)
   rw [List.length_drop,List.length_nil] at this
   rw [decide_eq_false (show ¬ ((i:Int) < (ns.length:Nat)) by omega)]
   refine iteF ⟨_,rfl,k H' t ?_⟩
   rw [hT,hans]
   show _=some (HO.lst ((acc++[]).map V.int))
   rw [List.append_nil]
  | cons c cs =>
   obtain ⟨p0,r0,t0,m0,el,ec,ecs⟩:=calls_cons hcs
   rw [List.map_cons,List.all_cons,Bool.and_eq_true] at has
   obtain ⟨fl,x,efl,ex,hfl⟩:=call_is ec has.1
   rw [efl] at el
   have ll:=congrArg List.length el
   have fpos:=hfl.pos
   rw [List.length_drop,List.length_append] at ll
   rw [decide_eq_true (show (i:Int) < (ns.length:Nat) by omega)]
   refine iteT ?_
   have nsi:∀ j,ns[i+j]?=(fl++t0)[j]?:=fun j=>by rw [←el,List.getElem?_drop]
   have eend:∀ (Qe:VK) (Ee:XK) (He:Hp),SqL K He a (ns.map V.int)->Qe (.int ((i+fl.length:Nat):Int)) He->spEnd K [.ref a,.int i] He Qe Ee:=fun Qe Ee He hSe q=>by
    obtain ⟨c0,rr,ef,h⟩:=hfl.end_
    refine ⟨a,ns,i,c0,rfl,hSe,?_,?_⟩
    ·have:=nsi 0
     rw [Nat.add_zero] at this
     rw [this,ef]
     rfl
    ·rcases h with ⟨h1,z,hz,h2⟩ | ⟨h1,n,hn,h2⟩
     ·refine .inl ⟨h1,z,?_,?_⟩
      ·rw [nsi 1,ef,List.cons_append,List.getElem?_cons_succ,List.getElem?_append_left (List.getElem?_eq_some_iff.mp hz).1]
       exact hz
      ·rw [show (i:Int)+2+z=((i+fl.length:Nat):Int) by omega]
       exact q
     ·refine .inr ⟨h1,n,hn,?_⟩
      rw [show (i:Int)+1+n=((i+fl.length:Nat):Int) by omega]
      exact q
   refine ⟨fun σ' H''=>∃ (i:Nat) (s:Rung.Scheme) (acc:List Int) (fu:Nat) (v4 v5:Option V),σ'=[some (.ref a),some (.ref p),some (.ref t),some (.int i),v4,v5]∧i≤ns.length∧PyFlat.calls PyWqlgsb.shape fu (ns.drop i)=some cs∧(cs.map PyWqlgsb.whole).all WayNeutral.asked1=true∧Ws s ∧
    CabAt CC CS CB (rem H'' fun b=>b=t) p s∧NI H H''∧H'' t=some (.lst (acc.map V.int))∧acc.length+cs.length*1460≤438000∧PyWqlgsb.answers ns=acc++PyFlat.told (PyFlat.played WayNeutral.step s (cs.map PyWqlgsb.whole)),?_,?_⟩
   ·rintro σ' H'' ⟨i,s,acc,fu,v4,v5,h1,h2⟩
    exact ⟨cs.length,by rw [List.length_cons]; omega,i,s,cs,acc,fu,v4,v5,h1,rfl,h2⟩
   refine ⟨_,rfl,_,rfl,?_⟩
   dsimp only [tNil,List.append_nil]
   refine eend _ _ H' (hN.seq hS) ?_
   refine ⟨_,rfl,_,rfl,_,rfl,_,rfl,_,rfl,_,rfl,a,_,rfl,hN.seq hS,fun l hl=>?_⟩
   rw [cut_at el hi]
   have S3:Same H' (upd H' l (.lst (fl.map V.int))):=Same.new hl
   have hl3:upd H' l (.lst (fl.map V.int)) l=some (.lst (fl.map V.int)):=upd_same
   generalize upd H' l (.lst (fl.map V.int))=H3 at *
   have hC3:CabAt CC CS CB (rem H3 fun b=>b=t) p s:=hC.same (sRem S3)
   have hT3:=S3 _ _ hT
   refine ⟨p,l,s,fl,x,rfl,hC3.same Same.of_rem,W,hl3,hfl,fun H4 q hC4 hN4 hZ4 hq4 fq=>?_⟩
   have nqt:q≠t:=fun e=>by subst e; rw [hT3] at fq; cases fq
   have hT4:=hN4 _ _ hT3 (by intro _ _ _ z; cases z)
   have al:=ans_len W x
   have lb:sizeLine=16777216:=sizeLine_eq
   rw [List.length_cons,Nat.add_mul] at hlen
   refine ⟨_,rfl,.inl ⟨rfl,_,SqL.of hT4⟩,_,rfl,q,_,rfl,.inl (SqL.of hq4),t,_,_,rfl,rfl,hT4,?_,?_⟩
   ·rw [List.length_map]; omega
   have hT5:∀ o,upd H4 t o t=some o:=fun o=>upd_same
   refine ⟨_,rfl,.inl ⟨rfl,_,SqL.of upd_same⟩,_,rfl,t,q,_,_,rfl,rfl,upd_same,(by rw [upd_ne nqt]; exact hq4),?_,?_⟩
   ·rw [List.length_append,List.length_map,List.length_map,List.length_singleton]; omega
   refine ⟨_,rfl,i+fl.length,_,acc++(((RungWaySeed.step s x).2.length:Int)::(RungWaySeed.step s x).2),m0,_,_,rfl,by omega,?_,has.2,step_ws W x,?_,?_,?_,?_,?_⟩
   ·rw [←List.drop_drop,el,List.drop_left]
    exact ecs
   ·have h4:=hZ4 (fun b=>b=t) (fun b e=>by subst e; exact ⟨_,hT3⟩) hC3
    refine h4.same fun b o e=>?_
    obtain ⟨nb,e⟩:=rem_some.mp e
    exact rem_some.mpr ⟨nb,by rw [upd_ne nb,upd_ne nb]; exact e⟩
   ·intro b o e n
    have nb:b≠t:=ne_of_none e ft
    rw [upd_ne nb,upd_ne nb]
    exact hN4 _ _ (S3 _ _ (hN _ _ e n)) n
   ·rw [upd_same,List.map_append,List.map_cons,List.length_map,List.append_assoc]
    rfl
   ·rw [List.length_append,List.length_cons]; omega
   ·rw [hans,List.map_cons,played_cons _ _ _ ex,told_cons,List.append_assoc]
end
end Cw
namespace Cw
open PySem PySem.Spec PyProof.Rows L2 CwG CwR
section
variable {P:Program} {w:World} {K:PySem.W.Frag} {mg:Str->Option Value} {base h:Heap}
abbrev BindsAll(x qual:Str)(st:Stmt)(ps:List Str):Prop:=∀ (kV doc pm:Value) (an:Option Addr) (cdv ct:Value) (us:List Value),us.length=ps.length->bindArgs (PySem.W.fnOf x qual (defArgs st) (defBody st) (defScope st) .none kV doc pm an cdv ct) ⟨us,[]⟩=pure (ps.zip us)
structure DefK(K:PySem.W.Frag)(mg:Str->Option Value)(x:Str)(st:Stmt)(ps:List Str)(f:Addr)(fd:FuncData):Prop where
 F:Fun K x x st f fd
 m:mg x=some (.ref f)
 b:Binds K fd ps []
 bt:∀ (s:Shared) (us:List Value),us.length=ps.length->BindsTo s fd ⟨us,[]⟩ (ps.zip us)
theorem dk(X:K.In h)(G:h.Ns mainGlobals mg){x:Str}{st:Stmt}{ps:List Str}{f:Addr}{oc:Value}{od:Option Addr}{kV doc pm:Value}{an:Option Addr}{cdv ct:Value}{osl:Array (Option Value)}(a:PySem.W.nsIn K mainGlobals x=some (some (.ref f)))
  (l:K.lookup f=some ⟨oc,od,.func (PySem.W.fnOf x x (defArgs st) (defBody st) (defScope st) .none kV doc pm an cdv ct),osl⟩) (c:PySem.W.codeIn K cdv x=true) (k:PySem.W.keepIn K (.ref f)=true) (hb:BindsAll x x st ps:=by first | exact (fun _ _ _ _ _ _ us hl=>match us,hl with | [_],_=>rfl) | exact (fun _ _ _ _ _ _ us hl=>match us,hl with | [_,_],_=>rfl) | exact (fun _ _ _ _ _ _ us hl=>match us,hl with | [_,_,_],_=>rfl) | exact (fun _ _ _ _ _ _ us hl=>match us,hl with | [_,_,_,_],_=>rfl) | exact (fun _ _ _ _ _ _ us hl=>match us,hl with | [_,_,_,_,_],_=>rfl)):∃ f fd,DefK K mg x st ps f fd :=
 let F:=fun_mk (st:=st) l c k
 ⟨f,_,F,PySem.W.mg_of X G a,F.binds hb,fun _ us hl=>.of_eq (hb _ _ _ _ _ _ us hl)⟩
theorem DefK.cal{x:Str}{st:Stmt}{ps:List Str}{f:Addr}{fd:FuncData}{sp:Sp}{k:Nat}(D:DefK K mg x st ps f fd)(ok:FnOk P w K mg base CX0 k f fd ps sp):Cal P w K mg base x ps sp k f fd:=⟨ok,D.m,D.F.kp,D.b⟩
structure ClsI(K:PySem.W.Frag)(mg:Str->Option Value)(n qual:Str)(st:Stmt)(ps:List Str)(C f:Addr)(fd:FuncData):Prop where
 c:Cls K C
 M:Mk K C f
 m:mg n=some (.ref C)
 F:Fun K "__init__" qual st f fd
 b:Binds K fd ps []
theorem ck(X:K.In h)(G:h.Ns mainGlobals mg){n qual:Str}{st:Stmt}{ps:List Str}{C f:Addr}{oc:Value}{od:Option Addr}{kV doc pm:Value}{an:Option Addr}{cdv ct:Value}{osl:Array (Option Value)}(aC:PySem.W.nsIn K mainGlobals n=some (some (.ref C)))
  (pg:PySem.W.plainGet K C Str.empty=true) (hd:PySem.W.hasDictIn K C=true) (po:PySem.W.plainOver K C=true) (sa:PySem.W.findIn K (.ref C) "__setattr__"=some (some (.builtin "object.__setattr__"))) (mk:PySem.W.makesIn K C=true) (kc:PySem.W.keepIn K (.ref C)=true)
  (a:PySem.W.findIn K (.ref C) "__init__"=some (some (.ref f))) (i:PySem.W.isFn K (.ref f)=true) (l:K.lookup f=some ⟨oc,od,.func (PySem.W.fnOf "__init__" qual (defArgs st) (defBody st) (defScope st) .none kV doc pm an cdv ct),osl⟩) (c:PySem.W.codeIn K cdv qual=true) (k:PySem.W.keepIn K (.ref f)=true)
  (hb:BindsAll "__init__" qual st ps:=by first | exact (fun _ _ _ _ _ _ us hl=>match us,hl with | [_],_=>rfl) | exact (fun _ _ _ _ _ _ us hl=>match us,hl with | [_,_],_=>rfl) | exact (fun _ _ _ _ _ _ us hl=>match us,hl with | [_,_,_],_=>rfl) | exact (fun _ _ _ _ _ _ us hl=>match us,hl with | [_,_,_,_],_=>rfl) | exact (fun _ _ _ _ _ _ us hl=>match us,hl with | [_,_,_,_,_],_=>rfl)):ClsI K mg n qual st ps C f (PySem.W.fnOf "__init__" qual (defArgs st) (defBody st) (defScope st) .none kV doc pm an cdv ct) :=
 let F:=fun_mk (st:=st) l c k
 ⟨⟨pg,hd,po,sa⟩,⟨mk,a,i,kc⟩,PySem.W.mg_of X G aC,F,F.binds hb⟩
structure MetK(K:PySem.W.Frag)(C:Addr)(m qual:Str)(st:Stmt)(ps:List Str)(f:Addr)(fd:FuncData):Prop where
 F:Fun K m qual st f fd
 m:Meth K C m f
 b:Binds K fd ps []
theorem mk_{m qual:Str}{st:Stmt}{ps:List Str}{C f:Addr}{oc:Value}{od:Option Addr}{kV doc pm:Value}{an:Option Addr}{cdv ct:Value}{osl:Array (Option Value)}(a:PySem.W.findIn K (.ref C) m=some (some (.ref f)))(i:PySem.W.isFn K (.ref f)=true)
  (l:K.lookup f=some ⟨oc,od,.func (PySem.W.fnOf m qual (defArgs st) (defBody st) (defScope st) .none kV doc pm an cdv ct),osl⟩) (c:PySem.W.codeIn K cdv qual=true) (k:PySem.W.keepIn K (.ref f)=true) (hb:BindsAll m qual st ps:=by first | exact (fun _ _ _ _ _ _ us hl=>match us,hl with | [_],_=>rfl) | exact (fun _ _ _ _ _ _ us hl=>match us,hl with | [_,_],_=>rfl) | exact (fun _ _ _ _ _ _ us hl=>match us,hl with | [_,_,_],_=>rfl) | exact (fun _ _ _ _ _ _ us hl=>match us,hl with | [_,_,_,_],_=>rfl) | exact (fun _ _ _ _ _ _ us hl=>match us,hl with | [_,_,_,_,_],_=>rfl)):∃ f fd,MetK K C m qual st ps f fd :=
 let F:=fun_mk (st:=st) l c k
 ⟨f,_,F,⟨a,i,k⟩,F.binds hb⟩
theorem MetK.mth{C:Addr}{m qual:Str}{st:Stmt}{ps:List Str}{f:Addr}{fd:FuncData}{sp:Sp}{k:Nat}(D:MetK K C m qual st ps f fd)(ok:FnOk P w K mg base CX0 k f fd ps sp):Mth P w K mg base C m ps sp k f fd:=⟨ok,D.m,D.b⟩
theorem ci(X:K.In h)(G:h.Ns mainGlobals mg){x:Str}{i:Int}{t:Tok}(a:PySem.W.nsIn K mainGlobals x=some (some (.int i t))):∃ t,mg x=some (.int i t):=⟨t,PySem.W.mg_of X G a⟩
theorem cs_(X:K.In h)(G:h.Ns mainGlobals mg){x z:Str}{t:Tok}(a:PySem.W.nsIn K mainGlobals x=some (some (.str z t))):∃ t,mg x=some (.str z t):=⟨t,PySem.W.mg_of X G a⟩
theorem cn(X:K.In h)(G:h.Ns mainGlobals mg){x:Str}(a:PySem.W.nsIn K mainGlobals x=some none):mg x=none:=PySem.W.mg_none_of X G a
theorem cd_(X:K.In h)(G:h.Ns mainGlobals mg){d:Addr}{a1 a2 a3 a4 a5 a6 b1 b2 b3 b4 b5 b6:Tok}{ep:Nat}(a:PySem.W.nsIn K mainGlobals "ARGUMENTS"=some (some (.ref d)))
  (l:K.lookup d=some ⟨.type "dict",none,.dict #[⟨2,.int 2 a1,.int 2 b1⟩,⟨3,.int 3 a2,.int 1 b2⟩,⟨4,.int 4 a3,.int 3 b3⟩,⟨5,.int 5 a4,.int 1 b4⟩,⟨6,.int 6 a5,.int 2 b5⟩,⟨7,.int 7 a6,.int 1 b6⟩] ep,#[]⟩) :
  ∃ a,mg "ARGUMENTS"=some (.ref a)∧KInts K a [(2,2),(3,1),(4,3),(5,1),(6,2),(7,1)]:=by
 refine ⟨d,PySem.W.mg_of X G a,_,_,_,l,⟨rfl,rfl,rfl⟩,rfl,fun P w=>⟨fun e he=>?_,[(2,.int 2 b1),(3,.int 1 b2),(4,.int 3 b3),(5,.int 1 b4),(6,.int 2 b5),(7,.int 1 b6)],?_,?_,?_⟩⟩
 ·simp only [List.mem_toArray,List.mem_cons,List.not_mem_nil,or_false] at he
  rcases he with rfl | rfl | rfl | rfl | rfl | rfl
  ·exact ⟨2,rfl,rfl⟩
  ·exact ⟨3,rfl,rfl⟩
  ·exact ⟨4,rfl,rfl⟩
  ·exact ⟨5,rfl,rfl⟩
  ·exact ⟨6,rfl,rfl⟩
  ·exact ⟨7,rfl,rfl⟩
 ·exact .cons rfl rfl (.cons rfl rfl (.cons rfl rfl (.cons rfl rfl (.cons rfl rfl (.cons rfl rfl .nil)))))
 ·show ([2,3,4,5,6,7]:List Int).Nodup
  decide
 ·intro k v hm
  simp only [List.mem_cons,List.not_mem_nil,or_false,Prod.mk.injEq] at hm
  rcases hm with ⟨rfl,rfl⟩ | ⟨rfl,rfl⟩ | ⟨rfl,rfl⟩ | ⟨rfl,rfl⟩ | ⟨rfl,rfl⟩ | ⟨rfl,rfl⟩
  ·exact ⟨b1,rfl⟩
  ·exact ⟨b2,rfl⟩
  ·exact ⟨b3,rfl⟩
  ·exact ⟨b4,rfl⟩
  ·exact ⟨b5,rfl⟩
  ·exact ⟨b6,rfl⟩
theorem ct_(X:K.In h)(G:h.Ns mainGlobals mg){d:Addr}{od:Option Addr}{t1 t2 t3 t4:Tok}{n:Nat}{sl:Array (Option Value)}(a:PySem.W.nsIn K mainGlobals "MOST_LINES"=some (some (.ref d)))
  (l:K.lookup d=some ⟨.type "tuple",od,.seq #[.int 16 t1,.int 12 t2,.int 16 t3,.int 256 t4] n,sl⟩):∃ a,mg "MOST_LINES"=some (.ref a)∧∀ H:Hp,SqT K H a [.int 16,.int 12,.int 16,.int 256] :=
 ⟨d,PySem.W.mg_of X G a,fun H=>.inr ⟨_,_,n,l,rfl,rfl,(by show 4≤sizeLine; decide),.cons ⟨t1,rfl⟩ (.cons ⟨t2,rfl⟩ (.cons ⟨t3,rfl⟩ (.cons ⟨t4,rfl⟩ .nil)))⟩⟩
structure LinK(K:PySem.W.Frag)(mg:Str->Option Value)(C f d:Addr)(fd:FuncData)(t0 t1:Tok):Prop where
 c:Cls K C
 n1:NoAttr K C "rank"
 n2:NoAttr K C "name"
 n3:NoAttr K C "low"
 n4:NoAttr K C "high"
 n5:NoAttr K C "closer"
 M:Mk K C f
 m:mg "Line"=some (.ref C)
 F:FunD K "__init__" "Line.__init__" sLineI (.ref d) f fd
 D:Dfl K d t0 t1
theorem lk_(X:K.In h)(G:h.Ns mainGlobals mg){C f d:Addr}{t0 t1:Tok}{oc:Value}{od:Option Addr}{kV doc pm:Value}{an:Option Addr}{cdv ct:Value}{osl:Array (Option Value)}{dc:Value}{dd:Option Addr}{dn:Nat}{dsl:Array (Option Value)}(aC:PySem.W.nsIn K mainGlobals "Line"=some (some (.ref C)))
  (pg:PySem.W.plainGet K C Str.empty=true) (hd:PySem.W.hasDictIn K C=true) (po:PySem.W.plainOver K C=true) (sa:PySem.W.findIn K (.ref C) "__setattr__"=some (some (.builtin "object.__setattr__"))) (mk:PySem.W.makesIn K C=true) (kc:PySem.W.keepIn K (.ref C)=true)
  (a:PySem.W.findIn K (.ref C) "__init__"=some (some (.ref f))) (i:PySem.W.isFn K (.ref f)=true) (l:K.lookup f=some ⟨oc,od,.func (PySem.W.fnOf "__init__" "Line.__init__" (defArgs sLineI) (defBody sLineI) (defScope sLineI) (.ref d) kV doc pm an cdv ct),osl⟩) (c:PySem.W.codeIn K cdv "Line.__init__"=true) (k:PySem.W.keepIn K (.ref f)=true)
  (ld:K.lookup d=some ⟨dc,dd,.seq #[.int 0 t0,.int 0 t1,.bool false] dn,dsl⟩)
  (n1:PySem.W.findIn K (.ref C) "rank"=some none) (n2:PySem.W.findIn K (.ref C) "name"=some none) (n3:PySem.W.findIn K (.ref C) "low"=some none) (n4:PySem.W.findIn K (.ref C) "high"=some none) (n5:PySem.W.findIn K (.ref C) "closer"=some none):∃ C f d fd t0 t1,LinK K mg C f d fd t0 t1 :=
 ⟨C,f,d,_,t0,t1,⟨pg,hd,po,sa⟩,n1,n2,n3,n4,n5,⟨mk,a,i,kc⟩,PySem.W.mg_of X G aC,⟨⟨oc,od,kV,doc,pm,an,cdv,ct,osl,rfl,l,c⟩,k⟩,⟨_,_,ld,rfl⟩⟩
structure ConK(K:PySem.W.Frag)(mg:Str->Option Value)(C f:Addr)(fd:FuncData):Prop where
 I:ClsI K mg "Contact" "Contact.__init__" sContactI ["self","low","high","closer","variable"] C f fd
 n1:NoAttr K C "low"
 n2:NoAttr K C "high"
 n3:NoAttr K C "closer"
 n4:NoAttr K C "variable"
theorem ck1{C f:Addr}{fd:FuncData}(I:ClsI K mg "Contact" "Contact.__init__" sContactI ["self","low","high","closer","variable"] C f fd)(n1:PySem.W.findIn K (.ref C) "low"=some none)(n2:PySem.W.findIn K (.ref C) "high"=some none)(n3:PySem.W.findIn K (.ref C) "closer"=some none)(n4:PySem.W.findIn K (.ref C) "variable"=some none):∃ C f fd,ConK K mg C f fd:=⟨C,f,fd,I,n1,n2,n3,n4⟩
structure SchK(K:PySem.W.Frag)(mg:Str->Option Value)(C f:Addr)(fd:FuncData):Prop where
 I:ClsI K mg "Scheme" "Scheme.__init__" sSchemeI ["self","bits","contacts"] C f fd
 n1:NoAttr K C "bits"
 n2:NoAttr K C "contacts"
 n3:NoAttr K C "used"
 n4:NoAttr K C "least_conditions"
 n5:NoAttr K C "live_table"
theorem ck2{C f:Addr}{fd:FuncData}(I:ClsI K mg "Scheme" "Scheme.__init__" sSchemeI ["self","bits","contacts"] C f fd)(n1:PySem.W.findIn K (.ref C) "bits"=some none)(n2:PySem.W.findIn K (.ref C) "contacts"=some none)(n3:PySem.W.findIn K (.ref C) "used"=some none)(n4:PySem.W.findIn K (.ref C) "least_conditions"=some none)(n5:PySem.W.findIn K (.ref C) "live_table"=some none):∃ C f fd,SchK K mg C f fd:=⟨C,f,fd,I,n1,n2,n3,n4,n5⟩
structure CabK(K:PySem.W.Frag)(mg:Str->Option Value)(C f:Addr)(fd:FuncData):Prop where
 I:ClsI K mg "Cabinet" "Cabinet.__init__" sCabI ["self"] C f fd
 n1:NoAttr K C "scheme"
 m1:∃ f fd,MetK K C "load" "Cabinet.load" sLoad ["self","text"] f fd
 m2:∃ f fd,MetK K C "path" "Cabinet.path" sPath ["self","state","node"] f fd
 m3:∃ f fd,MetK K C "border" "Cabinet.border" sBorder ["self","state"] f fd
 m4:∃ f fd,MetK K C "suffice" "Cabinet.suffice" sSuffice ["self","on","off","node"] f fd
 m5:∃ f fd,MetK K C "sums" "Cabinet.sums" sSumsM ["self","node"] f fd
 m6:∃ f fd,MetK K C "first" "Cabinet.first" sFirst ["self","node","other"] f fd
 m7:∃ f fd,MetK K C "matter" "Cabinet.matter" sMatter ["self","node"] f fd
theorem ck3{C f:Addr}{fd:FuncData}(I:ClsI K mg "Cabinet" "Cabinet.__init__" sCabI ["self"] C f fd)(n1:PySem.W.findIn K (.ref C) "scheme"=some none)(m1:∃ f fd,MetK K C "load" "Cabinet.load" sLoad ["self","text"] f fd)(m2:∃ f fd,MetK K C "path" "Cabinet.path" sPath ["self","state","node"] f fd)(m3:∃ f fd,MetK K C "border" "Cabinet.border" sBorder ["self","state"] f fd)(m4:∃ f fd,MetK K C "suffice" "Cabinet.suffice" sSuffice ["self","on","off","node"] f fd)(m5:∃ f fd,MetK K C "sums" "Cabinet.sums" sSumsM ["self","node"] f fd)(m6:∃ f fd,MetK K C "first" "Cabinet.first" sFirst ["self","node","other"] f fd)(m7:∃ f fd,MetK K C "matter" "Cabinet.matter" sMatter ["self","node"] f fd):∃ C f fd,CabK K mg C f fd:=⟨C,f,fd,I,n1,m1,m2,m3,m4,m5,m6,m7⟩
theorem all_mk{CC CS CB CL fC fS fB fL dL:Addr}{fdC fdS fdB fdL:FuncData}{t0 t1:Tok}(XC:ConK K mg CC fC fdC)(XS:SchK K mg CS fS fdS)(XB:CabK K mg CB fB fdB)(XL:LinK K mg CL fL dL fdL t0 t1)(T:TxA K mg CC CS)(R:TxR K mg CL)(U:TxQ K mg)(C:TxC K mg CB)
  {f1:Addr} {fd1:FuncData} (D1:DefK K mg "is_state" sIsState ["number"] f1 fd1) {f2:Addr} {fd2:FuncData} (D2:DefK K mg "is_node" sIsNode ["number"] f2 fd2) {f3:Addr} {fd3:FuncData} (D3:DefK K mg "off_in" sOffIn ["state"] f3 fd3) {f4:Addr} {fd4:FuncData} (D4:DefK K mg "lets_through" sLets ["contact","on","off"] f4 fd4) {f5:Addr} {fd5:FuncData} (D5:DefK K mg "links_of" sLinks ["contacts","on","off"] f5 fd5) {f6:Addr} {fd6:FuncData} (D6:DefK K mg "distances" sDist ["links","start"] f6 fd6) {f7:Addr} {fd7:FuncData} (D7:DefK K mg "live_nodes" sLive ["contacts","on","off"] f7 fd7) {f8:Addr} {fd8:FuncData} (D8:DefK K mg "is_among" sAmong ["nodes","node"] f8 fd8) {f9:Addr} {fd9:FuncData} (D9:DefK K mg "first_nearer" sFirstN ["links","away","here"] f9 fd9) {f10:Addr} {fd10:FuncData} (D10:DefK K mg "way_told" sWayTold ["contacts","state","node"] f10 fd10) {f11:Addr} {fd11:FuncData} (D11:DefK K mg "border_of" sBorderOf ["contacts","state"] f11 fd11) {f12:Addr} {fd12:FuncData} (D12:DefK K mg "are_clashing" sClash ["scheme","on","off"] f12 fd12) {f13:Addr} {fd13:FuncData} (D13:DefK K mg "are_sufficient" sSuff ["scheme","on","off","node"] f13 fd13) {f14:Addr} {fd14:FuncData} (D14:DefK K mg "conditions_on" sCondsOn ["variables"] f14 fd14) {f15:Addr} {fd15:FuncData} (D15:DefK K mg "with_one_left_out" sLeftOut ["variables","on","off"] f15 fd15) {f16:Addr} {fd16:FuncData} (D16:DefK K mg "find_least_conditions" sLeast ["scheme"] f16 fd16) {f17:Addr} {fd17:FuncData} (D17:DefK K mg "sums_of" sSums ["scheme","node"] f17 fd17) {f18:Addr} {fd18:FuncData} (D18:DefK K mg "states_of" sStates ["variables"] f18 fd18) {f19:Addr} {fd19:FuncData} (D19:DefK K mg "live_by_state" sLiveTab ["scheme"] f19 fd19) {f20:Addr} {fd20:FuncData} (D20:DefK K mg "first_apart" sFirstA ["scheme","node","other"] f20 fd20) {f21:Addr} {fd21:FuncData} (D21:DefK K mg "does_matter" sMatters ["live","variable","node"] f21 fd21) {f22:Addr} {fd22:FuncData} (D22:DefK K mg "variables_that_matter" sVarsM ["scheme","node"] f22 fd22) {f23:Addr} {fd23:FuncData} (D23:DefK K mg "is_name" sIsName ["part"] f23 fd23) {f24:Addr} {fd24:FuncData} (D24:DefK K mg "read_number" sReadNum ["part"] f24 fd24) {f25:Addr} {fd25:FuncData} (D25:DefK K mg "read_node" sReadNode ["part"] f25 fd25) {f26:Addr} {fd26:FuncData} (D26:DefK K mg "is_ticks" sIsTicks ["part"] f26 fd26) {f27:Addr} {fd27:FuncData} (D27:DefK K mg "are_delays" sDelays ["parts"] f27 fd27) {f28:Addr} {fd28:FuncData} (D28:DefK K mg "is_place" sIsPlace ["parts"] f28 fd28) {f29:Addr} {fd29:FuncData} (D29:DefK K mg "read_contact" sReadCon ["name","closer","parts"] f29 fd29) {f30:Addr} {fd30:FuncData} (D30:DefK K mg "read_line" sReadLine ["text"] f30 fd30) {f31:Addr} {fd31:FuncData} (D31:DefK K mg "sign_of" sSignOf ["byte"] f31 fd31) {f32:Addr} {fd32:FuncData} (D32:DefK K mg "read_lines" sReadLines ["text"] f32 fd32) {f33:Addr} {fd33:FuncData} (D33:DefK K mg "faults_of_order" sFOrder ["lines"] f33 fd33) {f34:Addr} {fd34:FuncData} (D34:DefK K mg "faults_of_many" sFMany ["lines"] f34 fd34) {f35:Addr} {fd35:FuncData} (D35:DefK K mg "faults_of_names" sFNames ["lines"] f35 fd35) {f36:Addr} {fd36:FuncData} (D36:DefK K mg "faults_of_contacts" sFCons ["lines"] f36 fd36) {f37:Addr} {fd37:FuncData} (D37:DefK K mg "first_fault" sFirstF ["lines"] f37 fd37) {f38:Addr} {fd38:FuncData} (D38:DefK K mg "variables_of" sVars ["lines"] f38 fd38) {f39:Addr} {fd39:FuncData} (D39:DefK K mg "scheme_of" sSchemeOf ["lines"] f39 fd39) {f40:Addr} {fd40:FuncData} (D40:DefK K mg "end_of" sEndOf ["calls","place"] f40 fd40) {f41:Addr} {fd41:FuncData} (D41:DefK K mg "answer" sAnswer ["cabinet","call"] f41 fd41) {f42:Addr} {fd42:FuncData} (D42:DefK K mg "answers" sAnswers ["calls"] f42 fd42):FnOk P w K mg base CX0 8 f42 fd42 ["calls"] (spAnswers K):=by
 have MC:MkC P w K mg base CC fC fdC _ (spContactI CC):=⟨XC.I.M,ok_contactI XC.I.F T,XC.I.b⟩
 have MS:MkC P w K mg base CS fS fdS _ (spSchemeI CC CS):=⟨XS.I.M,ok_schemeI XS.I.F T,XS.I.b⟩
 have ML:MkL P w K mg base CL fL fdL t0 t1:=⟨XL.M,ok_lineI XL.F R,binds_line3 XL.F XL.D,binds_line6 XL.F XL.D⟩
 have c1:=D1.cal (P:=P) (w:=w) (base:=base) (ok_isState D1.F T)
 have c2:=D2.cal (P:=P) (w:=w) (base:=base) (ok_isNode D2.F T)
 have c3:=D3.cal (P:=P) (w:=w) (base:=base) (ok_offIn D3.F T)
 have c5:=D5.cal (P:=P) (w:=w) (base:=base) (ok_links D5.F T D4.F D4.b D4.m)
 have c6:=D6.cal (P:=P) (w:=w) (base:=base) (ok_dist D6.F T)
 have c7:=D7.cal (P:=P) (w:=w) (base:=base) (ok_live D7.F T c5 c6)
 have c8:=D8.cal (P:=P) (w:=w) (base:=base) (ok_among D8.F)
 have c9:=D9.cal (P:=P) (w:=w) (base:=base) (ok_firstN D9.F T)
 have c10:=D10.cal (P:=P) (w:=w) (base:=base) (ok_way (fE:=f9) (fdE:=fd9) D10.F T D5.F D5.b D5.m c5.ok D3.F D3.b D3.m c3.ok D6.F D6.b D6.m c6.ok D9.F D9.b D9.m c9.ok)
 have c11:=D11.cal (P:=P) (w:=w) (base:=base) (ok_border D11.F T c5 c3 c6)
 have c12:=D12.cal (P:=P) (w:=w) (base:=base) (ok_clash D12.F T)
 have c13:=D13.cal (P:=P) (w:=w) (base:=base) (ok_suff D13.F T c5 c6)
 have c14:=D14.cal (P:=P) (w:=w) (base:=base) (ok_condsOn D14.F T)
 have c15:=D15.cal (P:=P) (w:=w) (base:=base) (ok_left D15.F)
 have c16:=D16.cal (P:=P) (w:=w) (base:=base) (ok_least D16.F T c14 c7 c15)
 have c17:=D17.cal (P:=P) (w:=w) (base:=base) (ok_sums D17.F T c16 c8)
 have c18:=D18.cal (P:=P) (w:=w) (base:=base) (ok_states D18.F)
 have c19:=D19.cal (P:=P) (w:=w) (base:=base) (ok_liveTab D19.F T c18 c7 c3)
 have c20:=D20.cal (P:=P) (w:=w) (base:=base) (ok_firstA D20.F c19 c8)
 have c21:=D21.cal (P:=P) (w:=w) (base:=base) (ok_matters D21.F c8)
 have c22:=D22.cal (P:=P) (w:=w) (base:=base) (ok_varsM D22.F T c19 c21)
 have c23:=D23.cal (P:=P) (w:=w) (base:=base) (ok_isName D23.F R)
 have c24:=D24.cal (P:=P) (w:=w) (base:=base) (ok_readNum D24.F R)
 have c25:=D25.cal (P:=P) (w:=w) (base:=base) (ok_readNode D25.F R c24)
 have c26:=D26.cal (P:=P) (w:=w) (base:=base) (ok_isTicks D26.F R c24)
 have c27:=D27.cal (P:=P) (w:=w) (base:=base) (ok_delays D27.F R c26)
 have c28:=D28.cal (P:=P) (w:=w) (base:=base) (ok_isPlace D28.F R c25)
 have c29:=D29.cal (P:=P) (w:=w) (base:=base) (ok_readCon D29.F R c25 ML)
 have c30:=D30.cal (P:=P) (w:=w) (base:=base) (ok_readLine D30.F R c23 c28 c27 c29 ML)
 have c31:=D31.cal (P:=P) (w:=w) (base:=base) (ok_signOf D31.F R)
 have c32:=D32.cal (P:=P) (w:=w) (base:=base) (ok_readLines D32.F R c31 c30)
 have c33:=D33.cal (P:=P) (w:=w) (base:=base) (ok_fOrder D33.F R U)
 have c34:=D34.cal (P:=P) (w:=w) (base:=base) (ok_fMany D34.F R U)
 have c35:=D35.cal (P:=P) (w:=w) (base:=base) (ok_fNames D35.F R U)
 have c38:=D38.cal (P:=P) (w:=w) (base:=base) (ok_vars D38.F R U)
 have c36:=D36.cal (P:=P) (w:=w) (base:=base) (ok_fCons D36.F R U c38)
 have c37:=D37.cal (P:=P) (w:=w) (base:=base) (ok_firstF D37.F R U c33 c34 c35 c36)
 have c39:=D39.cal (P:=P) (w:=w) (base:=base) (ok_schemeOf D39.F T R U c38 MC MS)
 obtain ⟨g1,gd1,G1⟩:=XB.m1
 obtain ⟨g2,gd2,G2⟩:=XB.m2
 obtain ⟨g3,gd3,G3⟩:=XB.m3
 obtain ⟨g4,gd4,G4⟩:=XB.m4
 obtain ⟨g5,gd5,G5⟩:=XB.m5
 obtain ⟨g6,gd6,G6⟩:=XB.m6
 obtain ⟨g7,gd7,G7⟩:=XB.m7
 have M1:=G1.mth (P:=P) (w:=w) (base:=base) (mg:=mg) (ok_loadM (CC:=CC) (CS:=CS) G1.F C c32 c37 c39)
 have M2:=G2.mth (P:=P) (w:=w) (base:=base) (mg:=mg) (ok_path G2.F T C c1 c2 c10)
 have M3:=G3.mth (P:=P) (w:=w) (base:=base) (mg:=mg) (ok_borderM G3.F T C c1 c11)
 have M4:=G4.mth (P:=P) (w:=w) (base:=base) (mg:=mg) (ok_sufficeM G4.F T C c1 c2 c12 c13)
 have M5:=G5.mth (P:=P) (w:=w) (base:=base) (mg:=mg) (ok_sumsM G5.F T C c2 c17)
 have M6:=G6.mth (P:=P) (w:=w) (base:=base) (mg:=mg) (ok_firstM G6.F T C c2 c20)
 have M7:=G7.mth (P:=P) (w:=w) (base:=base) (mg:=mg) (ok_matterM G7.F T C c2 c22)
 have c40:=D40.cal (P:=P) (w:=w) (base:=base) (ok_end D40.F C)
 have c41:=D41.cal (P:=P) (w:=w) (base:=base) (ok_answer D41.F C M1 M2 M3 M4 M5 M6 M7)
 exact ok_answers D42.F C XB.I.M (ok_cabI XB.I.F T C MS) XB.I.b c40 c41
end
end Cw
section
namespace L2
open PySem PySem.Spec PyProof.Rows
open PySem.W (WData Codec OpenSpec Well WellAll ReadsW ReadsAllW)
mutual
inductive Dw(K:PySem.W.Frag)(H:Hp):V->WData->Prop
 | non:Dw K H .non .none
 | bl (b:Bool):Dw K H (.bl b) (.bool b)
 | int (i:Int):Dw K H (.int i) (.int i)
 | str (x:Str):Dw K H (.str x) (.str x)
 | byt (b:Array UInt8):Dw K H (.byt b) (.bytes b.toList)
 | lst {a:Addr} {xs:List V} {ds:List WData}:SqL K H a xs->DwAll K H xs ds->Dw K H (.ref a) (.list ds)
 | tup {a:Addr} {xs:List V} {ds:List WData}:SqT K H a xs->DwAll K H xs ds->Dw K H (.ref a) (.tuple ds)
inductive DwAll(K:PySem.W.Frag)(H:Hp):List V->List WData->Prop
 | nil:DwAll K H [] []
 | cons {v:V} {vs:List V} {d:WData} {ds:List WData}:Dw K H v d->DwAll K H vs ds->DwAll K H (v::vs) (d::ds)
end
theorem dw_ints{K:PySem.W.Frag}{H:Hp}:∀ ns:List Int,DwAll K H (ns.map V.int) (ns.map WData.int)
 | []=>.nil
 | n::r=>.cons (.int n) (dw_ints r)
theorem ints_dw{K:PySem.W.Frag}{H:Hp}:∀ (ns:List Int) (xs:List V),DwAll K H xs (ns.map WData.int)->xs=ns.map V.int
 | [],xs,h=>by
  cases h
  rfl
 | n::r,xs,h=>by
  cases h with
  | cons h1 h2 =>
   cases h1
   rw [ints_dw r _ h2]<;>rfl
section
variable {P:Program} {w:World} {K:PySem.W.Frag} {H:Hp} {h:Heap} {R:PySem.W.WRecords} {cl:Str->Option Addr}
theorem sqL_at{a:Addr}{xs:List V}(hok:HOk P w H h)(KX:K.In h)(q:SqL K H a xs):∃ (its:List Value) (o:Obj) (n:Nat),Vals xs its∧h.get? a=some o∧o.cls=.type "list"∧o.data=.seq its.toArray n:=by
 rcases q with q | ⟨o,its,n,e,hc,_,hd,_,hv⟩
 ·obtain ⟨_,its,n,hv,e⟩:=(show ObjOk P w H h a (.lst xs) from q.ok hok)
  exact ⟨its,_,n,hv,e,rfl,rfl⟩
 ·exact ⟨its.toList,o,n,hv,KX _ _ e,hc,by simp [hd]⟩
theorem sqT_at{a:Addr}{xs:List V}(hok:HOk P w H h)(KX:K.In h)(q:SqT K H a xs):∃ (its:List Value) (o:Obj) (n:Nat),Vals xs its∧h.get? a=some o∧o.cls=.type "tuple"∧o.data=.seq its.toArray n:=by
 rcases q with q | ⟨o,its,n,e,hc,hd,_,hv⟩
 ·obtain ⟨_,its,hv,o,e,hc,n,hd⟩:=(show ObjOk P w H h a (.tup xs) from q.ok hok)
  exact ⟨its,o,n,hv,e,hc,hd⟩
 ·exact ⟨its.toList,o,n,hv,KX _ _ e,hc,by simp [hd]⟩
mutual
theorem Dw.reads(hok:HOk P w H h)(KX:K.In h):∀ (d:WData) (v:V) (u:Value),Dw K H v d->RelV v u->∃ as,ReadsW R cl h u d as
 | .none,_,_,x,r=>by
  cases x
  cases r
  exact ⟨_,ReadsW.none⟩
 | .bool b,_,_,x,r=>by
  cases x
  cases r
  exact ⟨_,ReadsW.bool b⟩
 | .int i,_,_,x,r=>by
  cases x
  obtain ⟨t,rfl⟩:=r
  exact ⟨_,ReadsW.int i t⟩
 | .str s,_,_,x,r=>by
  cases x
  obtain ⟨t,rfl⟩:=r
  exact ⟨_,ReadsW.str s t⟩
 | .bytes b,_,_,x,r=>by
  cases x
  obtain ⟨t,rfl⟩:=r
  exact ⟨_,ReadsW.bytes _ t⟩
 | .list ds,_,_,x,r=>by
  cases x with
  | lst hs ha =>
   cases r
   obtain ⟨its,o,n,rv,ho,hc,hd⟩:=sqL_at hok KX hs
   obtain ⟨as,hr⟩:=Dw.readsAll hok KX ds _ its ha rv
   exact ⟨_,ReadsW.list ho hc hd hr⟩
 | .tuple ds,_,_,x,r=>by
  cases x with
  | tup hs ha =>
   cases r
   obtain ⟨its,o,n,rv,ho,hc,hd⟩:=sqT_at hok KX hs
   obtain ⟨as,hr⟩:=Dw.readsAll hok KX ds _ its ha rv
   exact ⟨_,ReadsW.tuple ho hc hd hr⟩
 | .float _,_,_,x,_=>by cases x
 | .dict _,_,_,x,_=>by cases x
 | .bytearray _,_,_,x,_=>by cases x
 | .set _,_,_,x,_=>by cases x
 | .frozenset _,_,_,x,_=>by cases x
 | .obj _ _,_,_,x,_=>by cases x
theorem Dw.readsAll(hok:HOk P w H h)(KX:K.In h):∀ (ds:List WData) (vs:List V) (us:List Value),DwAll K H vs ds->Vals vs us->∃ as,ReadsAllW R cl h us ds as
 | [],_,_,x,r=>by
  cases x
  cases r
  exact ⟨_,ReadsAllW.nil⟩
 | d::ds,_,_,x,r=>by
  cases x with
  | cons h1 h2 =>
   cases r with
   | cons r1 r2 =>
    obtain ⟨as,q1⟩:=Dw.reads hok KX d _ _ h1 r1
    obtain ⟨bs,q2⟩:=Dw.readsAll hok KX ds _ _ h2 r2
    exact ⟨_,ReadsAllW.cons q1 q2⟩
end
end
mutual
def plW:WData->Bool
 | .none=>true
 | .bool _=>true
 | .int _=>true
 | .str _=>true
 | .bytes _=>true
 | .list xs=>plWs xs
 | .tuple xs=>plWs xs
 | _=>false
def plWs:List WData->Bool
 | []=>true
 | x::r=>plW x&&plWs r
end
theorem plWs_map{α:Type}{f:α->WData}(h:∀ a,plW (f a)=true):∀ l:List α,plWs (l.map f)=true
 | []=>rfl
 | x::r=>by
  show (plW (f x)&&plWs (r.map f))=true
  rw [h x,plWs_map h r]<;>rfl
theorem pl_enc:∀ (c:Codec) (a:c.denote),plW (c.enc a)=true
 | .unit,_=>rfl
 | .bool,_=>rfl
 | .int _ _,_=>rfl
 | .nat _ _,_=>rfl
 | .u8,_=>rfl
 | .bytes _ _,_=>rfl
 | .text _ _ _ _,_=>rfl
 | .list _ _ c,a=>plWs_map (fun x=>pl_enc c x) a
 | .pair c d,a=>by
  show (plW (c.enc a.1)&&(plW (d.enc a.2)&&true))=true
  rw [pl_enc c a.1,pl_enc d a.2]<;>rfl
 | .triple c d e,a=>by
  show (plW (c.enc a.1)&&(plW (d.enc a.2.1)&&(plW (e.enc a.2.2)&&true)))=true
  rw [pl_enc c a.1,pl_enc d a.2.1,pl_enc e a.2.2]<;>rfl
 | .option c,none=>rfl
 | .option c,some x=>pl_enc c x
theorem pl_encAll:∀ (cs:List Codec) (a:Codec.denoteAll cs),plWs (Codec.encAll cs a)=true
 | [],_=>rfl
 | c::cs,a=>by
  show (plW (c.enc a.1)&&plWs (Codec.encAll cs a.2))=true
  rw [pl_enc c a.1,pl_encAll cs a.2]<;>rfl
theorem weight_mem:∀ {xs:List WData} {d:WData},d∈xs->d.weight≤WData.weightAll xs
 | [],d,h=>absurd h (by simp)
 | x::r,d,h=>by
  show d.weight≤x.weight+1+WData.weightAll r
  rcases List.mem_cons.mp h with e | m
  ·rw [e]
   omega
  ·have z:=weight_mem m
   omega
def toV:Value->V
 | .none=>.non
 | .bool b=>.bl b
 | .int i _=>.int i
 | .str x _=>.str x
 | .bytes b _=>.byt b
 | .ref a=>.ref a
 | _=>.non
def OkU(A:List Addr):Value->Prop
 | .none=>True
 | .bool _=>True
 | .int _ _=>True
 | .str _ _=>True
 | .bytes _ _=>True
 | .ref a=>a∈A
 | _=>False
theorem OkU.mono{A B:List Addr}(h:∀ a∈A,a∈B):∀ {u:Value},OkU A u->OkU B u:=fun {u} x=>by
 cases u with
 | ref a=>exact h a x
 | none=>trivial
 | bool b=>trivial
 | int i t=>trivial
 | str s t=>trivial
 | bytes b t=>trivial
 | _=>exact False.elim x
theorem relV_toV{A:List Addr}{u:Value}(x:OkU A u):RelV (toV u) u:=by
 cases u with
 | ref a=>rfl
 | none=>rfl
 | bool b=>rfl
 | int i t=>exact ⟨t,rfl⟩
 | str s t=>exact ⟨t,rfl⟩
 | bytes b t=>exact ⟨t,rfl⟩
 | _=>exact False.elim x
theorem vals_toV{A:List Addr}:∀ {vs:List Value},(∀ u∈vs,OkU A u)->Vals (vs.map toV) vs
 | [],_=>.nil
 | u::r,h=>.cons (relV_toV (h u (List.mem_cons_self ..))) (vals_toV fun x hx=>h x (List.mem_cons_of_mem _ hx))
def ArgOb(h:Heap)(A:List Addr)(a:Addr):Prop:=∃ vs:List Value,vs.length≤sizeLine∧(∀ u∈vs,OkU A u) ∧
 (h.get? a=some { cls:=.type "list",data:=.seq vs.toArray }∨h.get? a=some { cls:=.type "tuple",data:=.seq vs.toArray })
theorem ArgOb.mono{h:Heap}{A B:List Addr}{a:Addr}(k:∀ a∈A,a∈B)(x:ArgOb h A a):ArgOb h B a:=by
 obtain ⟨vs,h1,h2,h3⟩:=x
 exact ⟨vs,h1,fun u hu=>(h2 u hu).mono k,h3⟩
theorem wellAll_len{P:Params}{h:Heap}:∀ {vs:List Value} {ds:List WData},WellAll P h vs ds->vs.length=ds.length
 | _,_,.nil=>rfl
 | _,_,.cons _ b=>by
  show _+1=_+1
  rw [wellAll_len b]
theorem well_list{P:Params}{h:Heap}{v:Value}{ds:List WData}(x:Well P h v (.list ds)):∃ (a:Addr) (vs:List Value),v=.ref a∧h.get? a=some { cls:=.type "list",data:=.seq vs.toArray }∧WellAll P h vs ds:=by
 cases x with
 | list ho hall=>exact ⟨_,_,rfl,ho,hall⟩
theorem well_tuple{P:Params}{h:Heap}{v:Value}{ds:List WData}(x:Well P h v (.tuple ds)):∃ (a:Addr) (vs:List Value),v=.ref a∧h.get? a=some { cls:=.type "tuple",data:=.seq vs.toArray }∧WellAll P h vs ds:=by
 cases x with
 | tuple ho hall=>exact ⟨_,_,rfl,ho,hall⟩
theorem well_cons{P:Params}{h:Heap}{us:List Value}{d:WData}{ds:List WData}(x:WellAll P h us (d::ds)):∃ (v:Value) (vs:List Value),us=v::vs∧Well P h v d∧WellAll P h vs ds:=by
 cases x with
 | cons a b=>exact ⟨_,_,rfl,a,b⟩
theorem line_of{n:Nat}(h:n≤1048576):n≤sizeLine:=Nat.le_trans h (by decide)
section
variable {P:Params} {h:Heap}
mutual
theorem area_one:∀ (d:WData) (v:Value),Well P h v d->plW d=true->d.weight≤1048576->∃ A:List Addr,OkU A v∧∀ a∈A,ArgOb h A a
 | .none,_,x,_,_=>by
  cases x
  exact ⟨[],trivial,fun a m=>absurd m (by simp)⟩
 | .bool b,_,x,_,_=>by
  cases x
  exact ⟨[],trivial,fun a m=>absurd m (by simp)⟩
 | .int i,_,x,_,_=>by
  cases x
  exact ⟨[],trivial,fun a m=>absurd m (by simp)⟩
 | .str s,_,x,_,_=>by
  cases x
  exact ⟨[],trivial,fun a m=>absurd m (by simp)⟩
 | .bytes b,_,x,_,_=>by
  cases x
  exact ⟨[],trivial,fun a m=>absurd m (by simp)⟩
 | .list ds,_,x,p,z=>by
  obtain ⟨a,vs,rfl,ho,hall⟩:=well_list x
  have z2:WData.weightAll ds≤1048576:=z
  obtain ⟨A,h1,h2⟩:=area_all ds _ hall p fun d hd=>Nat.le_trans (weight_mem hd) z2
  have k:∀ b∈A,b∈a::A:=fun b hb=>List.mem_cons_of_mem _ hb
  refine ⟨a::A,List.mem_cons_self ..,fun b hb=>?_⟩
  rcases List.mem_cons.mp hb with e | m
  ·rw [e]
   exact ⟨vs,line_of (by rw [wellAll_len hall]; exact Nat.le_trans (PySem.W.length_le_weightAllW ds) z2),fun u hu=>(h1 u hu).mono k,.inl ho⟩
  ·exact (h2 b m).mono k
 | .tuple ds,_,x,p,z=>by
  obtain ⟨a,vs,rfl,ho,hall⟩:=well_tuple x
  have z2:WData.weightAll ds≤1048576:=z
  obtain ⟨A,h1,h2⟩:=area_all ds _ hall p fun d hd=>Nat.le_trans (weight_mem hd) z2
  have k:∀ b∈A,b∈a::A:=fun b hb=>List.mem_cons_of_mem _ hb
  refine ⟨a::A,List.mem_cons_self ..,fun b hb=>?_⟩
  rcases List.mem_cons.mp hb with e | m
  ·rw [e]
   exact ⟨vs,line_of (by rw [wellAll_len hall]; exact Nat.le_trans (PySem.W.length_le_weightAllW ds) z2),fun u hu=>(h1 u hu).mono k,.inr ho⟩
  ·exact (h2 b m).mono k
 | .float _,_,_,p,_=>Bool.noConfusion (show false=true from p)
 | .dict _,_,_,p,_=>Bool.noConfusion (show false=true from p)
 | .bytearray _,_,_,p,_=>Bool.noConfusion (show false=true from p)
 | .set _,_,_,p,_=>Bool.noConfusion (show false=true from p)
 | .frozenset _,_,_,p,_=>Bool.noConfusion (show false=true from p)
 | .obj _ _,_,_,p,_=>Bool.noConfusion (show false=true from p)
theorem area_all:∀ (ds:List WData) (vs:List Value),WellAll P h vs ds->plWs ds=true->(∀ d∈ds,d.weight≤1048576)->∃ A:List Addr,(∀ u∈vs,OkU A u)∧∀ a∈A,ArgOb h A a
 | [],_,x,_,_=>by
  cases x
  exact ⟨[],fun u m=>absurd m (by simp),fun a m=>absurd m (by simp)⟩
 | d::ds,_,x,p,z=>by
  obtain ⟨v,vs,rfl,x1,x2⟩:=well_cons x
  have q:plW d=true∧plWs ds=true:=Bool.and_eq_true_iff.mp p
  obtain ⟨A,a1,a2⟩:=area_one d v x1 q.1 (z d (List.mem_cons_self ..))
  obtain ⟨B,b1,b2⟩:=area_all ds vs x2 q.2 fun e he=>z e (List.mem_cons_of_mem _ he)
  have kA:∀ b∈A,b∈A++B:=fun b hb=>List.mem_append.mpr (.inl hb)
  have kB:∀ b∈B,b∈A++B:=fun b hb=>List.mem_append.mpr (.inr hb)
  refine ⟨A++B,fun u hu=>?_,fun b hb=>?_⟩
  ·rcases List.mem_cons.mp hu with e | m
   ·rw [e]
    exact a1.mono kA
   ·exact (b1 u m).mono kB
  ·rcases List.mem_append.mp hb with m | m
   ·exact (a2 b m).mono kA
   ·exact (b2 b m).mono kB
end
end
def hoOf(o:Obj):Option HO:=match o.data with
 | .seq vs _=>if (o.cls==Value.type "list")=true then some (.frz o (.lst (vs.toList.map toV))) else some (.frz o (.tup (vs.toList.map toV)))
 | _=>none
def argH(K:PySem.W.Frag)(h:Heap)(A:List Addr):Hp:=fun b=>if b∈A then (if (K.lookup b).isNone=true then (h.get? b).bind hoOf else none) else none
def OnlyF(H:Hp):Prop:=∀ b,H b=none∨∃ o u,H b=some (.frz o u)
theorem hoOf_lst(vs:List Value):hoOf { cls:=.type "list",data:=.seq vs.toArray }=some (.frz { cls:=.type "list",data:=.seq vs.toArray } (.lst (vs.map toV))):=by
 show (if (Value.type "list"==Value.type "list")=true then some (HO.frz { cls:=.type "list",data:=.seq vs.toArray } (.lst (vs.toArray.toList.map toV))) else some (HO.frz { cls:=.type "list",data:=.seq vs.toArray } (.tup (vs.toArray.toList.map toV))))=_
 rw [if_pos (beq_self_eq_true _)]
theorem hoOf_tup(vs:List Value):hoOf { cls:=.type "tuple",data:=.seq vs.toArray }=some (.frz { cls:=.type "tuple",data:=.seq vs.toArray } (.tup (vs.map toV))):=by
 show (if (Value.type "tuple"==Value.type "list")=true then some (HO.frz { cls:=.type "tuple",data:=.seq vs.toArray } (.lst (vs.toArray.toList.map toV))) else some (HO.frz { cls:=.type "tuple",data:=.seq vs.toArray } (.tup (vs.toArray.toList.map toV))))=_
 rw [if_neg (by decide)]
section
variable {P:Program} {w:World} {K:PySem.W.Frag} {h:Heap} {A:List Addr}
theorem argH_at{b:Addr}{o:Obj}(hb:b∈A)(hk:K.lookup b=none)(e:h.get? b=some o):argH K h A b=hoOf o:=by
 unfold argH
 rw [if_pos hb,hk,if_pos (show (none:Option Obj).isNone=true from rfl),e]<;>rfl
theorem of_argH{b:Addr}{u:HO}(q:argH K h A b=some u):b∈A∧K.lookup b=none:=by
 unfold argH at q
 by_cases hb:b∈A
 ·rw [if_pos hb] at q
  cases hk:K.lookup b with
  | none=>exact ⟨hb,rfl⟩
  | some o =>
   rw [hk,if_neg (by simp)] at q
   cases q
 ·rw [if_neg hb] at q
  cases q
theorem argH_is(ar:∀ a∈A,ArgOb h A a){b:Addr}{u:HO}(q:argH K h A b=some u):K.lookup b=none∧∃ vs:List Value,vs.length≤sizeLine∧(∀ u∈vs,OkU A u) ∧
  ((h.get? b=some { cls:=.type "list",data:=.seq vs.toArray }∧u=.frz { cls:=.type "list",data:=.seq vs.toArray } (.lst (vs.map toV))) ∨
   (h.get? b=some { cls:=.type "tuple",data:=.seq vs.toArray }∧u=.frz { cls:=.type "tuple",data:=.seq vs.toArray } (.tup (vs.map toV)))):=by
 obtain ⟨hb,hk⟩:=of_argH q
 obtain ⟨vs,h1,h2,h3⟩:=ar b hb
 refine ⟨hk,vs,h1,h2,?_⟩
 rcases h3 with e | e
 ·rw [argH_at hb hk e,hoOf_lst] at q
  exact .inl ⟨e,(Option.some.inj q).symm⟩
 ·rw [argH_at hb hk e,hoOf_tup] at q
  exact .inr ⟨e,(Option.some.inj q).symm⟩
theorem argH_only(ar:∀ a∈A,ArgOb h A a):OnlyF (argH K h A):=fun b=>by
 cases q:argH K h A b with
 | none=>exact .inl rfl
 | some u =>
  obtain ⟨_,vs,_,_,⟨_,e⟩ | ⟨_,e⟩⟩:=argH_is ar q
  ·exact .inr ⟨_,_,by rw [e]⟩
  ·exact .inr ⟨_,_,by rw [e]⟩
theorem argH_ok(ar:∀ a∈A,ArgOb h A a):HOk P w (argH K h A) h:=fun b u q=>by
 obtain ⟨_,vs,h1,h2,⟨e,rfl⟩ | ⟨e,rfl⟩⟩:=argH_is ar q
 ·exact ⟨e,by rw [List.length_map]; exact h1,vs,_,vals_toV h2,e⟩
 ·exact ⟨e,by rw [List.length_map]; exact h1,vs,vals_toV h2,_,e,rfl,_,rfl⟩
theorem seq_inj{c c':Value}{vs us:List Value}(e:(some { cls:=c,data:=.seq vs.toArray }:Option Obj)=some { cls:=c',data:=.seq us.toArray }):c=c'∧vs=us:=by
 have e1:=Option.some.inj e
 have e2:c=c':=congrArg Obj.cls e1
 have e3:Data.seq vs.toArray=Data.seq us.toArray:=congrArg Obj.data e1
 injection e3 with e4
 refine ⟨e2,?_⟩
 have e5:=congrArg Array.toList e4
 simpa using e5
theorem argL(KX:K.In h)(ar:∀ a∈A,ArgOb h A a){a:Addr}{vs:List Value}(ha:a∈A)(e:h.get? a=some { cls:=.type "list",data:=.seq vs.toArray }):(∀ u∈vs,OkU A u)∧SqL K (argH K h A) a (vs.map toV):=by
 obtain ⟨us,h1,h2,h3⟩:=ar a ha
 have hu:us=vs:=by
  rcases h3 with q | q
  ·rw [e] at q
   exact (seq_inj q).2.symm
  ·rw [e] at q
   exact absurd (Value.type.inj (seq_inj q).1) (by decide)
 subst hu
 refine ⟨h2,?_⟩
 cases hk:K.lookup a with
 | none=>exact .inl (.inr ⟨_,by rw [argH_at ha hk e,hoOf_lst]⟩)
 | some o =>
  have e2:=KX a o hk
  rw [e] at e2
  obtain rfl:=Option.some.inj e2
  exact .inr ⟨_,us.toArray,_,hk,rfl,rfl,rfl,by rw [List.size_toArray]; exact h1,by simpa using vals_toV h2⟩
theorem argT(KX:K.In h)(ar:∀ a∈A,ArgOb h A a){a:Addr}{vs:List Value}(ha:a∈A)(e:h.get? a=some { cls:=.type "tuple",data:=.seq vs.toArray }):(∀ u∈vs,OkU A u)∧SqT K (argH K h A) a (vs.map toV):=by
 obtain ⟨us,h1,h2,h3⟩:=ar a ha
 have hu:us=vs:=by
  rcases h3 with q | q
  ·rw [e] at q
   exact absurd (Value.type.inj (seq_inj q).1) (by decide)
  ·rw [e] at q
   exact (seq_inj q).2.symm
 subst hu
 refine ⟨h2,?_⟩
 cases hk:K.lookup a with
 | none=>exact .inl (.inr ⟨_,by rw [argH_at ha hk e,hoOf_tup]⟩)
 | some o =>
  have e2:=KX a o hk
  rw [e] at e2
  obtain rfl:=Option.some.inj e2
  exact .inr ⟨_,us.toArray,_,hk,rfl,rfl,by rw [List.size_toArray]; exact h1,by simpa using vals_toV h2⟩
mutual
theorem dw_one{Pm:Params}(KX:K.In h)(ar:∀ a∈A,ArgOb h A a):∀ (d:WData) (v:Value),Well Pm h v d->plW d=true->OkU A v->Dw K (argH K h A) (toV v) d
 | .none,_,x,_,_=>by
  cases x
  exact .non
 | .bool b,_,x,_,_=>by
  cases x
  exact .bl b
 | .int i,_,x,_,_=>by
  cases x
  exact .int i
 | .str s,_,x,_,_=>by
  cases x
  exact .str s
 | .bytes b,_,x,_,_=>by
  cases x
  have z:=Dw.byt (K:=K) (H:=argH K h A) b.toArray
  exact z
 | .list ds,_,x,p,hu=>by
  obtain ⟨a,vs,rfl,ho,hall⟩:=well_list x
  obtain ⟨h2,hs⟩:=argL KX ar hu ho
  exact .lst hs (dw_all KX ar ds _ hall p h2)
 | .tuple ds,_,x,p,hu=>by
  obtain ⟨a,vs,rfl,ho,hall⟩:=well_tuple x
  obtain ⟨h2,hs⟩:=argT KX ar hu ho
  exact .tup hs (dw_all KX ar ds _ hall p h2)
 | .float _,_,_,p,_=>Bool.noConfusion (show false=true from p)
 | .dict _,_,_,p,_=>Bool.noConfusion (show false=true from p)
 | .bytearray _,_,_,p,_=>Bool.noConfusion (show false=true from p)
 | .set _,_,_,p,_=>Bool.noConfusion (show false=true from p)
 | .frozenset _,_,_,p,_=>Bool.noConfusion (show false=true from p)
 | .obj _ _,_,_,p,_=>Bool.noConfusion (show false=true from p)
theorem dw_all{Pm:Params}(KX:K.In h)(ar:∀ a∈A,ArgOb h A a):∀ (ds:List WData) (vs:List Value),WellAll Pm h vs ds->plWs ds=true->(∀ u∈vs,OkU A u)->DwAll K (argH K h A) (vs.map toV) ds
 | [],_,x,_,_=>by
  cases x
  exact .nil
 | d::ds,_,x,p,hu=>by
  obtain ⟨v,vs,rfl,x1,x2⟩:=well_cons x
  have q:plW d=true∧plWs ds=true:=Bool.and_eq_true_iff.mp p
  exact .cons (dw_one KX ar d v x1 q.1 (hu _ (List.mem_cons_self ..))) (dw_all KX ar ds vs x2 q.2 fun u m=>hu u (List.mem_cons_of_mem _ m))
end
end
theorem spec_call{P:Program}{w:World}{K:PySem.W.Frag}{mg mb:Str->Option Value}{CX:CXT}{k:Nat}{fa:Addr}{fd:FuncData}{ps:List Str}{sp:Sp}{s₁:Shared}{vals:List Value}{ds:List WData}{R:PySem.W.WRecords}{cl:Str->Option Addr}{d0:WData}
  (KX:K.In s₁.heap) (hns:s₁.heap.Ns mainGlobals mg) (hb:s₁.heap.Ns builtinsNs mb) (hbb:∀ x:Str,x≠"__name__"->mb x=bootBuiltins x) (hlim:s₁.heap.NoLimit) (hg:s₁.gens=#[])
  (hwl:WellAll w.params s₁.heap vals ds) (hpl:plWs ds=true) (hwt:∀ d∈ds,d.weight≤1048576) (hr:Room k callerA)
  (F:∀ base:Heap,K.In base->base.Ns mainGlobals mg->FnOk P w K mg base CX k fa fd ps sp) (hbind:∀ (s:Shared) (us:List Value),us.length=ps.length->BindsTo s fd ⟨us,[]⟩ (ps.zip us)) (hlen:ds.length=ps.length)
  (hsp:∀ (H:Hp) (xs:List V),OnlyF H->DwAll K H xs ds->sp xs H (fun v H'=>Dw K H' v d0) fun _ _ _=>False)
  (hCX:∀ H e s',CX [] H s₁ (fun _ _ _=>False) e s'->False) :
  codeAny (model P w) callerA (.call (.ref fa) ⟨vals,[]⟩) (fun r s'=>∃ u as,r=.ok (.ret u)∧ReadsW R cl s'.heap u d0 as∧OldK s₁.heap s'.heap∧s'.os=s₁.os∧AllBare s'.gens) s₁:=by
 obtain ⟨A,ho,ar⟩:=area_all ds vals hwl hpl hwt
 have hO:OnlyF (argH K s₁.heap A):=argH_only ar
 have hok:HOk P w (argH K s₁.heap A) s₁.heap:=argH_ok ar
 have hS:=dw_all KX ar ds vals hwl hpl ho
 have hV:=vals_toV ho
 have hK:∀ b u,argH K s₁.heap A b=some u->K.lookup b=none:=fun b u q=>(argH_is ar q).1
 have noA:∀ {b:Addr} {o:Obj} {es:Array DictEntry} {ep:Nat},s₁.heap.get? b=some o->o.data=.dict es ep->argH K s₁.heap A b=none:=fun {b o es ep} e d=>by
  cases q:argH K s₁.heap A b with
  | none=>rfl
  | some u =>
   obtain ⟨_,vs,_,_,⟨e2,_⟩ | ⟨e2,_⟩⟩:=argH_is ar q
   ·rw [e2] at e
    cases e
    have d':Data.seq vs.toArray _=Data.dict es ep:=d
    cases d'
   ·rw [e2] at e
    cases e
    have d':Data.seq vs.toArray _=Data.dict es ep:=d
    cases d'
 generalize argH K s₁.heap A=H at hO hok hS hK noA
 have base_of:∀ {b:Addr} {o:Obj},s₁.heap.get? b=some o->H b=none->(hidT s₁.heap H).get? b=some o:=fun e n=>hidT_get e n
 have nsK:∀ {b:Addr} {m:Str->Option Value},s₁.heap.Ns b m->(hidT s₁.heap H).Ns b m:=fun {b m} ⟨o,es,ep,e,d,r⟩=>⟨o,es,ep,base_of e (noA e d),d,r⟩
 have nK:∀ b o,K.lookup b=some o->H b=none:=fun b o e=>by
  cases q:H b with
  | none=>rfl
  | some u =>
   rw [hK b u q] at e
   cases e
 have hKb:K.In (hidT s₁.heap H):=fun b o e=>base_of (KX b o e) (nK b o e)
 have hM:Mod K mg (hidT s₁.heap H):=⟨hKb,nsK hns,⟨mb,nsK hb,hbb⟩,let ⟨mc,h1,h2⟩:=hlim; ⟨mc,nsK h1,h2⟩⟩
 have e0:Env0 P w K mg (hidT s₁.heap H) callerA [] s₁ H:=⟨rfl,hM,fun b o e=>of_hidT e,Nat.le_of_eq (hidT_size _ _),trivial,fun b hb=>absurd (show b∈([]:List Addr) from hb) (by simp),hok,.of_eq hg⟩
 have hl:vals.length=ps.length:=by rw [wellAll_len hwl]; exact hlen
 refine codeAny_mono ((F _ hKb (nsK hns)).run callerA [] s₁ H ⟨vals,[]⟩ vals (vals.map toV) _ _ hr e0 (hbind s₁ vals hl) hV (hsp H _ hO hS)) fun r s' x=>?_
 cases r with
 | error e=>exact (hCX H e s' x).elim
 | ok fl =>
  cases fl with
  | next=>exact False.elim x
  | brk=>exact False.elim x
  | cont=>exact False.elim x
  | ret u =>
   obtain ⟨v,H',os,bare,un,hok',r',q⟩:=x
   have kept:∀ b o,s₁.heap.get? b=some o->s'.heap.get? b=some o:=fun b o e=>by
    cases q2:H b with
    | none=>exact un.keep b o e q2 (by intro z; exact absurd (show b∈([]:List Addr) from z) (by simp)) (by simp)
    | some u2 =>
     rcases hO b with z | ⟨ob,u3,z⟩
     ·rw [q2] at z
      cases z
     ·have z2:=un.frzs b ob _ z
      obtain ⟨e1,_⟩:=hok b _ z
      obtain ⟨e2,_⟩:=hok' b _ z2
      rw [e] at e1
      cases e1
      exact e2
   have KX':K.In s'.heap:=fun b o e=>kept b o (KX b o e)
   obtain ⟨as,hrd⟩:=Dw.reads (R:=R) (cl:=cl) hok' KX' d0 v u q r'
   exact ⟨u,as,rfl,hrd,OldK.of_keep kept,os,bare⟩
theorem layable_weight{ds:List WData}(h:WData.layableAll ds=true):∀ d∈ds,d.weight≤1048576:=fun d hd =>
 (PySem.W.layableW_iff.mp (List.all_eq_true.mp h d hd)).2.2
theorem encAll_len:∀ (cs:List Codec) (a:Codec.denoteAll cs),(Codec.encAll cs a).length=cs.length
 | [],_=>rfl
 | c::cs,a=>by
  show (Codec.encAll cs a.2).length+1=cs.length+1
  rw [encAll_len cs a.2]
theorem walk_spec{r:OpenSpec}{k:Nat}{q:Program}{loose:List Str}{XP:(Str->Option Value)->Heap->Prop}{YP:World->Heap->Prop}{d:DefRec}{K:Params->PySem.W.Frag}{CX:World->CXT}{ps:List Str}{sp:World->Sp}
  (hwell:r.wellSaid=true) (hdf:d.params.defaults=[]) (hlen:r.args.length=ps.length) (hr:Room k callerA)
  (hY:∀ (w:World) (h:Heap),YP w h->(K w.params).In h)
  (F:∀ (w:World) (mg:Str->Option Value) (fa:Addr) (h:Heap),YP w h->(K w.params).In h->h.Ns mainGlobals mg->mg d.name=some (.ref fa) ->
   ∃ fd:FuncData,(∀ (s:Shared) (us:List Value),us.length=ps.length->BindsTo s fd ⟨us,[]⟩ (ps.zip us)) ∧
    ∀ base:Heap,(K w.params).In base->base.Ns mainGlobals mg->FnOk r.prog w (K w.params) mg base (CX w) k fa fd ps (sp w))
  (hsp:∀ (w:World) (H:Hp) (xs:List V) (a:Codec.denoteAll r.args),OnlyF H->Codec.withinAll r.args a=true->Codec.app r.args r.asked a=true->DwAll (K w.params) H xs (Codec.encAll r.args a) ->
   sp w xs H (fun v H'=>Dw (K w.params) H' v (r.ret.enc (Codec.app r.args r.f a))) fun _ _ _=>False)
  (hCX:∀ (w:World) (H:Hp) (s:Shared) (e:Value) (s':Shared),CX w [] H s (fun _ _ _=>False) e s'->False) :
  PySem.W.WalkOS q loose XP YP r d [] (fun f vs=>PySem.call f vs):=by
 intro w s_0 s₁ mg mb G Y fa o pm cd doc dV kV ho hd hcd hD hmg hg args vals as hpre hlay hrd hwl hlo
 obtain ⟨a,e1,e2⟩:=PySem.W.os_pre_some hpre
 obtain ⟨e3,hwi⟩:=Codec.encAll_of_decAll r.args args a e1
 subst e3
 have KX:=hY w _ Y
 obtain ⟨fd,hb,hF⟩:=F w mg fa _ Y KX G.T.g hmg
 refine PySem.W.enter_call (codeAny_mono (spec_call (R:=[]) (cl:=classAt s_0.heap) (d0:=r.ret.enc (Codec.app r.args r.f a)) KX G.T.g G.T.b G.T.builtins G.T.nolimit hg hwl (pl_encAll _ _) (layable_weight hlay) hr hF hb (by rw [encAll_len]; exact hlen)
  (fun H xs hO hS=>hsp w H xs a hO hwi e2 hS) fun H e s'=>hCX w H s₁ e s') fun r' s' hq=>?_)
 obtain ⟨u,as',rfl,h1,h2,h3,h4⟩:=hq
 exact ⟨.inl ⟨u,_,as',rfl,fun _=>rfl,h1,(OpenSpec.post_iff hwell hwi _ _).mpr rfl,fun z=>Bool.noConfusion (show false=true from z)⟩,h2,h3,h4⟩
theorem walk_specK{r:OpenSpec}{k:Nat}{q:Program}{loose:List Str}{XP:(Str->Option Value)->Heap->Prop}{YP:World->Heap->Prop}{d:DefRec}{K:Params->PySem.W.Frag}{CX:CXT}{ps:List Str}{sp:PySem.W.Frag->Sp}
  (hwell:r.wellSaid=true) (hdf:d.params.defaults=[]) (hlen:r.args.length=ps.length) (hr:Room k callerA)
  (hY:∀ (w:World) (h:Heap),YP w h->(K w.params).In h)
  (F:∀ (w:World) (mg:Str->Option Value) (fa:Addr) (h:Heap),YP w h->(K w.params).In h->h.Ns mainGlobals mg->mg d.name=some (.ref fa) ->
   ∃ fd:FuncData,(∀ (s:Shared) (us:List Value),us.length=ps.length->BindsTo s fd ⟨us,[]⟩ (ps.zip us)) ∧
    ∀ base:Heap,(K w.params).In base->base.Ns mainGlobals mg->FnOk r.prog w (K w.params) mg base CX k fa fd ps (sp (K w.params)))
  (hsp:∀ (K:PySem.W.Frag) (H:Hp) (xs:List V) (a:Codec.denoteAll r.args),OnlyF H->Codec.withinAll r.args a=true->Codec.app r.args r.asked a=true->DwAll K H xs (Codec.encAll r.args a) ->
   sp K xs H (fun v H'=>Dw K H' v (r.ret.enc (Codec.app r.args r.f a))) fun _ _ _=>False)
  (hCX:∀ (H:Hp) (s:Shared) (e:Value) (s':Shared),CX [] H s (fun _ _ _=>False) e s'->False) :
  PySem.W.WalkOS q loose XP YP r d [] (fun f vs=>PySem.call f vs) :=
 walk_spec (K:=K) (CX:=fun _=>CX) (sp:=fun w=>sp (K w.params)) hwell hdf hlen hr hY F (fun w H xs a h1 h2 h3 h4=>hsp (K w.params) H xs a h1 h2 h3 h4) fun _ H s e s'=>hCX H s e s'
end L2
end
open PySem PySem.W PyProof.Rows
theorem PySem.Challenge.cw_contactways_s01_answers_holds : PySem.Challenge.rw_contactways_s01_answers.Holds := by
 w_on
 refine PySem.W.holds_os (q:=Cw.zVw) (loose:=Cw.zLs) (Xt:=Cw.zXt) (XP:=XL Cw.zVw []) (Yf:=(kHook Cw.zK.heap_1 Cw.zAs Cw.zAsE).obs) (Ya:=(kHook Cw.zK.heap_1 Cw.zAs Cw.zAsE).val) (YP:=(kHook Cw.zK.heap_1 Cw.zAs Cw.zAsE).says) (N:=5848) Cw.zHl (kHook Cw.zK.heap_1 Cw.zAs Cw.zAsE).of (kHook Cw.zK.heap_1 Cw.zAs Cw.zAsE).keeps (fun s e=>xl_of s (Bool.and_eq_true_iff.mp e).1) XL.keeps (by rfl) (by rfl) (by rfl) (fun s e=>recFacts_of (Bool.and_eq_true_iff.mp e).2) os_shapes (by decide +kernel) (by decide +kernel) ⟨rfl,rfl,rfl,rfl,rfl,by decide +kernel⟩ ⟨[.list [.int 3,.int 0]],by decide +kernel,by decide +kernel⟩ ?_
 k_fillS
 refine L2.walk_specK (r:=PySem.Challenge.rw_contactways_s01_answers) (k:=8) (CX:=L2.CX0) (ps:=["calls"]) (sp:=Cw.spAnswers) (by decide +kernel) rfl rfl ⟨rfl,by decide,by decide⟩ (fun w h Y=>PySem.W.kIn_of Y) ?F ?S (fun _ _ _ _ z=>z)
 case F =>
  intro w mg fa h Y KX G hmg
  refine' (fun q=>?r1) (Cw.dk KX G (x:="is_state") (st:=Cw.sIsState) (ps:=["number"]) _ _ _ _)
  all_goals try k_is
  obtain ⟨f1,fd1,D1⟩:=q
  refine' (fun q=>?r2) (Cw.dk KX G (x:="is_node") (st:=Cw.sIsNode) (ps:=["number"]) _ _ _ _)
  all_goals try k_is
  obtain ⟨f2,fd2,D2⟩:=q
  refine' (fun q=>?r3) (Cw.dk KX G (x:="off_in") (st:=Cw.sOffIn) (ps:=["state"]) _ _ _ _)
  all_goals try k_is
  obtain ⟨f3,fd3,D3⟩:=q
  refine' (fun q=>?r4) (Cw.dk KX G (x:="lets_through") (st:=Cw.sLets) (ps:=["contact","on","off"]) _ _ _ _)
  all_goals try k_is
  obtain ⟨f4,fd4,D4⟩:=q
  refine' (fun q=>?r5) (Cw.dk KX G (x:="links_of") (st:=Cw.sLinks) (ps:=["contacts","on","off"]) _ _ _ _)
  all_goals try k_is
  obtain ⟨f5,fd5,D5⟩:=q
  refine' (fun q=>?r6) (Cw.dk KX G (x:="distances") (st:=Cw.sDist) (ps:=["links","start"]) _ _ _ _)
  all_goals try k_is
  obtain ⟨f6,fd6,D6⟩:=q
  refine' (fun q=>?r7) (Cw.dk KX G (x:="live_nodes") (st:=Cw.sLive) (ps:=["contacts","on","off"]) _ _ _ _)
  all_goals try k_is
  obtain ⟨f7,fd7,D7⟩:=q
  refine' (fun q=>?r8) (Cw.dk KX G (x:="is_among") (st:=Cw.sAmong) (ps:=["nodes","node"]) _ _ _ _)
  all_goals try k_is
  obtain ⟨f8,fd8,D8⟩:=q
  refine' (fun q=>?r9) (Cw.dk KX G (x:="first_nearer") (st:=Cw.sFirstN) (ps:=["links","away","here"]) _ _ _ _)
  all_goals try k_is
  obtain ⟨f9,fd9,D9⟩:=q
  refine' (fun q=>?r10) (Cw.dk KX G (x:="way_told") (st:=Cw.sWayTold) (ps:=["contacts","state","node"]) _ _ _ _)
  all_goals try k_is
  obtain ⟨f10,fd10,D10⟩:=q
  refine' (fun q=>?r11) (Cw.dk KX G (x:="border_of") (st:=Cw.sBorderOf) (ps:=["contacts","state"]) _ _ _ _)
  all_goals try k_is
  obtain ⟨f11,fd11,D11⟩:=q
  refine' (fun q=>?r12) (Cw.dk KX G (x:="are_clashing") (st:=Cw.sClash) (ps:=["scheme","on","off"]) _ _ _ _)
  all_goals try k_is
  obtain ⟨f12,fd12,D12⟩:=q
  refine' (fun q=>?r13) (Cw.dk KX G (x:="are_sufficient") (st:=Cw.sSuff) (ps:=["scheme","on","off","node"]) _ _ _ _)
  all_goals try k_is
  obtain ⟨f13,fd13,D13⟩:=q
  refine' (fun q=>?r14) (Cw.dk KX G (x:="conditions_on") (st:=Cw.sCondsOn) (ps:=["variables"]) _ _ _ _)
  all_goals try k_is
  obtain ⟨f14,fd14,D14⟩:=q
  refine' (fun q=>?r15) (Cw.dk KX G (x:="with_one_left_out") (st:=Cw.sLeftOut) (ps:=["variables","on","off"]) _ _ _ _)
  all_goals try k_is
  obtain ⟨f15,fd15,D15⟩:=q
  refine' (fun q=>?r16) (Cw.dk KX G (x:="find_least_conditions") (st:=Cw.sLeast) (ps:=["scheme"]) _ _ _ _)
  all_goals try k_is
  obtain ⟨f16,fd16,D16⟩:=q
  refine' (fun q=>?r17) (Cw.dk KX G (x:="sums_of") (st:=Cw.sSums) (ps:=["scheme","node"]) _ _ _ _)
  all_goals try k_is
  obtain ⟨f17,fd17,D17⟩:=q
  refine' (fun q=>?r18) (Cw.dk KX G (x:="states_of") (st:=Cw.sStates) (ps:=["variables"]) _ _ _ _)
  all_goals try k_is
  obtain ⟨f18,fd18,D18⟩:=q
  refine' (fun q=>?r19) (Cw.dk KX G (x:="live_by_state") (st:=Cw.sLiveTab) (ps:=["scheme"]) _ _ _ _)
  all_goals try k_is
  obtain ⟨f19,fd19,D19⟩:=q
  refine' (fun q=>?r20) (Cw.dk KX G (x:="first_apart") (st:=Cw.sFirstA) (ps:=["scheme","node","other"]) _ _ _ _)
  all_goals try k_is
  obtain ⟨f20,fd20,D20⟩:=q
  refine' (fun q=>?r21) (Cw.dk KX G (x:="does_matter") (st:=Cw.sMatters) (ps:=["live","variable","node"]) _ _ _ _)
  all_goals try k_is
  obtain ⟨f21,fd21,D21⟩:=q
  refine' (fun q=>?r22) (Cw.dk KX G (x:="variables_that_matter") (st:=Cw.sVarsM) (ps:=["scheme","node"]) _ _ _ _)
  all_goals try k_is
  obtain ⟨f22,fd22,D22⟩:=q
  refine' (fun q=>?r23) (Cw.dk KX G (x:="is_name") (st:=Cw.sIsName) (ps:=["part"]) _ _ _ _)
  all_goals try k_is
  obtain ⟨f23,fd23,D23⟩:=q
  refine' (fun q=>?r24) (Cw.dk KX G (x:="read_number") (st:=Cw.sReadNum) (ps:=["part"]) _ _ _ _)
  all_goals try k_is
  obtain ⟨f24,fd24,D24⟩:=q
  refine' (fun q=>?r25) (Cw.dk KX G (x:="read_node") (st:=Cw.sReadNode) (ps:=["part"]) _ _ _ _)
  all_goals try k_is
  obtain ⟨f25,fd25,D25⟩:=q
  refine' (fun q=>?r26) (Cw.dk KX G (x:="is_ticks") (st:=Cw.sIsTicks) (ps:=["part"]) _ _ _ _)
  all_goals try k_is
  obtain ⟨f26,fd26,D26⟩:=q
  refine' (fun q=>?r27) (Cw.dk KX G (x:="are_delays") (st:=Cw.sDelays) (ps:=["parts"]) _ _ _ _)
  all_goals try k_is
  obtain ⟨f27,fd27,D27⟩:=q
  refine' (fun q=>?r28) (Cw.dk KX G (x:="is_place") (st:=Cw.sIsPlace) (ps:=["parts"]) _ _ _ _)
  all_goals try k_is
  obtain ⟨f28,fd28,D28⟩:=q
  refine' (fun q=>?r29) (Cw.dk KX G (x:="read_contact") (st:=Cw.sReadCon) (ps:=["name","closer","parts"]) _ _ _ _)
  all_goals try k_is
  obtain ⟨f29,fd29,D29⟩:=q
  refine' (fun q=>?r30) (Cw.dk KX G (x:="read_line") (st:=Cw.sReadLine) (ps:=["text"]) _ _ _ _)
  all_goals try k_is
  obtain ⟨f30,fd30,D30⟩:=q
  refine' (fun q=>?r31) (Cw.dk KX G (x:="sign_of") (st:=Cw.sSignOf) (ps:=["byte"]) _ _ _ _)
  all_goals try k_is
  obtain ⟨f31,fd31,D31⟩:=q
  refine' (fun q=>?r32) (Cw.dk KX G (x:="read_lines") (st:=Cw.sReadLines) (ps:=["text"]) _ _ _ _)
  all_goals try k_is
  obtain ⟨f32,fd32,D32⟩:=q
  refine' (fun q=>?r33) (Cw.dk KX G (x:="faults_of_order") (st:=Cw.sFOrder) (ps:=["lines"]) _ _ _ _)
  all_goals try k_is
  obtain ⟨f33,fd33,D33⟩:=q
  refine' (fun q=>?r34) (Cw.dk KX G (x:="faults_of_many") (st:=Cw.sFMany) (ps:=["lines"]) _ _ _ _)
  all_goals try k_is
  obtain ⟨f34,fd34,D34⟩:=q
  refine' (fun q=>?r35) (Cw.dk KX G (x:="faults_of_names") (st:=Cw.sFNames) (ps:=["lines"]) _ _ _ _)
  all_goals try k_is
  obtain ⟨f35,fd35,D35⟩:=q
  refine' (fun q=>?r36) (Cw.dk KX G (x:="faults_of_contacts") (st:=Cw.sFCons) (ps:=["lines"]) _ _ _ _)
  all_goals try k_is
  obtain ⟨f36,fd36,D36⟩:=q
  refine' (fun q=>?r37) (Cw.dk KX G (x:="first_fault") (st:=Cw.sFirstF) (ps:=["lines"]) _ _ _ _)
  all_goals try k_is
  obtain ⟨f37,fd37,D37⟩:=q
  refine' (fun q=>?r38) (Cw.dk KX G (x:="variables_of") (st:=Cw.sVars) (ps:=["lines"]) _ _ _ _)
  all_goals try k_is
  obtain ⟨f38,fd38,D38⟩:=q
  refine' (fun q=>?r39) (Cw.dk KX G (x:="scheme_of") (st:=Cw.sSchemeOf) (ps:=["lines"]) _ _ _ _)
  all_goals try k_is
  obtain ⟨f39,fd39,D39⟩:=q
  refine' (fun q=>?r40) (Cw.dk KX G (x:="end_of") (st:=Cw.sEndOf) (ps:=["calls","place"]) _ _ _ _)
  all_goals try k_is
  obtain ⟨f40,fd40,D40⟩:=q
  refine' (fun q=>?r41) (Cw.dk KX G (x:="answer") (st:=Cw.sAnswer) (ps:=["cabinet","call"]) _ _ _ _)
  all_goals try k_is
  obtain ⟨f41,fd41,D41⟩:=q
  refine' (fun q=>?r42) (Cw.dk KX G (x:="answers") (st:=Cw.sAnswers) (ps:=["calls"]) _ _ _ _)
  all_goals try k_is
  obtain ⟨f42,fd42,D42⟩:=q
  refine' (fun q=>?r43) (Cw.ck1 (Cw.ck KX G (n:="Contact") (qual:="Contact.__init__") (st:=Cw.sContactI) (ps:=["self","low","high","closer","variable"]) _ _ _ _ _ _ _ _ _ _ _ _) _ _ _ _)
  all_goals try k_is
  obtain ⟨CC,fC,fdC,XC⟩:=q
  refine' (fun q=>?r44) (Cw.ck2 (Cw.ck KX G (n:="Scheme") (qual:="Scheme.__init__") (st:=Cw.sSchemeI) (ps:=["self","bits","contacts"]) _ _ _ _ _ _ _ _ _ _ _ _) _ _ _ _ _)
  all_goals try k_is
  obtain ⟨CS,fS,fdS,XS⟩:=q
  refine' (fun q=>?r45) (Cw.lk_ KX G _ _ _ _ _ _ _ _ _ _ _ _ _ _ _ _ _ _)
  all_goals try k_is
  obtain ⟨CL,fL,dL,fdL,t0,t1,XL⟩:=q
  refine' (fun q=>?r46) (Cw.ck3 (Cw.ck KX G (n:="Cabinet") (qual:="Cabinet.__init__") (st:=Cw.sCabI) (ps:=["self"]) _ _ _ _ _ _ _ _ _ _ _ _) _ (Cw.mk_ (m:="load") (qual:="Cabinet.load") (st:=Cw.sLoad) (ps:=["self","text"]) _ _ _ _ _) (Cw.mk_ (m:="path") (qual:="Cabinet.path") (st:=Cw.sPath) (ps:=["self","state","node"]) _ _ _ _ _) (Cw.mk_ (m:="border") (qual:="Cabinet.border") (st:=Cw.sBorder) (ps:=["self","state"]) _ _ _ _ _) (Cw.mk_ (m:="suffice") (qual:="Cabinet.suffice") (st:=Cw.sSuffice) (ps:=["self","on","off","node"]) _ _ _ _ _) (Cw.mk_ (m:="sums") (qual:="Cabinet.sums") (st:=Cw.sSumsM) (ps:=["self","node"]) _ _ _ _ _) (Cw.mk_ (m:="first") (qual:="Cabinet.first") (st:=Cw.sFirst) (ps:=["self","node","other"]) _ _ _ _ _) (Cw.mk_ (m:="matter") (qual:="Cabinet.matter") (st:=Cw.sMatter) (ps:=["self","node"]) _ _ _ _ _))
  all_goals try k_is
  obtain ⟨CB,fB,fdB,XB⟩:=q
  refine' (fun q=>?r47) (Cw.ci KX G (x:="RAIL") (i:=0) _)
  all_goals try k_is
  obtain ⟨tk_RAIL,hRAIL⟩:=q
  refine' (fun q=>?r48) (Cw.ci KX G (x:="NODES") (i:=64) _)
  all_goals try k_is
  obtain ⟨tk_NODES,hNODES⟩:=q
  refine' (fun q=>?r49) (Cw.ci KX G (x:="GREATEST_STATE") (i:=4294967295) _)
  all_goals try k_is
  obtain ⟨tk_GREATEST_STATE,hGREATEST_STATE⟩:=q
  refine' (fun q=>?r50) (Cw.ci KX G (x:="INPUTS") (i:=0) _)
  all_goals try k_is
  obtain ⟨tk_INPUTS,hINPUTS⟩:=q
  refine' (fun q=>?r51) (Cw.ci KX G (x:="RELAYS") (i:=1) _)
  all_goals try k_is
  obtain ⟨tk_RELAYS,hRELAYS⟩:=q
  refine' (fun q=>?r52) (Cw.ci KX G (x:="LAMPS") (i:=2) _)
  all_goals try k_is
  obtain ⟨tk_LAMPS,hLAMPS⟩:=q
  refine' (fun q=>?r53) (Cw.ci KX G (x:="CONTACTS") (i:=3) _)
  all_goals try k_is
  obtain ⟨tk_CONTACTS,hCONTACTS⟩:=q
  refine' (fun q=>?r54) (Cw.ci KX G (x:="LONGEST_NAME") (i:=12) _)
  all_goals try k_is
  obtain ⟨tk_LONGEST_NAME,hLONGEST_NAME⟩:=q
  refine' (fun q=>?r55) (Cw.ci KX G (x:="LONGEST_NUMBER") (i:=5) _)
  all_goals try k_is
  obtain ⟨tk_LONGEST_NUMBER,hLONGEST_NUMBER⟩:=q
  refine' (fun q=>?r56) (Cw.ci KX G (x:="MOST_TICKS") (i:=65535) _)
  all_goals try k_is
  obtain ⟨tk_MOST_TICKS,hMOST_TICKS⟩:=q
  refine' (fun q=>?r57) (Cw.ci KX G (x:="NO_SHAPE") (i:=1) _)
  all_goals try k_is
  obtain ⟨tk_NO_SHAPE,hNO_SHAPE⟩:=q
  refine' (fun q=>?r58) (Cw.ci KX G (x:="OUT_OF_ORDER") (i:=2) _)
  all_goals try k_is
  obtain ⟨tk_OUT_OF_ORDER,hOUT_OF_ORDER⟩:=q
  refine' (fun q=>?r59) (Cw.ci KX G (x:="TOO_MANY") (i:=3) _)
  all_goals try k_is
  obtain ⟨tk_TOO_MANY,hTOO_MANY⟩:=q
  refine' (fun q=>?r60) (Cw.ci KX G (x:="GIVEN_BEFORE") (i:=4) _)
  all_goals try k_is
  obtain ⟨tk_GIVEN_BEFORE,hGIVEN_BEFORE⟩:=q
  refine' (fun q=>?r61) (Cw.ci KX G (x:="NOBODY") (i:=5) _)
  all_goals try k_is
  obtain ⟨tk_NOBODY,hNOBODY⟩:=q
  refine' (fun q=>?r62) (Cw.ci KX G (x:="FIRST_RELAY") (i:=16) _)
  all_goals try k_is
  obtain ⟨tk_FIRST_RELAY,hFIRST_RELAY⟩:=q
  refine' (fun q=>?r63) (Cw.ci KX G (x:="OUT_OF_RANGE") (i:=(-1)) _)
  all_goals try k_is
  obtain ⟨tk_OUT_OF_RANGE,hOUT_OF_RANGE⟩:=q
  refine' (fun q=>?r64) (Cw.ci KX G (x:="NOT_SO") (i:=(-5)) _)
  all_goals try k_is
  obtain ⟨tk_NOT_SO,hNOT_SO⟩:=q
  refine' (fun q=>?r65) (Cw.ci KX G (x:="TOO_MANY_USED") (i:=(-9)) _)
  all_goals try k_is
  obtain ⟨tk_TOO_MANY_USED,hTOO_MANY_USED⟩:=q
  refine' (fun q=>?r66) (Cw.ci KX G (x:="MOST_BYTES") (i:=20000) _)
  all_goals try k_is
  obtain ⟨tk_MOST_BYTES,hMOST_BYTES⟩:=q
  refine' (fun q=>?r67) (Cw.ci KX G (x:="MOST_USED_FOR_SUMS") (i:=6) _)
  all_goals try k_is
  obtain ⟨tk_MOST_USED_FOR_SUMS,hMOST_USED_FOR_SUMS⟩:=q
  refine' (fun q=>?r68) (Cw.ci KX G (x:="MOST_USED_FOR_STATES") (i:=8) _)
  all_goals try k_is
  obtain ⟨tk_MOST_USED_FOR_STATES,hMOST_USED_FOR_STATES⟩:=q
  refine' (fun q=>?r69) (Cw.ci KX G (x:="LOAD") (i:=1) _)
  all_goals try k_is
  obtain ⟨tk_LOAD,hLOAD⟩:=q
  refine' (fun q=>?r70) (Cw.ci KX G (x:="PATH") (i:=2) _)
  all_goals try k_is
  obtain ⟨tk_PATH,hPATH⟩:=q
  refine' (fun q=>?r71) (Cw.ci KX G (x:="BORDER") (i:=3) _)
  all_goals try k_is
  obtain ⟨tk_BORDER,hBORDER⟩:=q
  refine' (fun q=>?r72) (Cw.ci KX G (x:="SUFFICE") (i:=4) _)
  all_goals try k_is
  obtain ⟨tk_SUFFICE,hSUFFICE⟩:=q
  refine' (fun q=>?r73) (Cw.ci KX G (x:="SUMS") (i:=5) _)
  all_goals try k_is
  obtain ⟨tk_SUMS,hSUMS⟩:=q
  refine' (fun q=>?r74) (Cw.ci KX G (x:="FIRST") (i:=6) _)
  all_goals try k_is
  obtain ⟨tk_FIRST,hFIRST⟩:=q
  refine' (fun q=>?r75) (Cw.ci KX G (x:="MATTER") (i:=7) _)
  all_goals try k_is
  obtain ⟨tk_MATTER,hMATTER⟩:=q
  refine' (fun q=>?r76) (Cw.cs_ KX G (x:="LETTERS") (z:=Cw.LETTERS) _)
  all_goals try k_is
  obtain ⟨tk_LETTERS,hLETTERS⟩:=q
  refine' (fun q=>?r77) (Cw.cs_ KX G (x:="DIGITS") (z:=Cw.DIGITS) _)
  all_goals try k_is
  obtain ⟨tk_DIGITS,hDIGITS⟩:=q
  refine' (fun n_range=>?r78) (Cw.cn KX G (x:="range") _)
  all_goals try k_is
  refine' (fun n_enumerate=>?r79) (Cw.cn KX G (x:="enumerate") _)
  all_goals try k_is
  refine' (fun n_len=>?r80) (Cw.cn KX G (x:="len") _)
  all_goals try k_is
  refine' (fun n_set=>?r81) (Cw.cn KX G (x:="set") _)
  all_goals try k_is
  refine' (fun n_sorted=>?r82) (Cw.cn KX G (x:="sorted") _)
  all_goals try k_is
  refine' (fun n_sum=>?r83) (Cw.cn KX G (x:="sum") _)
  all_goals try k_is
  refine' (fun n_all=>?r84) (Cw.cn KX G (x:="all") _)
  all_goals try k_is
  refine' (fun n_int=>?r85) (Cw.cn KX G (x:="int") _)
  all_goals try k_is
  refine' (fun n_max=>?r86) (Cw.cn KX G (x:="max") _)
  all_goals try k_is
  refine' (fun n_min=>?r87) (Cw.cn KX G (x:="min") _)
  all_goals try k_is
  refine' (fun q=>?r88) (Cw.cd_ KX G _ _)
  all_goals try k_is
  obtain ⟨aA,mA,kA⟩:=q
  refine' (fun q=>?r89) (Cw.ct_ KX G _ _)
  all_goals try k_is
  obtain ⟨aM,mM,kM⟩:=q
  have T:Cw.TxA _ mg CC CS:=⟨XC.I.c,XC.n1,XC.n2,XC.n3,XC.n4,XC.I.m,XS.I.c,XS.n1,XS.n2,XS.n3,XS.n4,XS.n5,XS.I.m,⟨_,hRAIL⟩,⟨_,hNODES⟩,⟨_,hGREATEST_STATE⟩,n_range,n_enumerate,n_len,n_set,n_sorted,n_sum⟩
  have R:Cw.TxR _ mg CL:=⟨XL.c,XL.n1,XL.n2,XL.n3,XL.n4,XL.n5,XL.m,⟨_,hINPUTS⟩,⟨_,hRELAYS⟩,⟨_,hLAMPS⟩,⟨_,hCONTACTS⟩,⟨_,hLETTERS⟩,⟨_,hDIGITS⟩,⟨_,hLONGEST_NAME⟩,⟨_,hLONGEST_NUMBER⟩,⟨_,hMOST_TICKS⟩,⟨_,hNODES⟩,n_len,n_all,n_int⟩
  have U:Cw.TxQ _ mg:=⟨⟨aM,mM,kM⟩,⟨_,hNO_SHAPE⟩,⟨_,hOUT_OF_ORDER⟩,⟨_,hTOO_MANY⟩,⟨_,hGIVEN_BEFORE⟩,⟨_,hNOBODY⟩,⟨_,hFIRST_RELAY⟩,n_enumerate,n_max,n_min,n_sum⟩
  have C:Cw.TxC _ mg CB:=⟨XB.I.c,XB.n1,XB.I.m,⟨_,hOUT_OF_RANGE⟩,⟨_,hNOT_SO⟩,⟨_,hTOO_MANY_USED⟩,⟨_,hMOST_BYTES⟩,⟨_,hMOST_USED_FOR_SUMS⟩,⟨_,hMOST_USED_FOR_STATES⟩,⟨_,hLOAD⟩,⟨_,hPATH⟩,⟨_,hBORDER⟩,⟨_,hSUFFICE⟩,⟨_,hSUMS⟩,⟨_,hFIRST⟩,⟨_,hMATTER⟩,⟨aA,mA,kA⟩,n_len⟩
  have e:=hmg.symm.trans D42.m
  cases e
  exact ⟨fd42,D42.bt,fun base _ _=>Cw.all_mk XC XS XB XL T R U C D1 D2 D3 D4 D5 D6 D7 D8 D9 D10 D11 D12 D13 D14 D15 D16 D17 D18 D19 D20 D21 D22 D23 D24 D25 D26 D27 D28 D29 D30 D31 D32 D33 D34 D35 D36 D37 D38 D39 D40 D41 D42⟩
 case S =>
  intro K H xs a hO hwi hask hx
  cases hx with
  | cons h1 h2 =>
   cases h2
   cases h1 with
   | lst hs ha =>
    have e:=L2.ints_dw a.1 _ ha
    subst e
    have q:PyWqlgsb.answers_asked a.1=true:=hask
    exact ⟨_,a.1,rfl,hs,q,fun H' p hp=>.lst (L2.SqL.of hp) (L2.dw_ints _)⟩
#print axioms PySem.Challenge.cw_contactways_s01_answers_holds
