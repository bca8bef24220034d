import PyProof.Rows.All
import Wide.All
import OpenK.AllK
import Open.SpecLaws
import KE.OsHead
import KE.OsGo
import PySem.Challenge.RW_sheetsheld_s01_answers
import Wide.FinOn
import PyProof.EqAt
import PyProof.EqKinds
import PyProof.TupleCall
import KE.BitLaws
import KE.KTryDeep
import PySem.SetOps
import PyProof.TupleKey
import PyProof.SetNew
import PyProof.IsRules
import PyProof.Rows.SetFrom
import PyProof.WalksMore
set_option Elab.async false
set_option linter.all false
set_option maxRecDepth 100000
abbrev Fg:=PySem.W.Frag
abbrev MG:=PySem.Str→Option PySem.Value
namespace Hd
open PySem PySem.W
def nx (tb:String→Option Builtin) (p:Program) (w:World) (a:SharedT×Thread):Option (SharedT×Thread):=stepT (denote tb) p w a.1 a.2
def impT (tb:String→Option Builtin) (p:Program) (w:World):Nat→SharedT×Thread→Option SharedT
 | 0,_=>none
 | k+1,a=>match a.2.atExitBegin with
  | none=>(nx tb p w a).bind (impT tb p w k)
  | some []=>some a.1
  | some _=>none
def topT (tb:String→Option Builtin) (p:Program) (w:World) (m:Nat) (an:Option Value):Nat→SharedT×Thread→Option SharedT
 | 0,_=>none
 | k+1,a=>cond (through a.2) (some a.1) (cond (stepOk m an a.2) ((nx tb p w a).bind (topT tb p w m an k)) none)
section
variable {tb:String→Option Builtin}{p:Program}{w:World}{m:Nat}{an:Option Value}
theorem impT_of:∀ (k:Nat) (a:SharedT×Thread) (r:SharedT),impT tb p w k a=some r→importEnds tb p w k a.1.abs a.2=some r.abs:=by
 intro k
 induction k with
 | zero=>intro a r e; cases e
 | succ k ih =>
  rintro ⟨u,v⟩ r e
  unfold impT at e
  unfold importEnds
  dsimp only at e ⊢
  cases q:v.atExitBegin with
  | some l=>rw [q] at e; cases l <;> cases e <;> rfl
  | none =>
   rw [q] at e
   obtain ⟨⟨u',v'⟩,e1,e2⟩:=Option.bind_eq_some_iff.mp e
   dsimp only
   rw [stepT_spec e1]
   exact ih _ _ e2
theorem topT_of:∀ (k:Nat) (a:SharedT×Thread) (r:SharedT),topT tb p w m an k a=some r→topRun tb p w m an k a.1.abs a.2=some r.abs:=by
 intro k
 induction k with
 | zero=>intro a r e; cases e
 | succ k ih =>
  rintro ⟨u,v⟩ r e
  unfold topT at e
  unfold topRun
  dsimp only at e ⊢
  cases q:through v with
  | true=>rw [q] at e; cases e; rfl
  | false =>
   rw [q] at e
   cases q2:stepOk m an v with
   | false=>rw [q2] at e; cases e
   | true =>
    rw [q2] at e
    obtain ⟨⟨u',v'⟩,e1,e2⟩:=Option.bind_eq_some_iff.mp e
    dsimp only
    rw [stepT_spec e1]
    exact ih _ _ e2
end
def lay:List Obj→BT→Nat→Option (BT×Nat)
 | [],t,n=>some (t,n)
 | o::l,t,n=>match ((t.ins n o).get n).isSome with
  | true=>lay l (t.ins n o) (n+1)
  | false=>none
theorem lay_of (life:Life):∀ {l:List Obj}{t t':BT}{n n':Nat},lay l t n=some (t',n')→absHeap t' n' life=⟨⟨(absHeap t n life).objs.toList++l⟩,life⟩
 | [],t,t',n,n',h=>by cases h; simp [absHeap]
 | o::l,t,t',n,n',h=>by
  unfold lay at h
  cases hs:((t.ins n o).get n).isSome with
  | false=>rw [hs] at h; cases h
  | true =>
   rw [hs] at h
   rw [lay_of life h,absHeap_ins hs]
   simp [Heap.push]
def toT (s:Shared):Option SharedT:=match lay s.heap.objs.toList .nil 0 with
 | some (t,n)=>some ⟨t,n,s.heap.life,s.gens,s.drawn,s.toks,s.os⟩
 | none=>none
theorem toT_of {s:Shared}{r:SharedT} (h:toT s=some r):r.abs=s:=by
 unfold toT at h
 cases hl:lay s.heap.objs.toList .nil 0 with
 | none=>rw [hl] at h; cases h
 | some q =>
  obtain ⟨t,n⟩:=q
  rw [hl] at h
  cases h
  obtain ⟨⟨o,life⟩,gens,drawn,toks,os⟩:=s
  have e:=lay_of life hl
  show (⟨absHeap t n life,gens,drawn,toks,os⟩:Shared)=_
  rw [e]
  rfl
end Hd
namespace Hd
open PySem PySem.W
def frL:List Obj→Nat→Frag
 | [],_=>[]
 | o::l,n=>match alive o with
  | some o=>(n,o)::frL l (n+1)
  | none=>frL l (n+1)
theorem frL_of:∀ {l:List Obj}{n a:Nat}{o:Obj},(frL l n).lookup a=some o→∃ i b,a=n+i∧l[i]? = some b∧alive b=some o
 | [],n,a,o,h=>by cases h
 | b::l,n,a,o,h=>by
  unfold frL at h
  cases e:alive b with
  | none =>
   rw [e] at h
   obtain ⟨i,c,h1,h2,h3⟩:=frL_of h
   exact ⟨i+1,c,by omega,h2,h3⟩
  | some b' =>
   rw [e] at h
   dsimp only at h
   rw [List.lookup_cons] at h
   cases q:a == n with
   | true =>
    rw [q] at h
    cases h
    exact ⟨0,b,by simpa using q,rfl,e⟩
   | false =>
    rw [q] at h
    obtain ⟨i,c,h1,h2,h3⟩:=frL_of h
    exact ⟨i+1,c,by omega,h2,h3⟩
def fr (h:Heap):Frag:=frL h.objs.toList 0
theorem fr_in (h:Heap):(fr h).In h:=fun a o e=>by
 obtain ⟨i,b,h1,h2,h3⟩:=frL_of e
 obtain rfl:a=i:=h1.trans (Nat.zero_add i)
 unfold Heap.get?
 rw [←Array.getElem?_toList,h2,←h3]
 obtain ⟨c,d,dt,sl⟩:=b
 cases dt <;> rfl
end Hd
namespace Hd
open PySem PySem.W PyProof.Rows
def runT (p:Program) (w:World) (N:Nat):Option (Shared×SharedT):=match toT (start (opening p)).1 with
 | none=>none
 | some s=>match impT treeTable (opening p) w N (s,(start (opening p)).2) with
  | none=>none
  | some s1=>match fenceModules? p s1.abs with
   | none=>none
   | some s2=>match toT s2 with
    | none=>none
    | some s3=>match topT treeTable p w s2.heap.objs.size (s2.heap.nsMap mainGlobals "__annotations__") N (s3,topStub p) with
      | none=>none
      | some s4=>some (s2,s4)
def at_ {α:Type} (p:Program) (w:World) (N:Nat) (f:Shared→Shared→α):Option α:=match runT p w N with
 | some (s,t)=>some (f s t.abs)
 | none=>none
theorem at_of {α:Type}{p:Program}{w:World}{N:Nat}{f:Shared→Shared→α}{a:α} (h:at_ p w N f=some a):∃ s t,runT p w N=some (s,t)∧f s t.abs=a:=by
 unfold at_ at h
 split at h
 ·rename_i s t e; exact ⟨s,t,e,Option.some.inj h⟩
 ·cases h
def lookA (p q:Program) (s t:Shared):=(s.heap.isNs mainGlobals && s.gens.size == 0,staticsOk (importedModules p.main.body) s.heap t.heap && namesBound p t.heap && gensDone t && laidKept s.heap t.heap,
 seen ((recsOf q).map (·.name)) (ownsOf q) [] { t with gens:=#[] },t.heap.bltView,t.heap.keysOk (looseW q []) ((recsOf q).map (·.name)) ((litsOf q).map (·.1)) ((clssOf q (looseW q [])).map (·.name)),tabsOk q t)
def goodA (q:Program):=(true,true,expectedOf q,bltViewBooted,true,true)
def lookB (p q:Program) (Xt:Shared→Bool) (_ t:Shared):=(t.heap.accountedOkI (importedModules p.main.body) && t.heap.isNs mainGlobals && t.heap.isNs builtinsNs && tablesOk q t.heap && Xt t && t.gens.size == 0,
 pinSeenD q (drecsOf q) t,plainSeenE q (looseW q []) t,plainSeenD q [] t,wideSeen q t,clsSeenW q [] t)
def goodB (q:Program):=(true,pinGoodD (drecsOf q),plainGoodE q (looseW q []),plainGoodD q [],wideGood q,clsGoodW q [])
theorem left_of {p q:Program}{Xt:Shared→Bool}{α:Type}{Yf:Shared→α}{Ya:α}{N:Nat}
  (hA:∀ w,at_ p w N (lookA p q)=some (goodA q)) (hB:∀ w,at_ p w N (lookB p q Xt)=some (goodB q)) (hC:∀ w,at_ p w N (fun _ t=>Yf t)=some Ya):LeftO p q [] Xt Yf (fun _=>Ya) N:=fun w=>by
 obtain ⟨s,t,e,a⟩:=at_of (hA w)
 obtain ⟨s',t',e',b⟩:=at_of (hB w)
 rw [e] at e'
 cases e'
 obtain ⟨s',t',e',c⟩:=at_of (hC w)
 rw [e] at e'
 cases e'
 unfold lookA goodA at a
 simp only [Prod.mk.injEq] at a
 obtain ⟨a1,a2,a3,a4,a5,a6⟩:=a
 unfold lookB goodB at b
 simp only [Prod.mk.injEq] at b
 obtain ⟨b1,b2,b3,b4,b5,b6⟩:=b
 have o:openEnds treeTable p w N=some t.abs:=by
  unfold runT at e
  split at e
  ·cases e
  ·rename_i u e1
   split at e
   ·cases e
   ·rename_i u1 e2
    split at e
    ·cases e
    ·rename_i u2 e3
     split at e
     ·cases e
     ·rename_i u3 e4
      split at e
      ·cases e
      ·rename_i u4 e6
       cases e
       have k1:=toT_of e1
       have k2:=impT_of _ _ _ e2
       rw [k1] at k2
       have k3:=toT_of e4
       have k4:=topT_of _ _ _ e6
       rw [k3] at k4
       unfold openEnds fencedOpening
       rw [k2]
       show (fenceModules? p u1.abs).bind _=_
       rw [e3]
       show topFrom treeTable p w N s=_
       unfold topFrom
       rw [a1]
       dsimp only
       rw [k4]
       show (match staticsOk (importedModules p.main.body) s.heap t.abs.heap && namesBound p t.abs.heap && gensDone t.abs && laidKept s.heap t.abs.heap with | true=>some t.abs | false=>none)=_
       rw [a2]
 rw [o]
 refine congrArg some (Prod.ext ?_ c)
 show openSeen q [] (importedModules p.main.body) Xt true t.abs=openGood q []
 unfold openSeen openGood
 simp only [Bool.and_eq_true] at b1
 obtain ⟨⟨⟨⟨⟨b11,b12⟩,b13⟩,b14⟩,b15⟩,b16⟩:=b1
 rw [a3,a4,a5,a6,b2,b3,b4,b5,b6,b11,b12,b13,b14,b15,if_pos rfl,b16]
 rfl
end Hd
namespace Hd
open PySem PySem.W PyProof.Rows
def vw (p:Program):Program:=view p [1,2,3,4,5,6,7,8,9,10,11,12,13,14,16,17,18,19,20,21,22,23,25,27,28,29,30,32,33,34,35,36,37,38,39,40,41,42,43,45,46,47,49,51,52,53,54,56,57,58,59,60,61,62,63,64]
def Xt (p:Program) (s:Shared):Bool:=xlAt (vw p) [] s && recOk [] s
def lA (p:Program) (w:World):=at_ p w 9008 fun s t=>(lookA p (vw p) s t,lookB p (vw p) (Xt p) s t)
def gA (p:Program):=some (goodA (vw p),goodB (vw p))
theorem lA_s:Hd.lA=Hd.lA:=rfl
theorem gA_s:Hd.gA=Hd.gA:=rfl
name_quick lA for Hd.lA by Hd.lA_s
name_quick gA for Hd.gA by Hd.gA_s
set_option maxHeartbeats 0 in
theorem lA_q:∀ w,PySem.W.Fast.lA PySem.Challenge.pw_sheetsheld_s01_answers w=PySem.W.Fast.gA PySem.Challenge.pw_sheetsheld_s01_answers:=fun w=>by kernel_rfl
theorem lA_ok (w:World):at_ PySem.Challenge.pw_sheetsheld_s01_answers w 9008 (fun s t=>(lookA PySem.Challenge.pw_sheetsheld_s01_answers (vw PySem.Challenge.pw_sheetsheld_s01_answers) s t,lookB PySem.Challenge.pw_sheetsheld_s01_answers (vw PySem.Challenge.pw_sheetsheld_s01_answers) (Xt PySem.Challenge.pw_sheetsheld_s01_answers) s t))=some (goodA (vw PySem.Challenge.pw_sheetsheld_s01_answers),goodB (vw PySem.Challenge.pw_sheetsheld_s01_answers)) :=
 (congrFun (congrFun PySem.W.Fast.lA_eq _) w).trans ((lA_q w).trans (congrFun PySem.W.Fast.gA_eq _).symm)
end Hd
namespace L2
open PySem PySem.Spec PyProof.Rows
abbrev Key:=Sum Int Str
def zHA:Key→Value→Bool
 | .inl k,v=>Value.isInt k v
 | .inr x,v=>Value.isStrOf x v
def keyH (w:World):Key→Int
 | .inl k=>hashInt k
 | .inr x=>hashStr w x
theorem zAx:∀ {k:Key}{v:Value},zHA k v=true→(∃ i t,k=Sum.inl i∧v=Value.int i t)∨(∃ x t,k=Sum.inr x∧v=Value.str x t)
 | .inl i,v,h=>by
  obtain ⟨t,e⟩:=Value.isInt_shape (k:=i) (v:=v) h
  exact .inl ⟨i,t,rfl,e⟩
 | .inr x,v,h=>by
  obtain ⟨t,e⟩:=Value.isStrOf_shape (x:=x) (v:=v) h
  exact .inr ⟨x,t,rfl,e⟩
theorem keyIs_int (i:Int) (t:Tok):zHA (.inl i) (.int i t)=true:=by simp [zHA,Value.isInt]
theorem keyIs_str (x:Str) (t:Tok):zHA (.inr x) (.str x t)=true:=by simp [zHA,Value.isStrOf]
theorem key_ll (a b:Int):decide ((Sum.inl a:Key)=Sum.inl b)=(a == b):=by
 by_cases e:a=b
 ·subst e; simp
 ·have h:¬ (Sum.inl a:Key)=Sum.inl b:=fun q=>e (Sum.inl.inj q)
  rw [decide_eq_false h]
  exact (beq_eq_false_iff_ne.mpr e).symm
theorem key_rr (a b:Str):decide ((Sum.inr a:Key)=Sum.inr b)=decide (a=b):=by
 by_cases e:a=b
 ·subst e; simp
 ·have h:¬ (Sum.inr a:Key)=Sum.inr b:=fun q=>e (Sum.inr.inj q)
  rw [decide_eq_false h,decide_eq_false e]
theorem key_lr (a:Int) (b:Str):decide ((Sum.inl a:Key)=Sum.inr b)=false:=decide_eq_false (fun q=>nomatch q)
theorem key_rl (a:Str) (b:Int):decide ((Sum.inr a:Key)=Sum.inl b)=false:=decide_eq_false (fun q=>nomatch q)
def zBN (prog:Program) (w:World):PySem.KeyKind prog w Key where
 is:=zHA
 hash:=keyH w
 inj:=fun v a b ha hb=>by
  rcases zAx ha with ⟨i,t,rfl,rfl⟩ | ⟨x,t,rfl,rfl⟩
  ·rcases zAx hb with ⟨j,u,rfl,e⟩ | ⟨y,u,rfl,e⟩
   ·injection e with e1 _; rw [e1]
   ·exact nomatch e
  ·rcases zAx hb with ⟨j,u,rfl,e⟩ | ⟨y,u,rfl,e⟩
   ·exact nomatch e
   ·injection e with e1 _; rw [e1]
 byValue:=fun k v h=>by
  rcases zAx h with ⟨i,t,rfl,rfl⟩ | ⟨x,t,rfl,rfl⟩ <;> rfl
 pyHash:=fun hv h=>by
  rcases zAx hv with ⟨i,t,rfl,rfl⟩ | ⟨x,t,rfl,rfl⟩
  ·exact wpAny_pyHash_int h
  ·exact wpAny_pyHash_str h
 eqBool:=fun hu hv h=>by
  rcases zAx hu with ⟨i,t,rfl,rfl⟩ | ⟨x,t,rfl,rfl⟩
  ·rcases zAx hv with ⟨j,u,rfl,rfl⟩ | ⟨y,u,rfl,rfl⟩
   ·rw [key_ll] at h; exact wpAny_eqBool_int h
   ·rw [key_lr] at h; exact SeqAt.EqAt.int_str i t y u _ _ _ _ h
  ·rcases zAx hv with ⟨j,u,rfl,rfl⟩ | ⟨y,u,rfl,rfl⟩
   ·rw [key_rl] at h; exact SeqAt.EqAt.str_int x t j u _ _ _ _ h
   ·rw [key_rr] at h; exact wpAny_eqBool_str h
 «strs»:=fun k x t v h=>by
  rcases zAx h with ⟨i,u,rfl,e⟩ | ⟨y,u,rfl,e⟩
  ·exact nomatch e
  ·injection e with e1 _
   subst e1
   cases v <;> rfl
theorem zFn (prog:Program) (w:World) (i:Int) (t:Tok):(zBN prog w).is (.inl i) (.int i t)=true:=keyIs_int i t
theorem zFm (prog:Program) (w:World) (x:Str) (t:Tok):(zBN prog w).is (.inr x) (.str x t)=true:=keyIs_str x t
end L2
namespace L2
open PySem PySem.Spec PyProof.Rows
inductive V where
 | non | bl (b:Bool) | int (i:Int) | str (x:Str) | byt (b:Array UInt8) | flt (b:UInt64) | ref (a:Addr) | ty (n:String)
 deriving DecidableEq
def RelV:V→Value→Prop
 | .non,u=>u=Value.none
 | .bl b,u=>u=Value.bool b
 | .int i,u=>∃ t,u=Value.int i t
 | .str x,u=>∃ t,u=Value.str x t
 | .byt b,u=>∃ t,u=Value.bytes b t
 | .flt b,u=>∃ t,u=Value.float b t
 | .ref a,u=>u=Value.ref a
 | .ty n,u=>u=Value.type n
abbrev Vals:List V→List Value→Prop:=Paired RelV
theorem Vals.length {xs:List V}{us:List Value} (r:Vals xs us):xs.length=us.length:=Paired.length r
theorem Vals.get:∀ {xs:List V}{us:List Value}{i:Nat}{x:V},Vals xs us→xs[i]? = some x→∃ u,us[i]? = some u∧RelV x u
 | _,_,_,_,.nil,e=>by simp at e
 | _,_,0,_,.cons r _,e=>by simp at e; subst e; exact ⟨_,rfl,r⟩
 | _,_,i+1,x,.cons _ t,e=>by
  obtain ⟨u,h1,h2⟩:=Vals.get (i:=i) (x:=x) t (by simpa using e)
  exact ⟨u,by simpa using h1,h2⟩
theorem Vals.set {x:V}{u:Value} (r:RelV x u):∀ {xs:List V}{us:List Value} (i:Nat),Vals xs us→Vals (xs.set i x) (us.set i u)
 | _,_,_,.nil=>.nil
 | _,_,0,.cons _ t=>.cons r t
 | _,_,i+1,.cons q t=>.cons q (Vals.set r i t)
theorem Vals.append:∀ {xs ys:List V}{us ws:List Value},Vals xs us→Vals ys ws→Vals (xs++ys) (us++ws)
 | _,_,_,_,.nil,s=>s
 | _,_,_,_,.cons r t,s=>.cons r (Vals.append t s)
theorem Vals.take:∀ {xs:List V}{us:List Value} (n:Nat),Vals xs us→Vals (xs.take n) (us.take n)
 | _,_,0,_=>.nil
 | _,_,_+1,.nil=>.nil
 | _,_,n+1,.cons r t=>.cons r (Vals.take n t)
theorem Vals.drop:∀ {xs:List V}{us:List Value} (n:Nat),Vals xs us→Vals (xs.drop n) (us.drop n)
 | _,_,0,r=>r
 | _,_,_+1,.nil=>.nil
 | _,_,n+1,.cons _ t=>Vals.drop n t
def RelO:Option V→Option Value→Prop
 | some v,some u=>RelV v u
 | none,none=>True
 | _,_=>False
def KV {κ:Type}:List (κ×V)→List (κ×Value)→Prop:=Paired fun (p:κ×V) (q:κ×Value)=>p.1=q.1∧RelV p.2 q.2
def kV:Key→V
 | .inl i=>.int i
 | .inr x=>.str x
inductive HO where
 | lst (xs:List V)
 | tup (xs:List V)
 | dK (kvs:List (Key×V)) | dT (kvs:List (List Key×V))
 | set (S:Int→Bool) (n:Nat)
 | ins (C dx:Addr) (fs:List (Str×V))
 | own (x:Addr)
 | xd (fs:List (Str×V))
 | met (f x:Addr)
 | rng (lo hi:Int)
 | frz (o:Obj) (u:HO)
 | tbl (ps:Array Value)
 | ext (φ:Heap→Prop)
abbrev Hp:=Addr→Option HO
def upd (H:Hp) (a:Addr) (o:HO):Hp:=fun b=>if b=a then some o else H b
theorem zAB {H:Hp}{a:Addr}{o:HO}:upd H a o a=some o:=by unfold upd; rw [if_pos rfl]
theorem zAG {H:Hp}{a b:Addr}{o:HO} (h:b≠a):upd H a o b=H b:=by unfold upd; rw [if_neg h]
theorem zBh {H:Hp}{a:Addr}{o u:HO}:upd (upd H a o) a u=upd H a u:=by
 funext b; unfold upd; split <;> rfl
theorem zBA {H:Hp}{a b:Addr}{o u:HO} (h:H a=some o) (h':H b=some u) (d:o≠u):a≠b:=by
 intro e; subst e; rw [h] at h'; exact d (Option.some.inj h')
theorem zAC {H:Hp}{a b:Addr}{o:HO} (h:H a=some o) (h':H b=none):a≠b:=by
 intro e; subst e; rw [h] at h'; cases h'
section
variable (P:Program) (w:World)
def ObjOk (H:Hp) (h:Heap) (a:Addr):HO→Prop
 | .lst xs=>xs.length≤sizeLine∧∃ (its:List Value) (n:Nat),Vals xs its∧h.get? a=some { cls:=.type "list",data:=.seq its.toArray n }
 | .tup xs=>xs.length≤sizeLine∧∃ its:List Value,Vals xs its∧IsTup h a its.toArray
 | .dK kvs=>kvs.length≤sizeLine∧(a == sysModules)=false∧∃ vs,KV kvs vs∧h.DictOf (zBN P w) a vs
 | .dT kvs=>kvs.length≤sizeLine∧(a == sysModules)=false∧∃ xs:List (List Key×Addr×Value),
   Paired (fun (p:List Key×V) (q:List Key×Addr×Value)=>p.1=q.1∧H q.2.1=some (.tup (p.1.map kV))∧RelV p.2 q.2.2) kvs xs ∧
   ∃ o es ep,h.get? a=some o∧o.ExactDict∧o.data = .dict es ep∧es.toList=xs.map (entryOfKey (tupleKind (zBN P w)))∧(xs.map (·.1)).Nodup
 | .set S n=>h.SetOf (intKind P w) a S n
 | .ins C dx fs=>H dx=some (.own a)∧fs.length≤1000∧dx≠a∧h.get? a=some (PySem.W.instObj C dx) ∧
   ∃ mA,h.Ns1 dx mA∧(∀ f,RelO (fs.lookup f) (mA f))∧PySem.Within mA (fs.map (·.1))
 | .own _=>∃ o,h.get? a=some o
 | .xd fs=>∃ mA,h.Ns1 a mA∧∀ f,RelO (fs.lookup f) (mA f)
 | .rng lo hi=>∃ t u v,h.get? a=some { cls:=.type "range",data:=.fields #[.int lo t,.int hi u,.int 1 v] }
 | .frz o u=>h.get? a=some o∧ObjOk H h a u
 | .tbl ps=>h.get? a=some { cls:=.none,data:=.fields ps }
 | .met f x=>h.get? a=some (PySem.W.methodObj (.ref f) (.ref x))
 | .ext φ=>φ h∧(∃ o,h.get? a=some o)∧∀ h1 h2:Heap,φ h1→(∀ o,h1.get? a=some o→h2.get? a=some o)→φ h2
def HOk (H:Hp) (h:Heap):Prop:=∀ a o,H a=some o→ObjOk P w H h a o
end
section
variable {P:Program}{w:World}{H H':Hp}{h h':Heap}{a:Addr}{o:HO}
theorem ObjOk.lt (x:ObjOk P w H h a o):a < h.objs.size:=by
 cases o with
 | lst xs=>obtain ⟨_,_,_,_,e⟩:=x; exact Heap.lt_size e
 | tup xs=>obtain ⟨_,_,_,p⟩:=x; exact p.lt
 | dK kvs=>obtain ⟨_,_,_,_,o,_,_,e,_⟩:=x; exact Heap.lt_size e
 | dT kvs=>obtain ⟨_,_,_,_,o,_,_,e,_⟩:=x; exact Heap.lt_size e
 | set S n=>obtain ⟨o,_,_,_,e,_⟩:=x; exact Heap.lt_size e
 | ins C dx fs=>obtain ⟨_,_,_,e,_⟩:=x; exact Heap.lt_size e
 | own y=>obtain ⟨_,e⟩:=x; exact Heap.lt_size e
 | xd fs=>obtain ⟨_,⟨_,_,_,e,_⟩,_⟩:=x; exact Heap.lt_size e
 | rng lo hi=>obtain ⟨_,_,_,e⟩:=x; exact Heap.lt_size e
 | frz ob u=>obtain ⟨e,_⟩:=x; exact Heap.lt_size e
 | tbl ps=>exact Heap.lt_size (show h.get? a=some _ from x)
 | met f y=>exact Heap.lt_size (show h.get? a=some _ from x)
 | ext φ=>obtain ⟨_,⟨_,e⟩,_⟩:=x; exact Heap.lt_size e
theorem Paired.mapP {α β:Type}{F G:α→β→Prop}:∀ {l₁:List α}{l₂:List β},Paired F l₁ l₂→(∀ a b,F a b→G a b)→Paired G l₁ l₂
 | _,_,.nil,_=>.nil
 | _,_,.cons r t,f=>.cons (f _ _ r) (Paired.mapP t f)
theorem ObjOk.stay (x:ObjOk P w H h a o) (k:∀ b u,(b=a∨H b=some (.own a))→h.get? b=some u→h'.get? b=some u)
  (ho:∀ b,H b=some (.own a)→H' b=some (.own a)) (ht:∀ b xs,H b=some (.tup xs)→H' b=some (.tup xs)):ObjOk P w H' h' a o:=by
 induction o with
 | lst xs=>obtain ⟨z,its,n,r,e⟩:=x; exact ⟨z,its,n,r,k _ _ (.inl rfl) e⟩
 | tup xs=>obtain ⟨z,its,r,ob,e,c⟩:=x; exact ⟨z,its,r,ob,k _ _ (.inl rfl) e,c⟩
 | dK kvs=>obtain ⟨z,y,vs,r,ob,es,ep,e,c⟩:=x; exact ⟨z,y,vs,r,ob,es,ep,k _ _ (.inl rfl) e,c⟩
 | dT kvs =>
  obtain ⟨z,y,xs,r,ob,es,ep,e,c⟩:=x
  exact ⟨z,y,xs,Paired.mapP r fun p q z=>⟨z.1,ht _ _ z.2.1,z.2.2⟩,ob,es,ep,k _ _ (.inl rfl) e,c⟩
 | set S n=>obtain ⟨ob,es,ep,t,e,c⟩:=x; exact ⟨ob,es,ep,t,k _ _ (.inl rfl) e,c⟩
 | ins C dx fs =>
  obtain ⟨d,z,ne,e,mA,⟨od,es,ep,e2,c⟩,r⟩:=x
  exact ⟨ho _ d,z,ne,k _ _ (.inl rfl) e,mA,⟨od,es,ep,k _ _ (.inr d) e2,c⟩,r⟩
 | own y=>obtain ⟨ob,e⟩:=x; exact ⟨ob,k _ _ (.inl rfl) e⟩
 | xd fs=>obtain ⟨mA,⟨od,es,ep,e,c⟩,r⟩:=x; exact ⟨mA,⟨od,es,ep,k _ _ (.inl rfl) e,c⟩,r⟩
 | rng lo hi=>obtain ⟨t,u,v,e⟩:=x; exact ⟨t,u,v,k _ _ (.inl rfl) e⟩
 | frz ob u ih=>obtain ⟨e,q⟩:=x; exact ⟨k _ _ (.inl rfl) e,ih q⟩
 | tbl ps =>
  have e:h.get? a=some { cls:=.none,data:=.fields ps }:=x
  show h'.get? a=some { cls:=.none,data:=.fields ps }
  exact k a _ (.inl rfl) e
 | met f y =>
  have e:h.get? a=some (PySem.W.methodObj (.ref f) (.ref y)):=x
  show h'.get? a=some (PySem.W.methodObj (.ref f) (.ref y))
  exact k a _ (.inl rfl) e
 | ext φ=>obtain ⟨p,⟨o,e⟩,st⟩:=x; exact ⟨st _ _ p fun o q=>k _ _ (.inl rfl) q,⟨o,k _ _ (.inl rfl) e⟩,st⟩
theorem HOk.lt (x:HOk P w H h) (e:H a=some o):a < h.objs.size:=(x a o e).lt
theorem HOk.fresh (x:HOk P w H h) (e:h.objs.size≤a):H a=none:=by
 cases q:H a with
 | none=>rfl
 | some u=>exact absurd (Nat.lt_of_lt_of_le (x.lt q) e) (Nat.lt_irrefl _)
theorem HOk.kept (x:HOk P w H h) (k:∀ b u,h.get? b=some u→h'.get? b=some u):HOk P w H h':=fun a o e =>
 (x a o e).stay (fun b u _ q=>k b u q) (fun _ q=>q) fun _ _ q=>q
theorem HOk.laid (x:HOk P w H h) (k:∀ b u,h.get? b=some u→h'.get? b=some u) (hp:h.objs.size≤a) (new:ObjOk P w (upd H a o) h' a o):HOk P w (upd H a o) h':=fun b u e=>by
 have hn:=x.fresh hp
 by_cases hb:b=a
 ·subst hb; rw [zAB] at e; cases e; exact new
 ·rw [zAG hb] at e
  exact (x b u e).stay (fun c v _ q=>k c v q) (fun c q=>by rw [zAG (zAC q hn)]; exact q) fun c xs q=>by rw [zAG (zAC q hn)]; exact q
end
def Rd (H:Hp) (a:Addr) (u:HO):Prop:=H a=some u∨∃ o,H a=some (.frz o u)
theorem Rd.ok {P:Program}{w:World}{H:Hp}{h:Heap}{a:Addr}{u:HO} (r:Rd H a u) (x:HOk P w H h):ObjOk P w H h a u:=by
 rcases r with r | ⟨o,r⟩
 ·exact x a u r
 ·obtain ⟨_,q⟩:=x a _ r
  exact q
def Mut:Option HO→Prop
 | some (.lst _)=>True
 | some (.dK _)=>True
 | some (.dT _)=>True
 | some (.set _ _)=>True
 | some (.ins _ _ _)=>True
 | some (.ext _)=>True
 | _=>False
section
variable {P:Program}{w:World}{H:Hp}{h h':Heap}{x e:Addr}{o':HO}
theorem HOk.write (ok:HOk P w H h) (mu:Mut (H x)) (he:e=x∨H e=some (.own x)) (k:∀ b u,b≠e→h.get? b=some u→h'.get? b=some u) (heo:∃ u,h'.get? e=some u)
  (new:ObjOk P w (upd H x o') h' x o'):HOk P w (upd H x o') h':=fun b u q=>by
 have nown:∀ c y,H c=some (.own y)→c≠x:=fun c y r z=>by subst z; rw [r] at mu; exact mu
 have ntup:∀ c xs,H c=some (.tup xs)→c≠x:=fun c xs r z=>by subst z; rw [r] at mu; exact mu
 by_cases hb:b=x
 ·subst hb; rw [zAB] at q; cases q; exact new
 ·rw [zAG hb] at q
  by_cases hbe:b=e
  ·have q':H b=some (.own x):=by
    rcases he with z | z
    ·exact absurd (hbe.trans z) hb
    ·rw [hbe]; exact z
   rw [q] at q'; cases q'
   obtain ⟨v,hv⟩:=heo
   exact ⟨v,by rw [hbe]; exact hv⟩
  ·refine (ok b u q).stay (fun c v hc r=>k c v ?_ r) (fun c r=>by rw [zAG (nown c b r)]; exact r) fun c xs r=>by rw [zAG (ntup c xs r)]; exact r
   rcases hc with rfl | hc
   ·exact hbe
   ·rintro rfl
    rcases he with z | z
    ·exact nown c b hc z
    ·rw [hc] at z; cases z; exact hb rfl
end
structure Un (fs ex:List Addr) (H H':Hp) (h h':Heap):Prop where
 keep:∀ b o,h.get? b=some o→H b=none→b∉fs→b∉ex→h'.get? b=some o
 slot:∀ b o,h.get? b=some o→H b=none→b∈fs→b∉ex→∃ sl,h'.get? b=some { o with slots:=sl }
 free:∀ b o,h.get? b=some o→H b=none→b∉ex→H' b=none
 there:∀ b o,h.get? b=some o→b∉ex→∃ o',h'.get? b=some o'
 tups:∀ b xs,H b=some (.tup xs)→H' b=some (.tup xs)
 frzs:∀ b o u,H b=some (.frz o u)→H' b=some (.frz o u)
 tbls:∀ b ps,H b=some (.tbl ps)→∃ more,H' b=some (.tbl (ps++more))
section
variable {fs fs' ex ex':List Addr}{H H1 H2:Hp}{h h1 h2 h':Heap}{a x e:Addr}{o:HO}
theorem Un.any (u:Un fs ex H H1 h h1) {b:Addr}{ob:Obj} (q:h.get? b=some ob) (n:H b=none) (hx:b∉ex):∃ sl,h1.get? b=some { ob with slots:=sl }:=by
 by_cases hb:b∈fs
 ·exact u.slot b ob q n hb hx
 ·exact ⟨ob.slots,u.keep b ob q n hb hx⟩
theorem Un.kept (k:∀ b u,h.get? b=some u→h'.get? b=some u):Un fs ex H H h h' :=
 ⟨fun b ob q _ _ _=>k b ob q,fun b ob q _ _ _=>⟨ob.slots,k b ob q⟩,fun _ _ _ n _=>n,fun b ob q _=>⟨ob,k b ob q⟩,fun _ _ q=>q,fun _ _ _ q=>q,fun _ ps q=>⟨#[],by rw [q]; simp⟩⟩
theorem Un.refl:Un fs ex H H h h:=Un.kept fun _ _ q=>q
theorem Un.laid (k:∀ b u,h.get? b=some u→h'.get? b=some u) (hp:h.objs.size≤a) (hn:H a=none):Un fs ex H (upd H a o) h h' where
 keep:=fun b u q _ _ _=>k b u q
 slot:=fun b u q _ _ _=>⟨u.slots,k b u q⟩
 free:=fun b u q n _=>by rw [zAG (Nat.ne_of_lt (Nat.lt_of_lt_of_le (Heap.lt_size q) hp))]; exact n
 there:=fun b u q _=>⟨u,k b u q⟩
 tups:=fun b xs q=>by rw [zAG (zAC q hn)]; exact q
 frzs:=fun b u xs q=>by rw [zAG (zAC q hn)]; exact q
 tbls:=fun b ps q=>⟨#[],by rw [zAG (zAC q hn),q]; simp⟩
theorem Un.write (mu:Mut (H x)) (he:e=x∨H e=some (.own x)) (k:∀ b u,b≠e→h.get? b=some u→h'.get? b=some u) (heo:∃ u,h'.get? e=some u):Un fs ex H (upd H x o) h h':=by
 have hx:∀ b,H b=none→b≠x:=fun b n z=>by subst z; rw [n] at mu; exact mu
 have hb:∀ b,H b=none→b≠e:=fun b n z=>by
  subst z
  rcases he with r | r
  ·exact hx b n r
  ·rw [n] at r; cases r
 have hm:∀ b u,H b=some u→¬ Mut (some u)→b≠x:=fun b u q nm z=>by subst z; rw [q] at mu; exact nm mu
 refine ⟨fun b u q n _ _=>k b u (hb b n) q,fun b u q n _ _=>⟨u.slots,k b u (hb b n) q⟩,fun b u q n _=>by rw [zAG (hx b n)]; exact n,fun b u q _=>?_,
  fun b xs q=>by rw [zAG (hm b _ q fun z=>z)]; exact q,fun b u xs q=>by rw [zAG (hm b _ q fun z=>z)]; exact q,fun b ps q=>⟨#[],by rw [zAG (hm b _ q fun z=>z),q]; simp⟩⟩
 by_cases hbe:b=e
 ·subst hbe; exact heo
 ·exact ⟨u,k b u hbe q⟩
end
def trk (h:Heap) (H:Hp):List Addr:=(List.range h.objs.size).filter fun a=>(H a).isSome
def hidT (h:Heap) (H:Hp):Heap:=PySem.W.hideAll h (trk h H)
theorem hidT_size (h:Heap) (H:Hp):(hidT h H).objs.size=h.objs.size:=PySem.W.hideAll_size _ _
theorem hidT_get {h:Heap}{H:Hp}{b:Addr}{o:Obj} (e:h.get? b=some o) (n:H b=none):(hidT h H).get? b=some o :=
 PySem.W.hideAll_get _ e fun hm=>by
  have q:(H b).isSome=true:=(List.mem_filter.mp hm).2
  rw [n] at q; simp at q
theorem of_hidT {h:Heap}{H:Hp}{b:Addr}{o:Obj} (e:(hidT h H).get? b=some o):h.get? b=some o∧H b=none:=by
 have e':h.get? b=some o:=PySem.W.of_hideAll (trk h H) e
 refine ⟨e',?_⟩
 cases q:H b with
 | none=>rfl
 | some x =>
  have hm:b∈trk h H:=List.mem_filter.mpr ⟨List.mem_range.mpr (Heap.lt_size e'),by simp [q]⟩
  have z:(hidT h H).get? b=none:=PySem.W.hideAll_none (trk h H) hm
  rw [z] at e; cases e
end L2
namespace L2
open PySem PySem.Spec PyProof.Rows
structure Mod (K:Fg) (mg:MG) (base:Heap):Prop where
 kin:K.In base
 glob:base.Ns mainGlobals mg
 blt:∃ mb,base.Ns builtinsNs mb∧∀ x:Str,x≠"__name__"→mb x=bootBuiltins x
 nolimit:base.NoLimit
structure Cx where
 prog:Program
 w:World
 K:Fg
 mg:MG
 base:Heap
 A:Around
 N:List Str
 s_0:Shared
 H_0:Hp
 env:Env
 outer:List Env
 stack:List Env
 ex:List Addr
 fn:Str→Bool
 calm:Bool
 pn:List (Addr×Obj)
 xe:Value→Shared→Prop
def frs (l:List Env):List Addr:=l.filterMap (·.frame)
abbrev Cx.fs (X:Cx):List Addr:=frs X.outer
def Vis (sc:Scope) (x:Str):Prop:=sc.names.lookup x=some .local∨sc.names.lookup x=some .cell∨sc.names.lookup x=some .free
def Loc (sc:Scope) (x:Str):Prop:=sc.names.lookup x=some .local∨sc.names.lookup x=some .cell
def Look (env:Env) (h:Heap) (m:MG) (x:Str) (u:Value):Prop :=
 (env.kindOf x=some .local∧m x=some u)∨((env.kindOf x=some .cell∨env.kindOf x=some .free)∧∃ c,env.cells.lookup x=some c∧h.IsCell c (some u))
structure Cx.Ok (X:Cx):Prop where
 mod:Mod X.K X.mg X.base
 kind:X.env.scope.kind = .function
 glob:X.env.globals=mainGlobals
 blt:X.env.builtins=builtinsNs
 above:X.s_0.heap.objs.size≤X.env.locals
 inj:∀ x y c,X.env.cells.lookup x=some c→X.env.cells.lookup y=some c→x=y
 has:∀ x,(X.env.kindOf x=some .cell∨X.env.kindOf x=some .free)→∃ c,X.env.cells.lookup x=some c
 cab:∀ x c,X.fn x=true→X.env.cells.lookup x=some c→X.s_0.heap.objs.size≤c
 hd:X.calm=true→X.A.handled=none
 frames:X.A.frames=some X.stack
 stk:X.stack=X.outer∨(X.stack=X.env::X.outer∧X.env.frame=some X.env.locals)
 exf:∀ b∈X.ex,b≠X.env.locals∧∀ x c,X.env.cells.lookup x=some c→c≠b
 bs:∀ b o,X.base.get? b=some o→X.s_0.heap.get? b=some o∧X.H_0 b=none
 bsz:X.base.objs.size≤X.s_0.heap.objs.size
 noex:∀ b o,X.base.get? b=some o→b∉X.ex
 exfs:∀ b∈X.ex,b∉X.fs
 funs:X.s_0.heap.FunFrames X.base X.outer
 frf:∀ b∈X.fs,X.H_0 b=none
structure Inv (X:Cx) (pins:List (Addr×Obj)) (σ:List (Option V)) (H:Hp) (s:Shared):Prop where
 ok:X.Ok
 os:s.os=X.s_0.os
 bare:AllBare s.gens
 base:Un X.fs X.ex X.H_0 H X.s_0.heap s.heap
 loc:∃ m,s.heap.Ns X.env.locals m∧∀ (i:Nat) (x:Str) (v:V),X.N[i]? = some x→σ[i]? = some (some v)→Vis X.env.scope x→∃ u,RelV v u∧Look X.env s.heap m x u
 cell:∀ x c,X.env.cells.lookup x=some c→∃ v,s.heap.IsCell c v
 free:H X.env.locals=none
 freeC:∀ x c,X.env.cells.lookup x=some c→H c=none
 pin:∀ p∈X.pn++pins,s.heap.get? p.1=some p.2∧H p.1=none∧p.1≠X.env.locals∧p.1∉X.fs∧∀ v,p.2.data≠.cell v
 hok:HOk X.prog X.w H s.heap
 len:σ.length=X.N.length
section
variable {X:Cx}{pins:List (Addr×Obj)}{σ:List (Option V)}{H H':Hp}{s:Shared}{h':Heap}
theorem Cx.Ok.nofr (ok:X.Ok) {b:Addr}{o:Obj} (e:X.base.get? b=some o):b∉X.fs:=fun hb=>by
 have:=(ok.funs.mem hb).1
 rw [e] at this; cases this
theorem Inv.bs (I:Inv X pins σ H s):∀ b o,X.base.get? b=some o→s.heap.get? b=some o∧H b=none:=fun b o e =>
 ⟨I.base.keep b o (I.ok.bs b o e).1 (I.ok.bs b o e).2 (I.ok.nofr e) (I.ok.noex b o e),I.base.free b o (I.ok.bs b o e).1 (I.ok.bs b o e).2 (I.ok.noex b o e)⟩
theorem Inv.bk (I:Inv X pins σ H s):∀ b o,X.base.get? b=some o→s.heap.get? b=some o:=fun b o e=>(I.bs b o e).1
theorem Inv.mod (I:Inv X pins σ H s):Mod X.K X.mg X.base:=I.ok.mod
theorem Inv.kIn (I:Inv X pins σ H s):X.K.In s.heap:=I.ok.mod.kin.keeps I.bk
theorem Inv.lt (I:Inv X pins σ H s):X.env.locals < s.heap.objs.size:=let ⟨_,hn,_⟩:=I.loc; hn.lt
theorem Inv.sz (I:Inv X pins σ H s):X.s_0.heap.objs.size≤s.heap.objs.size:=Nat.le_trans I.ok.above (Nat.le_of_lt I.lt)
theorem Inv.nofs (I:Inv X pins σ H s) {a:Addr} (h:s.heap.objs.size≤a):a∉X.fs:=fun hb=>by
 obtain ⟨_,o,ho,_⟩:=I.ok.funs.mem hb
 exact absurd (Nat.lt_of_lt_of_le (Heap.lt_size ho) (Nat.le_trans I.sz h)) (Nat.lt_irrefl _)
theorem Inv.cne (I:Inv X pins σ H s):∀ x c,X.env.cells.lookup x=some c→c≠X.env.locals:=fun x c e z=>by
 obtain ⟨v,o,ho,hd⟩:=I.cell x c e
 obtain ⟨m,⟨o',es,ep,ho',hd',_⟩,_⟩:=I.loc
 rw [z,ho'] at ho; cases ho; rw [hd'] at hd; cases hd
theorem Inv.funs (I:Inv X pins σ H s):s.heap.FunFrames X.base X.outer:=by
 have all:∀ (l:List Env),(∀ b∈frs l,b∈X.fs)→X.s_0.heap.FunFrames X.base l→s.heap.FunFrames X.base l:=by
  intro l
  induction l with
  | nil=>intro _ _; trivial
  | cons env r ih =>
   intro hs hl
   obtain ⟨hk,⟨L,o,hf,hn,ho,hd⟩,hr⟩:=hl
   have hL:L∈X.fs:=hs L (by unfold frs; rw [List.filterMap_cons,hf]; exact List.mem_cons_self)
   obtain ⟨sl,e⟩:=I.base.slot L o ho (I.ok.frf L hL) hL fun z=>I.ok.exfs L z hL
   exact ⟨hk,⟨L,_,hf,hn,e,hd⟩,ih (fun b hb=>hs b (by unfold frs; rw [List.filterMap_cons,hf]; exact List.mem_cons_of_mem _ hb)) hr⟩
 exact all X.outer (fun _ hb=>hb) I.ok.funs
theorem Inv.stack (I:Inv X pins σ H s):s.heap.FunFrames X.base X.stack:=by
 rcases I.ok.stk with e | ⟨e,hf⟩
 ·rw [e]; exact I.funs
 ·rw [e]
  obtain ⟨m,hn,_⟩:=I.loc
  refine .cons (by rw [I.ok.kind]; decide) hf hn ?_ I.funs
  exact Heap.get?_none_of_le (Nat.le_trans I.ok.bsz I.ok.above)
theorem Inv.stkSub (I:Inv X pins σ H s):∀ b∈frs X.stack,b∈X.env.locals::X.fs:=fun b hb=>by
 rcases I.ok.stk with e | ⟨e,hf⟩
 ·rw [e] at hb; exact List.mem_cons_of_mem _ hb
 ·rw [e] at hb
  unfold frs at hb
  rw [List.filterMap_cons,hf] at hb
  exact hb
theorem Inv.stkFree (I:Inv X pins σ H s):∀ b∈frs X.stack,H b=none:=fun b hb=>by
 rcases List.mem_cons.mp (I.stkSub b hb) with e | hb
 ·rw [e]; exact I.free
 ·obtain ⟨_,o,ho,_⟩:=I.ok.funs.mem hb
  exact I.base.free b o ho (I.ok.frf b hb) fun z=>I.ok.exfs b z hb
theorem Inv.step {g':Array GenState}{t':Nat}{d':Drawn}{ch:List Addr} (I:Inv X pins σ H s)
  (hch:∀ b∈ch,(b∈X.ex∨X.s_0.heap.objs.size≤b)∧b≠X.env.locals∧(∀ x c,X.env.cells.lookup x=some c→c≠b)∧∀ p∈X.pn++pins,p.1≠b)
  (keep:∀ b o,b≠X.env.locals→b∉X.fs→b∉ch→s.heap.get? b=some o→H b=none→h'.get? b=some o)
  (slot:∀ b o,b≠X.env.locals→b∈X.fs→b∉ch→s.heap.get? b=some o→H b=none→∃ sl,h'.get? b=some { o with slots:=sl }) (free:∀ b o,b∉ch→s.heap.get? b=some o→H b=none→H' b=none)
  (there:∀ b o,b∉ch→s.heap.get? b=some o→∃ o',h'.get? b=some o')
  (tups:∀ b xs,H b=some (.tup xs)→H' b=some (.tup xs)) (frzs:∀ b o u,H b=some (.frz o u)→H' b=some (.frz o u)) (tbls:∀ b ps,H b=some (.tbl ps)→∃ more,H' b=some (.tbl (ps++more)))
  (ns:∀ m,s.heap.Ns X.env.locals m→h'.Ns X.env.locals m) (hok:HOk X.prog X.w H' h') (hg:AllBare g') :
  Inv X pins σ H' { s with heap:=h',gens:=g',drawn:=d',toks:=t' }:=by
 have neL:∀ b o,X.s_0.heap.get? b=some o→b≠X.env.locals:=fun b o e=>Nat.ne_of_lt (Nat.lt_of_lt_of_le (Heap.lt_size e) I.ok.above)
 have neC:∀ b o,X.s_0.heap.get? b=some o→b∉X.ex→b∉ch:=fun b o e hx hb=>by
  rcases (hch b hb).1 with z | z
  ·exact hx z
  ·exact absurd (Nat.lt_of_lt_of_le (Heap.lt_size e) z) (Nat.lt_irrefl _)
 have cellK:∀ x c,X.env.cells.lookup x=some c→∀ v,s.heap.IsCell c v→h'.IsCell c v:=fun x c e v ⟨o,ho,hd⟩=>by
  have nch:c∉ch:=fun z=>(hch c z).2.2.1 x c e rfl
  by_cases hc:c∈X.fs
  ·obtain ⟨sl,q⟩:=slot c o (I.cne x c e) hc nch ho (I.freeC x c e)
   exact ⟨_,q,hd⟩
  ·exact ⟨o,keep c o (I.cne x c e) hc nch ho (I.freeC x c e),hd⟩
 refine ⟨I.ok,I.os,hg,⟨fun b o e n hb hx=>?_,fun b o e n hb hx=>?_,fun b o e n hx=>?_,fun b o e hx=>?_,fun b xs e=>tups b xs (I.base.tups b xs e),fun b o xs e=>frzs b o xs (I.base.frzs b o xs e),fun b ps e=>?_⟩,?_,fun x c e=>?_,?_,fun x c e=>?_,fun p hp=>?_,hok,I.len⟩
 ·exact keep b o (neL b o e) hb (neC b o e hx) (I.base.keep b o e n hb hx) (I.base.free b o e n hx)
 ·obtain ⟨sl,e1⟩:=I.base.slot b o e n hb hx
  obtain ⟨sl',e2⟩:=slot b _ (neL b o e) hb (neC b o e hx) e1 (I.base.free b o e n hx)
  exact ⟨sl',e2⟩
 ·obtain ⟨o',e1⟩:=I.base.there b o e hx
  exact free b o' (neC b o e hx) e1 (I.base.free b o e n hx)
 ·obtain ⟨o',e1⟩:=I.base.there b o e hx
  exact there b o' (neC b o e hx) e1
 ·obtain ⟨m1,e1⟩:=I.base.tbls b ps e
  obtain ⟨m2,e2⟩:=tbls b _ e1
  exact ⟨m1++m2,by rw [e2,Array.append_assoc]⟩
 ·obtain ⟨m,hn,hl⟩:=I.loc
  refine ⟨m,ns m hn,fun i x v e1 e2 e3=>?_⟩
  obtain ⟨u,r,l⟩:=hl i x v e1 e2 e3
  refine ⟨u,r,?_⟩
  rcases l with l | ⟨k,c,e,z⟩
  ·exact .inl l
  ·exact .inr ⟨k,c,e,cellK x c e _ z⟩
 ·obtain ⟨v,z⟩:=I.cell x c e
  exact ⟨v,cellK x c e v z⟩
 ·obtain ⟨m,⟨o,_,_,ho,_⟩,_⟩:=I.loc
  exact free _ o (fun z=>(hch _ z).2.1 rfl) ho I.free
 ·obtain ⟨v,o,ho,hd⟩:=I.cell x c e
  exact free c o (fun z=>(hch c z).2.2.1 x c e rfl) ho (I.freeC x c e)
 ·obtain ⟨e,n,ne,nf,d⟩:=I.pin p hp
  have nch:p.1∉ch:=fun z=>(hch p.1 z).2.2.2 p hp rfl
  exact ⟨keep p.1 p.2 ne nf nch e n,free p.1 p.2 nch e n,ne,nf,d⟩
theorem Inv.un {t':Nat} (I:Inv X pins σ H s) (u:Un X.fs [] H H' s.heap h') (hok:HOk X.prog X.w H' h'):Inv X pins σ H' { s with heap:=h',toks:=t' }:=by
 obtain ⟨m,⟨o,es,ep,ho,r⟩,_⟩:=id I.loc
 obtain ⟨sl,hL⟩:=u.any ho I.free (by simp)
 exact I.step (g':=s.gens) (d':=s.drawn) (ch:=[]) (fun _ z=>nomatch z) (fun b o _ hb _ e n=>u.keep b o e n hb (by simp)) (fun b o _ hb _ e n=>u.slot b o e n hb (by simp)) (fun b o _ e n=>u.free b o e n (by simp)) (fun b o _ e=>u.there b o e (by simp)) u.tups u.frzs u.tbls (fun m' hm=>by
  obtain ⟨o',es',ep',ho',r'⟩:=hm
  rw [ho] at ho'; cases ho'
  exact ⟨_,es',ep',hL,r'⟩) hok I.bare
theorem Inv.call {g':Array GenState}{t':Nat}{d':Drawn}{ch:List Addr} (I:Inv X pins σ H s) (u:Un (frs X.stack) ch H H' s.heap h') (hok:HOk X.prog X.w H' h') (hg:AllBare g')
  (hch:∀ b∈ch,(b∈X.ex∨X.s_0.heap.objs.size≤b)∧b≠X.env.locals∧(∀ x c,X.env.cells.lookup x=some c→c≠b)∧∀ p∈X.pn++pins,p.1≠b) :
  Inv X pins σ H' { s with heap:=h',gens:=g',drawn:=d',toks:=t' }:=by
 obtain ⟨m,⟨o,es,ep,ho,r⟩,_⟩:=id I.loc
 obtain ⟨sl,hL⟩:=u.any ho I.free fun z=>(hch _ z).2.1 rfl
 exact I.step (ch:=ch) hch (fun b o hL hb hc e n=>u.keep b o e n (fun z=>(List.mem_cons.mp (I.stkSub b z)).elim hL hb) hc) (fun b o _ _ hc e n=>u.any e n hc) (fun b o hc e n=>u.free b o e n hc) (fun b o hc e=>u.there b o e hc) u.tups u.frzs u.tbls (fun m' hm=>by
  obtain ⟨o',es',ep',ho',r'⟩:=hm
  rw [ho] at ho'; cases ho'
  exact ⟨_,es',ep',hL,r'⟩) hok hg
theorem Inv.turned {t':Nat}{it:Addr} (I:Inv X pins σ H s) (k:∀ b o,b≠it→s.heap.get? b=some o→h'.get? b=some o) (hn:H it=none) (hL:it≠X.env.locals)
  (h1:it∈X.ex∨X.s_0.heap.objs.size≤it) (h2:∀ x c,X.env.cells.lookup x=some c→c≠it) (h3:∀ p∈X.pn++pins,p.1≠it):Inv X pins σ H { s with heap:=h',toks:=t' }:=by
 have nit:∀ b u,H b=some u→b≠it:=fun b u e z=>by rw [z,hn] at e; cases e
 refine I.step (g':=s.gens) (d':=s.drawn) (ch:=[it]) (fun b hb=>?_) (fun b o _ _ hc e _=>k b o (fun z=>hc (by simp [z])) e) (fun b o _ _ hc e _=>⟨o.slots,k b o (fun z=>hc (by simp [z])) e⟩) (fun _ _ _ _ n=>n)
  (fun b o hc e=>⟨o,k b o (fun z=>hc (by simp [z])) e⟩) (fun _ _ e=>e) (fun _ _ _ e=>e) (fun b ps e=>⟨#[],by rw [e]; simp⟩) (fun m hm=>?_) (fun b u e=>?_) I.bare
 ·have e:b=it:=by simpa using hb
  subst e
  exact ⟨h1,hL,h2,h3⟩
 ·obtain ⟨o,es,ep,ho,r⟩:=hm
  exact ⟨o,es,ep,k _ o (Ne.symm hL) ho,r⟩
 ·refine (I.hok b u e).stay (fun c v hc q=>k c v ?_ q) (fun _ q=>q) fun _ _ q=>q
  rcases hc with z | z
  ·rw [z]; exact nit b u e
  ·exact nit c _ z
theorem Inv.tok (I:Inv X pins σ H s) (t:Nat):Inv X pins σ H { s with toks:=t }:=I.un (h':=s.heap) (t':=t) Un.refl I.hok
theorem Inv.kept {t':Nat} (I:Inv X pins σ H s) (k:∀ b u,s.heap.get? b=some u→h'.get? b=some u):Inv X pins σ H { s with heap:=h',toks:=t' }:=I.un (Un.kept k) (I.hok.kept k)
theorem Inv.laid {a:Addr}{o:HO}{t':Nat} (I:Inv X pins σ H s) (k:∀ b u,s.heap.get? b=some u→h'.get? b=some u) (hp:s.heap.objs.size≤a) (new:ObjOk X.prog X.w (upd H a o) h' a o) :
  Inv X pins σ (upd H a o) { s with heap:=h',toks:=t' }:=I.un (Un.laid k hp (I.hok.fresh hp)) (I.hok.laid k hp new)
theorem Inv.write {x e:Addr}{o:HO}{t':Nat} (I:Inv X pins σ H s) (mu:Mut (H x)) (he:e=x∨H e=some (.own x)) (k:∀ b u,b≠e→s.heap.get? b=some u→h'.get? b=some u) (heo:∃ u,h'.get? e=some u)
  (new:ObjOk X.prog X.w (upd H x o) h' x o):Inv X pins σ (upd H x o) { s with heap:=h',toks:=t' }:=I.un (Un.write mu he k heo) (I.hok.write mu he k heo new)
theorem Inv.weak {σ':List (Option V)} (I:Inv X pins σ H s) (hl:σ'.length=σ.length) (w:∀ (i:Nat) v,σ'[i]? = some (some v)→σ[i]? = some (some v)):Inv X pins σ' H s :=
 ⟨I.ok,I.os,I.bare,I.base,let ⟨m,hn,hl'⟩:=I.loc; ⟨m,hn,fun i x v e1 e2 e3=>hl' i x v e1 (w i v e2) e3⟩,I.cell,I.free,I.freeC,I.pin,I.hok,hl.trans I.len⟩
theorem Inv.pins_of {pins':List (Addr×Obj)} (I:Inv X pins σ H s) (h:∀ p∈pins',s.heap.get? p.1=some p.2∧H p.1=none∧p.1≠X.env.locals∧p.1∉X.fs∧∀ v,p.2.data≠.cell v):Inv X pins' σ H s :=
 ⟨I.ok,I.os,I.bare,I.base,I.loc,I.cell,I.free,I.freeC,fun p hp=>(List.mem_append.mp hp).elim (fun z=>I.pin p (List.mem_append_left _ z)) (h p),I.hok,I.len⟩
theorem zEh {N:List Str} (hN:N.Nodup) {i j:Nat}{x:Str} (a:N[i]? = some x) (b:N[j]? = some x):i=j:=by
 obtain ⟨h1,e1⟩:=List.getElem?_eq_some_iff.mp a
 obtain ⟨h2,e2⟩:=List.getElem?_eq_some_iff.mp b
 exact (List.getElem_inj hN).mp (e1.trans e2.symm)
theorem zEz {M:Model}{A:Around}{E:Value→Shared→Prop}{i:Nat}{x:Str}{v:V}{u:Value}{Q:Unit→Shared→Prop} (I:Inv X pins σ H s) (hN:X.N.Nodup) (hi:X.N[i]? = some x) (hx:Loc X.env.scope x) (r:RelV v u)
  (h:∀ s',Inv X pins (σ.set i (some v)) H s'→(∃ a,Heap.SameBut a s.heap s'.heap∧(a=X.env.locals∨X.env.cells.lookup x=some a))→Q () s') (hf:X.fn x=true∨X.env.scope.names.lookup x=some .local:=by first | exact .inl rfl | exact .inr rfl | assumption):wpAny M A (storeName X.env x u) Q E s:=by
 obtain ⟨m,hn,hl⟩:=id I.loc
 have hcls:(X.env.scope.kind == .class || (X.env.scope.kind == .module && X.env.locals != X.env.globals))=false:=by rw [I.ok.kind]; rfl
 have hiσ:i < σ.length:=by rw [I.len]; exact (List.getElem?_eq_some_iff.mp hi).1
 have cne:=I.cne
 have tracked:∀ {a:Addr}{h':Heap},(∃ o,s.heap.get? a=some o∧H a=none)→Heap.SameBut a s.heap h'→HOk X.prog X.w H h':=fun {a h'} ha hs b ob e=>by
  obtain ⟨_,_,hfree⟩:=ha
  refine (I.hok b ob e).stay (fun c w' hc q=>(hs.2 c ?_).trans q) (fun _ q=>q) fun _ _ q=>q
  rintro rfl
  rcases hc with rfl | hc
  ·rw [hfree] at e; cases e
  ·rw [hfree] at hc; cases hc
 rcases hx with hk | hk
 ·refine wpAny_storeName_local hk hn (fun h' hn' hs=>?_) hcls
  obtain ⟨oL,_,_,hoL,_⟩:=id hn
  refine h _ ⟨I.ok,I.os,I.bare,⟨fun b o e n hb hx=>?_,fun b o e n hb hx=>?_,I.base.free,fun b o e hx=>?_,I.base.tups,I.base.frzs,I.base.tbls⟩,⟨_,hn',fun j y v' e1 e2 e3=>?_⟩,fun y c e=>?_,I.free,I.freeC,fun p hp=>?_,tracked ⟨oL,hoL,I.free⟩ hs,by simpa using I.len⟩ ⟨_,hs,.inl rfl⟩
  ·exact (hs.2 b (Nat.ne_of_lt (Nat.lt_of_lt_of_le (Heap.lt_size e) I.ok.above))).trans (I.base.keep b o e n hb hx)
  ·obtain ⟨sl,e1⟩:=I.base.slot b o e n hb hx
   exact ⟨sl,(hs.2 b (Nat.ne_of_lt (Nat.lt_of_lt_of_le (Heap.lt_size e) I.ok.above))).trans e1⟩
  ·obtain ⟨o',e1⟩:=I.base.there b o e hx
   exact ⟨o',(hs.2 b (Nat.ne_of_lt (Nat.lt_of_lt_of_le (Heap.lt_size e) I.ok.above))).trans e1⟩
  ·by_cases hj:j=i
   ·subst hj
    rw [hi] at e1; cases e1
    rw [List.getElem?_set_self hiσ] at e2
    cases e2
    exact ⟨u,r,.inl ⟨hk,by simp⟩⟩
   ·rw [List.getElem?_set_ne (Ne.symm hj)] at e2
    obtain ⟨u',r',q⟩:=hl j y v' e1 e2 e3
    refine ⟨u',r',?_⟩
    rcases q with ⟨k,e⟩ | ⟨k,c,e,z⟩
    ·refine .inl ⟨k,?_⟩
     have:y≠x:=fun e=>hj (zEh hN e1 (e ▸ hi))
     simp [this,e]
    ·exact .inr ⟨k,c,e,z.sameBut hs (cne y c e)⟩
  ·obtain ⟨w',z⟩:=I.cell y c e
   exact ⟨w',z.sameBut hs (cne y c e)⟩
  ·obtain ⟨e,n,ne,nf,d⟩:=I.pin p hp
   exact ⟨(hs.2 p.1 ne).trans e,n,ne,nf,d⟩
 ·have hfn:X.fn x=true:=by
   rcases hf with z | z
   ·exact z
   ·rw [z] at hk; cases hk
  obtain ⟨c,hc⟩:=I.ok.has x (.inl hk)
  obtain ⟨w',z⟩:=I.cell x c hc
  refine wpAny_storeName_cell I.ok.kind hk hc z (fun h' hc' hs=>?_)
  obtain ⟨oc,hoc,hocd⟩:=id z
  refine h { s with heap:=h' } ⟨I.ok,I.os,I.bare,⟨fun b o e n hb hx=>?_,fun b o e n hb hx=>?_,I.base.free,fun b o e hx=>?_,I.base.tups,I.base.frzs,I.base.tbls⟩,⟨m,hn.sameBut hs (Ne.symm (cne x c hc)),fun j y v' e1 e2 e3=>?_⟩,fun y c' e=>?_,I.free,I.freeC,fun p hp=>?_,tracked ⟨oc,hoc,I.freeC x c hc⟩ hs,by simpa using I.len⟩ ⟨c,hs,.inr hc⟩
  ·exact (hs.2 b (Nat.ne_of_lt (Nat.lt_of_lt_of_le (Heap.lt_size e) (I.ok.cab x c hfn hc)))).trans (I.base.keep b o e n hb hx)
  ·obtain ⟨sl,e1⟩:=I.base.slot b o e n hb hx
   exact ⟨sl,(hs.2 b (Nat.ne_of_lt (Nat.lt_of_lt_of_le (Heap.lt_size e) (I.ok.cab x c hfn hc)))).trans e1⟩
  ·obtain ⟨o',e1⟩:=I.base.there b o e hx
   exact ⟨o',(hs.2 b (Nat.ne_of_lt (Nat.lt_of_lt_of_le (Heap.lt_size e) (I.ok.cab x c hfn hc)))).trans e1⟩
  ·by_cases hj:j=i
   ·subst hj
    rw [hi] at e1; cases e1
    rw [List.getElem?_set_self hiσ] at e2
    cases e2
    exact ⟨u,r,.inr ⟨.inl hk,c,hc,hc'⟩⟩
   ·rw [List.getElem?_set_ne (Ne.symm hj)] at e2
    obtain ⟨u',r',q⟩:=hl j y v' e1 e2 e3
    refine ⟨u',r',?_⟩
    rcases q with q | ⟨k,c',e,z'⟩
    ·exact .inl q
    ·refine .inr ⟨k,c',e,z'.sameBut hs ?_⟩
     rintro rfl
     exact hj (zEh hN e1 (I.ok.inj _ _ _ e hc ▸ hi))
  ·by_cases hcc:c' = c
   ·subst hcc; exact ⟨_,hc'⟩
   ·obtain ⟨w2,z2⟩:=I.cell y c' e
    exact ⟨w2,z2.sameBut hs hcc⟩
  ·obtain ⟨e,n,ne,nf,d⟩:=I.pin p hp
   refine ⟨(hs.2 p.1 ?_).trans e,n,ne,nf,d⟩
   intro q
   rw [q,hoc] at e
   have q':oc=p.2:=Option.some.inj e
   exact d w' (by rw [←q']; exact hocd)
theorem zEQ {M:Model}{A:Around}{E:Value→Shared→Prop}{i:Nat}{x:Str}{v:V}{u:Value}{Q:Unit→Shared→Prop} (I:Inv X pins σ H s) (hN:X.N.Nodup) (hi:X.N[i]? = some x) (hx:Loc X.env.scope x) (r:RelV v u)
  (h:∀ s',Inv X pins (σ.set i (some v)) H s'→Q () s') (hf:X.fn x=true∨X.env.scope.names.lookup x=some .local:=by first | exact .inl rfl | exact .inr rfl | assumption):wpAny M A (storeName X.env x u) Q E s :=
 zEz I hN hi hx r (fun s' I' _=>h s' I') hf
theorem Inv.call' {s':Shared}{ch:List Addr} (I:Inv X pins σ H s) (ho:s'.os=s.os) (u:Un (frs X.stack) ch H H' s.heap s'.heap) (hok:HOk X.prog X.w H' s'.heap) (hg:AllBare s'.gens)
  (hch:∀ b∈ch,(b∈X.ex∨X.s_0.heap.objs.size≤b)∧b≠X.env.locals∧(∀ x c,X.env.cells.lookup x=some c→c≠b)∧∀ p∈X.pn++pins,p.1≠b):Inv X pins σ H' s':=by
 obtain ⟨h',g',d',t',o'⟩:=s'
 have e:o' = s.os:=ho
 subst e
 exact I.call (g':=g') (t':=t') (d':=d') u hok hg hch
end
abbrev XK:=Value→Option Addr→Hp→Prop
abbrev St:=List (Option V)
abbrev VK:=V→Hp→Prop
abbrev TE:=St→Hp→VK→Prop
abbrev TT:=St→Hp→(Bool→Hp→Prop)→Prop
abbrev TA:=St→Hp→(List V→Hp→Prop)→Prop
structure Ends where
 nx:St→Hp→Prop
 rt:VK
 bk:St→Hp→Prop:=fun _ _=>False
 ct:St→Hp→Prop:=fun _ _=>False
abbrev TS:=Ends→St→Hp→Prop
def EP (X:Cx) (pins:List (Addr×Obj)) (σ:St) (Q:VK) (u:Value) (s':Shared):Prop:=∃ v H',Inv X pins σ H' s'∧RelV v u∧Q v H'
def TP (X:Cx) (pins:List (Addr×Obj)) (σ:St) (Q:Bool→Hp→Prop) (b:Bool) (s':Shared):Prop:=∃ H',Inv X pins σ H' s'∧Q b H'
def AP (X:Cx) (pins:List (Addr×Obj)) (σ:St) (Q:List V→Hp→Prop) (us:List Value) (s':Shared):Prop:=∃ vs H',Inv X pins σ H' s'∧Vals vs us∧Q vs H'
def SP (X:Cx) (pins:List (Addr×Obj)) (D:Ends) (f:Flow) (s':Shared):Prop :=
 match f with
 | .next=>∃ σ' H',Inv X pins σ' H' s'∧D.nx σ' H'
 | .brk=>∃ σ' H',Inv X pins σ' H' s'∧D.bk σ' H'
 | .cont=>∃ σ' H',Inv X pins σ' H' s'∧D.ct σ' H'
 | .ret u=>∃ v σ' H',Inv X pins σ' H' s'∧RelV v u∧D.rt v H'
def PE (X:Cx) (e:Expr) (t:TE):Prop :=
 ∀ (pins:List (Addr×Obj)) (s:Shared) (σ:St) (H:Hp) (Q:VK),Inv X pins σ H s→t σ H Q→wpAny (model X.prog X.w) X.A (eval e X.env) (EP X pins σ Q) X.xe s
def PT (X:Cx) (e:Expr) (t:TT):Prop :=
 ∀ (pins:List (Addr×Obj)) (s:Shared) (σ:St) (H:Hp) (Q:Bool→Hp→Prop),Inv X pins σ H s→t σ H Q→wpAny (model X.prog X.w) X.A (isTrue e X.env (eval e X.env)) (TP X pins σ Q) X.xe s
def PW (X:Cx) (e:Expr) (t:TT):Prop :=
 ∀ (whole:Sem Value) (pins:List (Addr×Obj)) (s:Shared) (σ:St) (H:Hp) (Q:Bool→Hp→Prop),Inv X pins σ H s→t σ H Q→wpAny (model X.prog X.w) X.A (isTrue e X.env whole) (TP X pins σ Q) X.xe s
theorem PW.pt {X:Cx}{e:Expr}{t:TT} (h:PW X e t):PT X e t:=h _
def PA (X:Cx) (es:List Expr) (t:TA):Prop :=
 ∀ (pos:Pos) (pins:List (Addr×Obj)) (s:Shared) (σ:St) (H:Hp) (Q:List V→Hp→Prop),Inv X pins σ H s→t σ H Q→wpAny (model X.prog X.w) X.A (spliced (backTo pos (starEach es X.env))) (AP X pins σ Q) X.xe s
def PS (X:Cx) (st:Stmt) (t:TS):Prop :=
 ∀ (pins:List (Addr×Obj)) (s:Shared) (σ:St) (H:Hp) (D:Ends),Inv X pins σ H s→t D σ H→wpAny (model X.prog X.w) X.A (exec st X.env) (SP X pins D) X.xe s
def PSs (X:Cx) (st:List Stmt) (t:TS):Prop :=
 ∀ (pins:List (Addr×Obj)) (s:Shared) (σ:St) (H:Hp) (D:Ends),Inv X pins σ H s→t D σ H→wpAny (model X.prog X.w) X.A (execs st X.env) (SP X pins D) X.xe s
theorem thn {α:Type}{t:Sem α}{Q Q':α→Shared→Prop}{M:Model}{A:Around}{E:Value→Shared→Prop}{s:Shared} (h:wpAny M A t Q E s) (hQ:∀ a s,Q a s→Q' a s):wpAny M A t Q' E s:=wpAny_mono h hQ fun _ _ x=>x
end L2
namespace L2
open PySem PySem.Spec PyProof.Rows
section
variable {X:Cx}
inductive QV (o:Option (Option V)) (H:Hp) (Q:VK):Prop
 | mk (v:V) (h:o=some (some v)) (k:Q v H)
def tVar (i:Nat):TE:=fun σ H Q=>QV σ[i]? H Q
def tC (v:V):TE:=fun _ H Q=>Q v H
theorem pe_var {i:Nat}{x:Str}{pos:Pos} (hN:X.N[i]? = some x) (hv:Vis X.env.scope x) (hd:(x == ("__debug__":Str))=false:=by decide) (hcd:(x == ("__classdict__":Str))=false:=by decide):PE X (.Name x pos) (tVar i):=by
 intro pins s σ H Q I h
 obtain ⟨v,e,h⟩:=h
 obtain ⟨m,hn,hl⟩:=I.loc
 obtain ⟨u,r,l⟩:=hl i x v hN e hv
 have fin:EP X pins σ Q u s:=⟨v,H,I,r,h⟩
 rcases l with ⟨hk,hm⟩ | ⟨hk,c,hc,hcell⟩
 ·exact wpAny_Name (wpAny_loadName_local I.ok.kind hk hn hm fin) hd
 ·rcases hk with hk | hk
  ·exact wpAny_Name (wpAny_loadName_cell I.ok.kind hk hc hcell fin) hd
  ·exact wpAny_Name (wpAny_loadName_free I.ok.kind hk hc hcell fin hcd) hd
theorem zAZ {i j pos}:PE X (.Constant (.int i) j pos) (tC (.int i)):=fun _ _ _ H _ I h=>wpAny_Constant_int ⟨.int i,H,I.tok _,⟨_,rfl⟩,h⟩
theorem zEf {b j pos}:PE X (.Constant (.bool b) j pos) (tC (.bl b)):=fun _ _ _ H _ I h=>Constant_bool ⟨.bl b,H,I,rfl,h⟩
theorem pe_non {j pos}:PE X (.Constant .none j pos) (tC .non):=fun _ _ _ H _ I h=>Constant_none ⟨.non,H,I,rfl,h⟩
def Gl (X:Cx) (x:Str):Prop:=X.env.kindOf x=some .globalImplicit
theorem zCP {E:Value→Shared→Prop}{pins:List (Addr×Obj)}{s:Shared}{σ:St}{H:Hp}{x:Str}{u:Value}{pos:Pos}{Q:Value→Shared→Prop} (I:Inv X pins σ H s) (hg:Gl X x) (hm:X.mg x=some u) (h:Q u s)
  (hd:(x == ("__debug__":Str))=false:=by decide):wpAny (model X.prog X.w) X.A (eval (.Name x pos) X.env) Q E s :=
 Calls.Name_function_global I.ok.kind hg (Calls.loadGlobal_global (by rw [I.ok.glob]; exact I.mod.glob.keeps I.bk) hm h) hd
theorem zDg {E:Value→Shared→Prop}{pins:List (Addr×Obj)}{s:Shared}{σ:St}{H:Hp}{x:Str}{u:Value}{pos:Pos}{Q:Value→Shared→Prop} (I:Inv X pins σ H s) (hg:Gl X x) (hm:X.mg x=none) (hv:bootBuiltins x=some u) (h:Q u s)
  (hn:x≠"__name__":=by decide) (hd:(x == ("__debug__":Str))=false:=by decide):wpAny (model X.prog X.w) X.A (eval (.Name x pos) X.env) Q E s:=by
 obtain ⟨mb,h1,h2⟩:=I.mod.blt
 exact Calls.Name_function_global I.ok.kind hg (Calls.loadGlobal_builtin (by rw [I.ok.glob]; exact I.mod.glob.keeps I.bk) hm (by rw [I.ok.blt]; exact h1.keeps I.bk) ((h2 x hn).trans hv) h) hd
theorem zEe {x:Str}{v:V}{u:Value}{pos:Pos} (hg:Gl X x) (hm:X.mg x=some u) (r:RelV v u) (hd:(x == ("__debug__":Str))=false:=by decide):PE X (.Name x pos) (tC v) :=
 fun _ _ _ H _ I h=>zCP I hg hm ⟨v,H,I,r,h⟩ hd
variable {a b:Expr}{ta tb:TE}{pos:Pos}
def PC (X:Cx) (op:CmpOp) (a b:Expr) (t:TE):Prop :=
 ∀ (pins:List (Addr×Obj)) (s:Shared) (σ:St) (H:Hp) (Q:VK),Inv X pins σ H s→t σ H Q →
  wpAny (model X.prog X.w) X.A (eval a X.env) (fun v s₁=>wpAny (model X.prog X.w) X.A (eval b X.env) (fun u s₂=>wpAny (model X.prog X.w) X.A (compareOp op v u) (EP X pins σ Q) X.xe s₂) X.xe s₁) X.xe s
theorem zGO (b:Expr) {op:CmpOp} (h:op≠.In) (h2:op≠.NotIn):behindInMarks op b=false:=by
 have e1:(op == CmpOp.In)=false:=by cases op <;> first | rfl | exact absurd rfl h
 have e2:(op == CmpOp.NotIn)=false:=by cases op <;> first | rfl | exact absurd rfl h2
 cases b <;> simp [behindInMarks,e1,e2]
def tIsN (ta:TE):TE:=fun σ H Q=>ta σ H fun x H1=>Q (.bl (decide (x = .non))) H1
theorem RelV.none_iff {x:V}{v:Value} (r:RelV x v):(v == Value.none)=decide (x = .non):=by
 cases x with
 | non=>cases r; rfl
 | bl _=>cases r; rfl
 | int _=>obtain ⟨t,rfl⟩:=r; rfl
 | str _=>obtain ⟨t,rfl⟩:=r; rfl
 | byt _=>obtain ⟨t,rfl⟩:=r; rfl
 | flt _=>obtain ⟨t,rfl⟩:=r; rfl
 | ref _=>cases r; rfl
 | ty _=>cases r; rfl
theorem zGJ {j pos'} (ha:PE X a ta):PC X .Is a (.Constant .none j pos') (tIsN ta):=by
 intro pins s σ H Q I h
 refine thn (ha pins s σ H _ I h) fun v s1 ⟨x,H1,I1,r1,q1⟩=>?_
 exact Constant_none (is_none_gen ⟨.bl _,H1,I1,by rw [r1.none_iff]; rfl,q1⟩)
inductive QB (x:V) (H:Hp) (Q:Bool→Hp→Prop):Prop
 | mk (c:Bool) (h:x = .bl c) (k:Q c H)
def tB (t:TE):TT:=fun σ H Q=>t σ H fun x H1=>QB x H1 Q
theorem zFB {op:CmpOp}{t:TE} (h:PC X op a b t) (h1:behindInMarks op b=false:=by first | exact zGO _ (by decide) (by decide) | rfl):PE X (.Compare a [op] [b] pos) t:=fun pins s σ H Q I hw=>wpAny_Compare1 (h pins s σ H Q I hw) h1
theorem pt_cmp {op:CmpOp}{t:TE} (h:PC X op a b t) (h1:behindInMarks op b=false:=by first | exact zGO _ (by decide) (by decide) | rfl):PT X (.Compare a [op] [b] pos) (tB t):=by
 intro pins s σ H Q I hw
 refine wpAny_isTrue_Compare1 (thn (h pins s σ H _ I hw) fun v s1 h1=>thn h1 fun u s2 h2=>thn h2 fun c s3 ⟨x,H1,I1,r1,q1⟩=>?_) h1
 obtain ⟨d,rfl,q⟩:=q1
 cases r1
 exact wpAny_truthy_bool ⟨H1,I1,q⟩
theorem zA2 {e:Expr}{t:TE} (h:PE X e t) (he:∀ whole,isTrue e X.env whole=(do let v ←whole; standAt e.pos; holding [v] (truthy v)):=by intro _; rfl):PT X e (tB t):=by
 intro pins s σ H Q I hw
 refine isTrue_plain (thn (h pins s σ H _ I hw) fun v s1 ⟨x,H1,I1,r1,q1⟩=>?_) (he _)
 obtain ⟨d,rfl,q⟩:=q1
 cases r1
 exact wpAny_truthy_bool ⟨H1,I1,q⟩
variable {tA tB':TT}{rest:List Expr}
def tAnd (t u:TT):TT:=fun σ H Q=>t σ H fun c H1=>if c=true then u σ H1 Q else Q false H1
def tOr (t u:TT):TT:=fun σ H Q=>t σ H fun c H1=>if c=true then Q true H1 else u σ H1 Q
def tNot (t:TT):TT:=fun σ H Q=>t σ H fun c H1=>Q (!c) H1
theorem zCL (ha:PT X a tA):PW X (.BoolOp .And [a] pos) tA:=by
 intro wh pins s σ H Q I h
 refine isTrue_and (thn (ha pins s σ H Q I h) fun c s1 e=>?_)
 cases c with
 | true=>exact isTrue_and_nil e
 | false=>exact e
theorem zD0 (ha:PT X a tA):PW X (.BoolOp .Or [a] pos) tA:=by
 intro wh pins s σ H Q I h
 refine isTrue_or (thn (ha pins s σ H Q I h) fun c s1 e=>?_)
 cases c with
 | false=>exact isTrue_or_nil e
 | true=>exact e
theorem zC4 (ha:PT X a tA) (hb:PW X (.BoolOp .And (b::rest) pos) tB'):PW X (.BoolOp .And (a::b::rest) pos) (tAnd tA tB'):=by
 intro wh pins s σ H Q I h
 refine isTrue_and (thn (ha pins s σ H _ I h) fun c s1 ⟨H1,I1,q1⟩=>?_)
 cases c with
 | true=>exact hb wh pins s1 σ H1 Q I1 q1
 | false=>exact ⟨H1,I1,q1⟩
theorem zG1 (ha:PT X a tA) (hb:PW X (.BoolOp .Or (b::rest) pos) tB'):PW X (.BoolOp .Or (a::b::rest) pos) (tOr tA tB'):=by
 intro wh pins s σ H Q I h
 refine isTrue_or (thn (ha pins s σ H _ I h) fun c s1 ⟨H1,I1,q1⟩=>?_)
 cases c with
 | true=>exact ⟨H1,I1,q1⟩
 | false=>exact hb wh pins s1 σ H1 Q I1 q1
theorem zBm (ha:PT X a tA):PT X (.UnaryOp .Not a pos) (tNot tA):=by
 intro pins s σ H Q I h
 exact isTrue_not (ha pins s σ H (fun c H1=>Q (!c) H1) I h)
def tAndV (ta tb:TE):TE:=fun σ H Q=>ta σ H fun x H1=>∃ c,x = .bl c∧if c=true then tb σ H1 Q else Q (.bl false) H1
def tOrV (ta tb:TE):TE:=fun σ H Q=>ta σ H fun x H1=>∃ c,x = .bl c∧if c=true then Q (.bl true) H1 else tb σ H1 Q
theorem pe_one {op}{t:TE} (h:PE X a t):PE X (.BoolOp op [a] pos) t:=fun pins s σ H Q I hw=>BoolOp_one (h pins s σ H Q I hw)
theorem pe_and (ha:PE X a ta) (hb:PE X (.BoolOp .And (b::rest) pos) tb):PE X (.BoolOp .And (a::b::rest) pos) (tAndV ta tb):=by
 intro pins s σ H Q I h
 refine BoolOp_and (thn (ha pins s σ H _ I h) fun v s1 ⟨x,H1,I1,r1,q1⟩=>?_)
 obtain ⟨c,rfl,q1⟩:=q1
 cases r1
 refine wpAny_truthy_bool ?_
 cases c with
 | true=>exact hb pins s1 σ H1 Q I1 q1
 | false=>exact ⟨.bl false,H1,I1,rfl,q1⟩
theorem pe_or (ha:PE X a ta) (hb:PE X (.BoolOp .Or (b::rest) pos) tb):PE X (.BoolOp .Or (a::b::rest) pos) (tOrV ta tb):=by
 intro pins s σ H Q I h
 refine BoolOp_or (thn (ha pins s σ H _ I h) fun v s1 ⟨x,H1,I1,r1,q1⟩=>?_)
 obtain ⟨c,rfl,q1⟩:=q1
 cases r1
 refine wpAny_truthy_bool ?_
 cases c with
 | false=>exact hb pins s1 σ H1 Q I1 q1
 | true=>exact ⟨.bl true,H1,I1,rfl,q1⟩
def tIf (t:TT) (ta tb:TE):TE:=fun σ H Q=>t σ H fun c H1=>if c=true then ta σ H1 Q else tb σ H1 Q
theorem zGH {c:Expr} (hc:PT X c tA) (ha:PE X a ta) (hb:PE X b tb):PE X (.IfExp c a b pos) (tIf tA ta tb):=by
 intro pins s σ H Q I h
 refine wpAny_IfExp (thn (hc pins s σ H _ I h) fun d s1 ⟨H1,I1,q1⟩=>?_)
 cases d with
 | true=>exact ha pins s1 σ H1 Q I1 q1
 | false=>exact hb pins s1 σ H1 Q I1 q1
end
end L2
namespace L2
open PySem PySem.Spec PyProof.Rows
def SqL (K:Fg) (H:Hp) (a:Addr) (xs:List V):Prop :=
 Rd H a (.lst xs) ∨
  ∃ (o:Obj) (its:Array Value) (n:Nat),K.lookup a=some o∧o.cls = .type "list"∧o.dict=none∧o.data = .seq its n∧its.size≤sizeLine∧Vals xs its.toList
def SqT (K:Fg) (H:Hp) (a:Addr) (xs:List V):Prop :=
 Rd H a (.tup xs) ∨
  ∃ (o:Obj) (its:Array Value) (n:Nat),K.lookup a=some o∧o.cls = .type "tuple"∧o.data = .seq its n∧its.size≤sizeLine∧Vals xs its.toList
def absV:Value→Option V
 | .none=>some .non
 | .bool b=>some (.bl b)
 | .int i _=>some (.int i)
 | .str x _=>some (.str x)
 | .bytes b _=>some (.byt b)
 | .float b _=>some (.flt b)
 | .ref a=>some (.ref a)
 | .type n=>some (.ty n)
 | _=>none
theorem RelV.abs {x:V}{u:Value} (r:RelV x u):absV u=some x:=by
 cases x with
 | non=>cases r; rfl
 | bl _=>cases r; rfl
 | int _=>obtain ⟨t,rfl⟩:=r; rfl
 | str _=>obtain ⟨t,rfl⟩:=r; rfl
 | byt _=>obtain ⟨t,rfl⟩:=r; rfl
 | flt _=>obtain ⟨t,rfl⟩:=r; rfl
 | ref _=>cases r; rfl
 | ty _=>cases r; rfl
theorem RelV.inj {x y:V}{u:Value} (r:RelV x u) (q:RelV y u):x=y:=Option.some.inj (r.abs.symm.trans q.abs)
theorem Vals.inj:∀ {xs ys:List V}{us:List Value},Vals xs us→Vals ys us→xs=ys
 | _,_,_,.nil,.nil=>rfl
 | _,_,_,.cons r t,.cons r' t'=>by rw [r.inj r',Vals.inj t t']
section
variable {X:Cx}{pins:List (Addr×Obj)}{σ:St}{H:Hp}{s:Shared}{a:Addr}{xs ys:List V}
theorem SqL.of {K:Fg} (h:H a=some (.lst xs)):SqL K H a xs:=.inl (.inl h)
theorem SqT.of {K:Fg} (h:H a=some (.tup xs)):SqT K H a xs:=.inl (.inl h)
theorem Inv.list (I:Inv X pins σ H s) (h:SqL X.K H a xs):∃ its:List Value,Vals xs its∧PlainL s.heap a its.toArray∧xs.length≤sizeLine:=by
 rcases h with h | ⟨o,its,n,hk,hc,hd,hs,hz,r⟩
 ·obtain ⟨z,its,n,r,e⟩:=h.ok I.hok
  exact ⟨its,r,⟨_,n,e,rfl,rfl,rfl⟩,z⟩
 ·refine ⟨its.toList,r,⟨o,n,I.kIn a o hk,hc,hd,by simpa using hs⟩,?_⟩
  have e:=r.length
  simp only [Array.length_toList] at e
  omega
theorem Inv.tuple (I:Inv X pins σ H s) (h:SqT X.K H a xs):∃ its:List Value,Vals xs its∧IsTup s.heap a its.toArray∧xs.length≤sizeLine:=by
 rcases h with h | ⟨o,its,n,hk,hc,hs,hz,r⟩
 ·obtain ⟨z,its,r,p⟩:=h.ok I.hok
  exact ⟨its,r,p,z⟩
 ·refine ⟨its.toList,r,⟨o,I.kIn a o hk,hc,n,by simpa using hs⟩,?_⟩
  have e:=r.length
  simp only [Array.length_toList] at e
  omega
theorem Inv.list_inj (I:Inv X pins σ H s) (h:SqL X.K H a xs) (h':SqL X.K H a ys):xs=ys:=by
 obtain ⟨its,r,⟨o,n,e,_,_,d⟩,_⟩:=I.list h
 obtain ⟨its',r',⟨o',n',e',_,_,d'⟩,_⟩:=I.list h'
 rw [e] at e'; cases e'
 rw [d] at d'
 injection d' with d1 _
 have:its=its':=by simpa using congrArg Array.toList d1
 subst this
 exact r.inj r'
theorem Inv.tuple_inj (I:Inv X pins σ H s) (h:SqT X.K H a xs) (h':SqT X.K H a ys):xs=ys:=by
 obtain ⟨its,r,⟨o,e,_,n,d⟩,_⟩:=I.tuple h
 obtain ⟨its',r',⟨o',e',_,n',d'⟩,_⟩:=I.tuple h'
 rw [e] at e'; cases e'
 rw [d] at d'
 injection d' with d1 _
 have:its=its':=by simpa using congrArg Array.toList d1
 subst this
 exact r.inj r'
end
abbrev Cx.wish (X:Cx) (E:Value→Shared→Prop):Cx:={ X with xe:=E }
abbrev Cx.nox (X:Cx):Cx:=X.wish fun _ _=>False
theorem Cx.Ok.wish {X:Cx} (ok:X.Ok) (E:Value→Shared→Prop):(X.wish E).Ok :=
 ⟨ok.mod,ok.kind,ok.glob,ok.blt,ok.above,ok.inj,ok.has,ok.cab,ok.hd,ok.frames,ok.stk,ok.exf,ok.bs,ok.bsz,ok.noex,ok.exfs,ok.funs,ok.frf⟩
theorem Cx.Ok.unwish {X:Cx}{E:Value→Shared→Prop} (ok:(X.wish E).Ok):X.Ok :=
 ⟨ok.mod,ok.kind,ok.glob,ok.blt,ok.above,ok.inj,ok.has,ok.cab,ok.hd,ok.frames,ok.stk,ok.exf,ok.bs,ok.bsz,ok.noex,ok.exfs,ok.funs,ok.frf⟩
section
variable {X:Cx}{pins:List (Addr×Obj)}{σ:St}{H:Hp}{s:Shared}{E:Value→Shared→Prop}
theorem Inv.wish (I:Inv X pins σ H s) (E:Value→Shared→Prop):Inv (X.wish E) pins σ H s:=⟨I.ok.wish E,I.os,I.bare,I.base,I.loc,I.cell,I.free,I.freeC,I.pin,I.hok,I.len⟩
theorem Inv.unwish (I:Inv (X.wish E) pins σ H s):Inv X pins σ H s:=⟨I.ok.unwish,I.os,I.bare,I.base,I.loc,I.cell,I.free,I.freeC,I.pin,I.hok,I.len⟩
theorem SP.unwish {D:Ends}{f:Flow}{s':Shared} (h:SP (X.wish E) pins D f s'):SP X pins D f s':=by
 cases f with
 | next=>obtain ⟨σ',H',I,q⟩:=h; exact ⟨σ',H',I.unwish,q⟩
 | brk=>obtain ⟨σ',H',I,q⟩:=h; exact ⟨σ',H',I.unwish,q⟩
 | cont=>obtain ⟨σ',H',I,q⟩:=h; exact ⟨σ',H',I.unwish,q⟩
 | ret u=>obtain ⟨v,σ',H',I,r,q⟩:=h; exact ⟨v,σ',H',I.unwish,r,q⟩
theorem PSs.nox {st:List Stmt}{t:TS} (h:PSs X.nox st t):PSs X st t:=fun pins s σ H D I hw =>
 wpAny_mono (h pins s σ H D (I.wish _) hw) (fun _ _ q=>q.unwish) fun _ _ z=>False.elim z
end
section
variable {X:Cx}{st:Stmt}{rest:List Stmt}{t u:TS}{e:Expr}{te:TE}{pos:Pos}
def tNext:TS:=fun D σ H=>D.nx σ H
def tSeq (t u:TS):TS:=fun D σ H=>t { D with nx:=u D } σ H
theorem zAY:PSs X [] tNext:=fun _ _ σ H _ I h=>wpAny_execs_nil ⟨σ,H,I,h⟩
theorem zAD (h1:PS X st t) (h2:PSs X rest u):PSs X (st::rest) (tSeq t u):=by
 intro pins s σ H D I h
 refine wpAny_execs_cons (thn (h1 pins s σ H { D with nx:=u D } I h) fun f s1 q=>?_)
 cases f with
 | next =>
  obtain ⟨σ',H',I',q⟩:=q
  exact h2 pins s1 σ' H' D I' q
 | ret v=>exact q
 | brk=>exact q
 | cont=>exact q
theorem zAF (h1:PS X st t):PSs X [st] t:=by
 intro pins s σ H D I h
 refine wpAny_execs_cons (thn (h1 pins s σ H D I h) fun f s1 q=>?_)
 cases f with
 | next=>exact wpAny_execs_nil q
 | ret v=>exact q
 | brk=>exact q
 | cont=>exact q
def tCont:TS:=fun D σ H=>D.ct σ H
theorem zCM:PS X (.Continue pos) tCont:=fun _ _ σ H _ I h=>wpAny_Continue ⟨σ,H,I,h⟩
theorem Inv.quiet {pins:List (Addr×Obj)}{σ:St}{H:Hp}{s:Shared} (I:Inv X pins σ H s):interactive X.env=false:=by simp [interactive,I.ok.kind]
def tDrop (te:TE):TS:=fun D σ H=>te σ H fun _ H1=>D.nx σ H1
theorem zAT (he:PE X e te) (hs:swapsWith e none pos.line X.env=pure false:=by rfl):PS X (.Expr e pos) (tDrop te):=by
 intro pins s σ H D I h
 exact wpAny_Expr_any (thn (he pins s σ H _ I h) fun v s1 ⟨x,H1,I1,r1,q1⟩=>⟨σ,H1,I1,q1⟩) I.quiet hs
def tRet (te:TE):TS:=fun D σ H=>te σ H D.rt
theorem zAQ (he:PE X e te):PS X (.Return (some e) pos) (tRet te):=by
 intro pins s σ H D I h
 exact wpAny_Return_some (thn (he pins s σ H _ I h) fun v s1 ⟨x,H1,I1,r1,q1⟩=>⟨x,σ,H1,I1,r1,q1⟩)
def tRetN:TS:=fun D _ H=>D.rt .non H
theorem ps_retN:PS X (.Return none pos) tRetN:=fun _ _ σ H _ I h=>wpAny_Return_none ⟨.non,σ,H,I,rfl,h⟩
def tIfS (c:TT) (t u:TS):TS:=fun D σ H=>c σ H fun b H1=>if b=true then t D σ H1 else u D σ H1
theorem zAk {c:Expr}{a b:List Stmt}{tc:TT} (hc:PT X c tc) (ha:PSs X a t) (hb:PSs X b u):PS X (.If c a b pos) (tIfS tc t u):=by
 intro pins s σ H D I h
 refine wpAny_If (thn (hc pins s σ H _ I h) fun d s1 ⟨H1,I1,q1⟩=>?_)
 cases d with
 | true=>exact ha pins s1 σ H1 D I1 q1
 | false=>exact hb pins s1 σ H1 D I1 q1
end
abbrev TG:=V→St→Hp→(St→Hp→Prop)→Prop
abbrev TGs:=List V→St→Hp→(St→Hp→Prop)→Prop
def PG (X:Cx) (target:Expr) (t:TG):Prop :=
 ∀ (pins:List (Addr×Obj)) (s:Shared) (σ:St) (H:Hp) (v:V) (u:Value) (Q:St→Hp→Prop),Inv X pins σ H s→RelV v u→t v σ H Q →
  wpAny (model X.prog X.w) X.A (assign target X.env u) (fun _ s'=>∃ σ' H',Inv X pins σ' H' s'∧Q σ' H') X.xe s
def PGs (X:Cx) (ts:List Expr) (t:TGs):Prop :=
 ∀ (pins:List (Addr×Obj)) (s:Shared) (σ:St) (H:Hp) (vs:List V) (us:List Value) (Q:St→Hp→Prop),Inv X pins σ H s→Vals vs us→t vs σ H Q →
  wpAny (model X.prog X.w) X.A (assignInOrder ((assignEach ts X.env).map (·.2)) us) (fun _ s'=>∃ σ' H',Inv X pins σ' H' s'∧Q σ' H') X.xe s
abbrev TSet:=V→V→V→Hp→(Hp→Prop)→Prop
def PSet (X:Cx) (t:TSet):Prop :=
 ∀ (pins:List (Addr×Obj)) (s:Shared) (σ:St) (H:Hp) (o i v:V) (ov iv u:Value) (Q:Hp→Prop),Inv X pins σ H s→RelV o ov→RelV i iv→RelV v u→t o i v H Q →
  wpAny (model X.prog X.w) X.A (setItem ov iv u) (fun _ s'=>∃ H',Inv X pins σ H' s'∧Q H') X.xe s
abbrev TIp:=V→V→Hp→VK→Prop
def PIp (X:Cx) (op:Operator) (t:TIp):Prop :=
 ∀ (pins:List (Addr×Obj)) (s:Shared) (σ:St) (H:Hp) (x y:V) (v u:Value) (Q:VK),Inv X pins σ H s→RelV x v→RelV y u→t x y H Q →
  wpAny (model X.prog X.w) X.A (inplaceOp op v u) (EP X pins σ Q) X.xe s
section
variable {X:Cx}{pos:Pos}
def zDu (i:Nat):TG:=fun v σ H Q=>Q (σ.set i (some v)) H
theorem zAR {i:Nat}{x:Str} (hN:X.N.Nodup) (hi:X.N[i]? = some x) (hx:Loc X.env.scope x) (hf:X.fn x=true∨X.env.scope.names.lookup x=some .local:=by first | exact .inl rfl | exact .inr rfl | assumption):PG X (.Name x pos) (zDu i):=by
 intro pins s σ H v u Q I r h
 exact wpAny_assign_Name (zEQ I hN hi hx r (fun s' I'=>⟨_,H,I',h⟩) hf)
def gNil:TGs:=fun vs σ H Q=>vs=[]∧Q σ H
def gCons (t:TG) (u:TGs):TGs:=fun vs σ H Q=>∃ v r,vs=v::r∧t v σ H fun σ' H'=>u r σ' H' Q
theorem zBb:PGs X [] gNil:=by
 intro pins s σ H vs us Q I r h
 obtain ⟨e,h⟩:=h
 subst e
 cases r
 exact assignInOrder_nil ⟨σ,H,I,h⟩
theorem zAg {e:Expr}{es:List Expr}{t:TG}{u:TGs} (h1:PG X e t) (h2:PGs X es u)
  (hs:(assignEach (e::es) X.env).map (·.2)=assign e X.env::(assignEach es X.env).map (·.2):=by rfl):PGs X (e::es) (gCons t u):=by
 intro pins s σ H vs us Q I r h
 obtain ⟨v,vr,e1,h⟩:=h
 subst e1
 cases r with
 | cons r rr =>
  rw [hs]
  refine assignInOrder_cons (thn (h1 pins s σ H _ _ _ I r h) fun _ s1 ⟨σ1,H1,I1,q1⟩=>?_)
  exact h2 pins s1 σ1 H1 _ _ Q I1 rr q1
def gTup (K:Fg) (n:Nat) (t:TGs):TG:=fun v σ H Q=>∃ a xs,v = .ref a∧SqT K H a xs∧xs.length=n∧t xs σ H Q
theorem zB3 {es:List Expr}{k:Nat}{t:TGs}{n:Nat} (hc:X.calm=true) (h:PGs X es t)
  (hn:(assignEach es X.env).length=n:=by rfl) (hst:(assignEach es X.env).findIdx? (·.1)=none:=by rfl):PG X (.Tuple es k pos) (gTup X.K n t):=by
 intro pins s σ H v u Q I r hw
 obtain ⟨a,xs,e1,hq,hl,hw⟩:=hw
 subst e1
 cases r
 obtain ⟨its,rv,ht,hz⟩:=I.tuple hq
 refine assign_Tuple_tuple (I.ok.hd hc) ht (by simp [hn,←hl,rv.length]) hst fun h' hx=>?_
 have I1:Inv X pins σ H { s with heap:=h' }:=I.kept (t':=s.toks) fun b o e=>hx b o (Nat.ne_of_lt (Heap.lt_size e)) e
 exact h pins _ σ H xs _ Q I1 (by simpa using rv) hw
def gSub (to ti:TE) (t:TSet):TG:=fun v σ H Q=>to σ H fun o H1=>ti σ H1 fun i H2=>t o i v H2 fun H3=>Q σ H3
theorem zE9 {o i:Expr}{to ti:TE}{t:TSet} (ho:PE X o to) (hi:PE X i ti) (hs:PSet X t)
    (ha:∀ v,assign (.Subscript o i pos) X.env v=(do
      let ov ←holding [v] (eval o X.env)
      let iv ←holding [v,ov] (eval i X.env)
      standAt pos
      holding [v,ov,iv] (setItem ov iv v)
      release [v,ov,iv] []):=by intro _; rfl):PG X (.Subscript o i pos) (gSub to ti t):=by
  intro pins s σ H v u Q I r h
  rw [ha]
  refine wpAny_bind (wpAny_holding (thn (ho pins s σ H _ I h) fun ov s1 ⟨x,H1,I1,r1,q1⟩=>?_))
  refine wpAny_bind (wpAny_holding (thn (hi pins s1 σ H1 _ I1 q1) fun iv s2 ⟨y,H2,I2,r2,q2⟩=>?_))
  refine wpAny_bind (wpAny_standAt (wpAny_bind (wpAny_holding (thn (hs pins s2 σ H2 x y v ov iv u _ I2 r1 r2 r q2) fun _ s3 ⟨H3,I3,q3⟩=>?_))))
  exact wpAny_release ⟨σ,H3,I3,q3⟩
def tAsg (te:TE) (g:TG):TS:=fun D σ H=>te σ H fun x H1=>g x σ H1 D.nx
theorem zE5 {tg e:Expr}{te:TE}{g:TG} (he:PE X e te) (hg:PG X tg g) (hs:swapsWithSole [tg] e pos.line X.env=pure false:=by rfl) (hw:swappedStores [tg] e X.env=pure none:=by rfl)
  (h1:(assignEach [tg] X.env).map (·.2)=[assign tg X.env]:=by rfl):PS X (.Assign [tg] e pos) (tAsg te g):=by
 intro pins s σ H D I h
 refine wpAny_Assign_stores (thn (he pins s σ H _ I h) fun v s1 ⟨x,H1,I1,r1,q1⟩=>?_) hs hw
 rw [h1]
 exact thn (hg pins s1 σ H1 x v _ I1 r1 q1) fun _ s2 q=>q
theorem zAN {i:Nat}{x:Str}{e:Expr}{te:TE}{pos':Pos} (hN:X.N.Nodup) (hi:X.N[i]? = some x) (hx:Loc X.env.scope x) (he:PE X e te) (hs:swapsWith e (some (.Name x pos')) pos.line X.env=pure false:=by rfl) (hf:X.fn x=true∨X.env.scope.names.lookup x=some .local:=by first | exact .inl rfl | exact .inr rfl | assumption) :
  PS X (.Assign [.Name x pos'] e pos) (tAsg te (zDu i)):=by
 intro pins s σ H D I h
 refine wpAny_Assign_Name (thn (he pins s σ H _ I h) fun v s1 ⟨y,H1,I1,r1,q1⟩=>?_) hs
 exact zEQ I1 hN hi hx r1 (fun s2 I2=>⟨_,H1,I2,q1⟩) hf
def tAug (i:Nat) (te:TE) (ti:TIp):TS:=fun D σ H=>∃ x,σ[i]? = some (some x)∧te σ H fun y H1=>ti x y H1 fun z H2=>D.nx (σ.set i (some z)) H2
theorem zC6 {i:Nat}{x:Str}{e:Expr}{te:TE}{op:Operator}{ti:TIp}{pos':Pos} (hN:X.N.Nodup) (hi:X.N[i]? = some x) (hx:Loc X.env.scope x) (he:PE X e te) (ho:PIp X op ti) (hf:X.fn x=true∨X.env.scope.names.lookup x=some .local:=by first | exact .inl rfl | exact .inr rfl | assumption) :
  PS X (.AugAssign (.Name x pos') op e pos) (tAug i te ti):=by
 intro pins s σ H D I h
 obtain ⟨v,e1,h⟩:=h
 obtain ⟨m,hn,hl⟩:=I.loc
 have vis:Vis X.env.scope x:=by rcases hx with k | k; exact .inl k; exact .inr (.inl k)
 obtain ⟨u,r,l⟩:=hl i x v hi e1 vis
 refine wpAny_AugAssign_Name ?_
 have go:wpAny (model X.prog X.w) X.A (eval e X.env) (fun w s₂=>wpAny (model X.prog X.w) X.A (inplaceOp op u w) (fun r s₃=>wpAny (model X.prog X.w) X.A (storeName X.env x r) (fun _=>SP X pins D .next) X.xe s₃) X.xe s₂) X.xe s:=by
  refine thn (he pins s σ H _ I h) fun w s1 ⟨y,H1,I1,r1,q1⟩=>?_
  refine thn (ho pins s1 σ H1 v y u w _ I1 r r1 q1) fun z s2 ⟨zv,H2,I2,r2,q2⟩=>?_
  exact zEQ I2 hN hi hx r2 (fun s3 I3=>⟨_,H2,I3,q2⟩) hf
 rcases l with ⟨hk,hm⟩ | ⟨hk,c,hc,hcell⟩
 ·exact wpAny_loadName_local I.ok.kind hk hn hm go
 ·rcases hk with hk | hk
  ·exact wpAny_loadName_cell I.ok.kind hk hc hcell go
  ·rcases hx with k | k
   ·have:X.env.scope.names.lookup x=some .free:=hk
    rw [k] at this; cases this
   ·have:X.env.scope.names.lookup x=some .free:=hk
    rw [k] at this; cases this
def ipI (f:Int→Int→Int):TIp:=fun x y H Q=>∃ i j,x = .int i∧y = .int j∧Q (.int (f i j)) H
theorem zDA:PIp X .Add (ipI fun i j=>i+j):=by
 intro pins s σ H x y v u Q I r1 r2 h
 obtain ⟨i,j,e1,e2,q⟩:=h
 subst e1; subst e2
 obtain ⟨t,rfl⟩:=r1
 obtain ⟨t',rfl⟩:=r2
 exact iadd_int ⟨.int _,H,I.tok _,⟨_,rfl⟩,q⟩
end
section
variable {X:Cx}{pos:Pos}
def tWhile (c:TT) (tb:TS):TS:=fun D σ H=>∃ W:Nat→St→Hp→Prop,(∃ m,W m σ H)∧∀ m σ H,W m σ H →
 c σ H fun b H1=>if b=true then ∃ N:St→Hp→Prop,(∀ σ' H',N σ' H'→∃ m',m' < m∧W m' σ' H')∧tb { D with nx:=N,ct:=N,bk:=D.nx } σ H1 else D.nx σ H1
theorem zGD {c:Expr}{body:List Stmt}{tc:TT}{tb:TS} (hp:PassesOwn (model X.prog X.w) X.A X.env X.xe) (hc:PT X c tc) (hb:PSs X body tb):PS X (.While c body [] pos) (tWhile tc tb):=by
 intro pins s σ H D I h
 obtain ⟨W,⟨m0,w0⟩,turn⟩:=h
 refine wpAny_While (codeAny_whileLoop (fun n s'=>∃ σ' H',Inv X pins σ' H' s'∧W n σ' H') ?_ m0 ⟨σ,H,I,w0⟩)
 rintro n s1 ⟨σ1,H1,I1,w1⟩
 refine wpAny_passesOwn hp (thn (hc pins s1 σ1 H1 _ I1 (turn n σ1 H1 w1)) fun b s2 ⟨H2,I2,q2⟩=>?_)
 cases b with
 | true =>
  obtain ⟨N,hN,q2⟩:=q2
  rw [if_pos rfl]
  refine wpAny_passesOwn hp (thn (hb pins s2 σ1 H2 _ I2 q2) fun f s3 q3=>?_)
  cases f with
  | next =>
   obtain ⟨σ3,H3,I3,n3⟩:=q3
   obtain ⟨m',hm,w3⟩:=hN σ3 H3 n3
   exact ⟨m',hm,σ3,H3,I3,w3⟩
  | cont =>
   obtain ⟨σ3,H3,I3,n3⟩:=q3
   obtain ⟨m',hm,w3⟩:=hN σ3 H3 n3
   exact ⟨m',hm,σ3,H3,I3,w3⟩
  | brk=>exact q3
  | ret v=>exact q3
 | false =>
  rw [if_neg Bool.false_ne_true]
  exact wpAny_execs_nil ⟨σ1,H2,I2,q2⟩
end
structure It where
 go:Nat→Hp→Prop
 yld:Nat→Hp→V→Hp→Prop
 stop:Nat→Hp→Prop
def FpOk (X:Cx) (pins:List (Addr×Obj)) (H:Hp) (b:Addr):Prop :=
 H b=none∧b≠X.env.locals∧b∉X.fs∧(b∈X.ex∨X.s_0.heap.objs.size≤b)∧(∀ x c,X.env.cells.lookup x=some c→c≠b)∧∀ p∈X.pn++pins,p.1≠b
theorem Inv.fpOk {X:Cx}{pins:List (Addr×Obj)}{σ:St}{H H':Hp}{s:Shared}{b:Addr} (I:Inv X pins σ H s) (hb:s.heap.objs.size≤b) (hn:H' b=none):FpOk X pins H' b:=by
 refine ⟨hn,Nat.ne_of_gt (Nat.lt_of_lt_of_le I.lt hb),I.nofs hb,.inr (Nat.le_trans I.sz hb),fun x c e z=>?_,fun p hp z=>?_⟩
 ·obtain ⟨v,q⟩:=I.cell x c e
  exact absurd (Nat.lt_of_lt_of_le q.lt (by rw [z]; exact hb)) (Nat.lt_irrefl _)
 ·exact absurd (Nat.lt_of_lt_of_le (Heap.lt_size (I.pin p hp).1) (by rw [z]; exact hb)) (Nat.lt_irrefl _)
structure Turn (P:Program) (w:World) (K:Fg) (tg:Expr) (J:It) (fp:List Addr) (it:Addr) (tn:Nat→Heap→Prop):Prop where
 mem:it∈fp
 obj:∀ i h,tn i h→∀ b∈fp,∃ o,h.get? b=some o∧∀ v,o.data≠.cell v
 keep:∀ i h h',tn i h→(∀ b∈fp,∀ o,h.get? b=some o→h'.get? b=some o)→tn i h'
 item:∀ (X:Cx),X.prog=P→X.w=w→X.K=K→X.calm=true→∀ (i:Nat) (pins:List (Addr×Obj)) (s:Shared) (σ:St) (H:Hp) (E:Value→Shared→Prop),Inv X pins σ H s→(∀ b∈fp,FpOk X pins H b)→tn i s.heap→J.go i H →
  wpAny (model P w) X.A (pyNext (.ref it)) (fun r s1=>∃ u,r=some u ∧
   wpAny (model P w) X.A (letOwnedTupleGo tg (.ref it) u) (fun _ s2=>∃ x H',Inv X pins σ H' s2∧RelV x u∧J.yld i H x H'∧tn (i+1) s2.heap∧∀ b∈fp,H' b=none) E s1) E s
 done:∀ (X:Cx),X.prog=P→X.w=w→X.K=K→X.calm=true→∀ (i:Nat) (pins:List (Addr×Obj)) (s:Shared) (σ:St) (H:Hp) (E:Value→Shared→Prop),Inv X pins σ H s→(∀ b∈fp,FpOk X pins H b)→tn i s.heap→J.stop i H →
  wpAny (model P w) X.A (pyNext (.ref it)) (fun r s1=>r=none∧Inv X pins σ H s1) E s
 self:∀ (A:Around) (i:Nat) (s:Shared) (Q:Value→Shared→Prop) (E:Value→Shared→Prop),tn i s.heap→Q (.ref it) s→wpAny (model P w) A (pyIter (.ref it)) Q E s
abbrev TI:=St→Hp→(It→Hp→Prop)→Prop
def PIE (X:Cx) (pins:List (Addr×Obj)) (σ:St) (tg:Expr) (R:It→Hp→Prop) (itv:Value) (s2:Shared):Prop :=
 ∃ (it:Addr) (fp:List Addr) (tn:Nat→Heap→Prop) (J:It) (H':Hp),itv = .ref it∧Inv X pins σ H' s2∧Turn X.prog X.w X.K tg J fp it tn∧tn 0 s2.heap∧(∀ b∈fp,FpOk X pins H' b)∧R J H'
def PI (X:Cx) (tg iter:Expr) (wi:TI):Prop :=
 ∀ (pins:List (Addr×Obj)) (s:Shared) (σ:St) (H:Hp) (R:It→Hp→Prop),Inv X pins σ H s→wi σ H R →
  wpAny (model X.prog X.w) X.A (eval iter X.env) (fun v s1=>wpAny (model X.prog X.w) X.A (pyIter v) (PIE X pins σ tg R) X.xe s1) X.xe s
theorem zFs {M:Model}{A:Around}{E:Value→Shared→Prop}{s:Shared}{tg:Expr}{it:Addr}{u:Value}{o:Obj}{n:String}{vs:Array Value}{Q:Unit→Shared→Prop} (ho:s.heap.get? it=some o) (hc:o.cls = .type n) (hd:o.data = .fields vs)
    (hn:["enumerate","zip","dict_itemiterator","dict_reverseitemiterator","odict_iterator","itertools.zip_longest","itertools.pairwise"].contains n=false) (hQ:Q () s):wpAny M A (letOwnedTupleGo tg (.ref it) u) Q E s:=by
  unfold letOwnedTupleGo
  cases tg <;> first
    | exact wpAny_pure hQ
    | (cases u <;> first
        | exact wpAny_pure hQ
        | (refine wpAny_bind (wpAny_load ho ?_)
           rw [hc,hd]
           show wpAny M A (if (["enumerate","zip","dict_itemiterator","dict_reverseitemiterator","odict_iterator","itertools.zip_longest","itertools.pairwise"].contains n && vs[0]? == some (rawInt _))=true then _ else _) Q E s
           rw [if_neg (by intro h; rw [hn,Bool.false_and] at h; cases h)]
           exact wpAny_pure hQ))
def Itl (K:Fg) (a:Addr):It :=
 ⟨fun i H=>∃ xs x,SqL K H a xs∧xs[i]? = some x,fun i H x H'=>H' = H∧∀ xs,SqL K H a xs→xs[i]? = some x,fun i H=>∃ xs,SqL K H a xs∧xs.length≤i⟩
def Itt (K:Fg) (a:Addr):It :=
 ⟨fun i H=>∃ xs x,SqT K H a xs∧xs[i]? = some x,fun i H x H'=>H' = H∧∀ xs,SqT K H a xs→xs[i]? = some x,fun i H=>∃ xs,SqT K H a xs∧xs.length≤i⟩
def Itr (lo:Int) (n:Nat):It:=⟨fun i _=>i < n,fun i H x H'=>H' = H∧x = .int (lo+i),fun i _=>n≤i⟩
theorem zHJ {P:Program}{w:World}{K:Fg}{tg:Expr} (a it:Addr):Turn P w K tg (Itl K a) [it] it (fun i h=>h.IsListIter it a i) where
 mem:=by simp
 obj:=fun i h st b hb=>by
  have e:b=it:=by simpa using hb
  subst e
  obtain ⟨o,e,c,d⟩:=st
  exact ⟨o,e,fun v z=>by rw [d] at z; cases z⟩
 keep:=fun i h h' st k=>st.at fun o e=>k it (by simp) o e
 item:=by
  intro X hP hw hK hc i pins s σ H E I hf st hg
  subst hP hw hK
  obtain ⟨xs,x,hq,hx⟩:=hg
  obtain ⟨its,rv,p,hz⟩:=I.list hq
  obtain ⟨u,hu,ru⟩:=rv.get hx
  obtain ⟨f0,f1,f2,f3,f4,f5⟩:=hf it (by simp)
  refine wpAny_pyNext_list_item st p.isList (x:=u) (by simpa using hu) fun h' st' sb=>?_
  have I1:Inv X pins σ H { s with heap:=h' }:=I.turned (t':=s.toks) (fun b o hb e=>(sb.2 b hb).trans e) f0 f1 f3 f4 f5
  obtain ⟨o,e,c,d⟩:=id st'
  exact ⟨u,rfl,zFs (s:={ s with heap:=h' }) e c d (by decide) ⟨x,H,I1,ru,⟨rfl,fun ys hy=>by rw [I.list_inj hy hq]; exact hx⟩,st',fun b hb=>(hf b hb).1⟩⟩
 done:=by
  intro X hP hw hK hc i pins s σ H E I hf st hg
  subst hP hw hK
  obtain ⟨xs,hq,hx⟩:=hg
  obtain ⟨its,rv,p,hz⟩:=I.list hq
  obtain ⟨f0,f1,f2,f3,f4,f5⟩:=hf it (by simp)
  have hl:=rv.length
  exact wpAny_pyNext_list_end (I.ok.hd hc) st p.isList (by simp; omega) fun h' eb=>⟨rfl,I.turned (t':=s.toks) (fun b o hb e=>eb b o hb e) f0 f1 f3 f4 f5⟩
 self:=fun _ _ _ _ _ st h=>wpAny_pyIter_listiter st h
theorem zGu {P:Program}{w:World}{K:Fg}{tg:Expr} (a it:Addr):Turn P w K tg (Itt K a) [it] it (fun i h=>h.IsTupleIter it a i) where
 mem:=by simp
 obj:=fun i h st b hb=>by
  have e:b=it:=by simpa using hb
  subst e
  obtain ⟨o,e,c,d⟩:=st
  exact ⟨o,e,fun v z=>by rw [d] at z; cases z⟩
 keep:=fun i h h' st k=>st.at fun o e=>k it (by simp) o e
 item:=by
  intro X hP hw hK hc i pins s σ H E I hf st hg
  subst hP hw hK
  obtain ⟨xs,x,hq,hx⟩:=hg
  obtain ⟨its,rv,p,hz⟩:=I.tuple hq
  obtain ⟨u,hu,ru⟩:=rv.get hx
  obtain ⟨f0,f1,f2,f3,f4,f5⟩:=hf it (by simp)
  refine wpAny_pyNext_tuple_item st (show s.heap.IsTuple a its.toArray from p) (x:=u) (by simpa using hu) fun h' st' sb=>?_
  have I1:Inv X pins σ H { s with heap:=h' }:=I.turned (t':=s.toks) (fun b o hb e=>(sb.2 b hb).trans e) f0 f1 f3 f4 f5
  obtain ⟨o,e,c,d⟩:=id st'
  exact ⟨u,rfl,zFs (s:={ s with heap:=h' }) e c d (by decide) ⟨x,H,I1,ru,⟨rfl,fun ys hy=>by rw [I.tuple_inj hy hq]; exact hx⟩,st',fun b hb=>(hf b hb).1⟩⟩
 done:=by
  intro X hP hw hK hc i pins s σ H E I hf st hg
  subst hP hw hK
  obtain ⟨xs,hq,hx⟩:=hg
  obtain ⟨its,rv,p,hz⟩:=I.tuple hq
  obtain ⟨f0,f1,f2,f3,f4,f5⟩:=hf it (by simp)
  have hl:=rv.length
  exact wpAny_pyNext_tuple_end (I.ok.hd hc) st (show s.heap.IsTuple a its.toArray from p) (by simp; omega) fun h' eb=>⟨rfl,I.turned (t':=s.toks) (fun b o hb e=>eb b o hb e) f0 f1 f3 f4 f5⟩
 self:=fun _ _ _ _ _ st h=>wpAny_pyIter_tupleiter st h
theorem zGv {P:Program}{w:World}{K:Fg}{tg:Expr} (it:Addr) (lo:Int) (n:Nat):Turn P w K tg (Itr lo n) [it] it (fun i h=>IsRangeIter h it (lo+(i:Nat) * 1) ((n:Int) - (i:Nat)) 1) where
 mem:=by simp
 obj:=fun i h st b hb=>by
  have e:b=it:=by simpa using hb
  subst e
  exact ⟨_,st,fun v z=>by
   have z':Data.fields _=Data.cell v:=z
   cases z'⟩
 keep:=fun i h h' st k=>k it (by simp) _ st
 item:=by
  intro X hP hw hK hc i pins s σ H E I hf st hg
  subst hP hw hK
  obtain ⟨f0,f1,f2,f3,f4,f5⟩:=hf it (by simp)
  have W:=Walks.range (prog:=X.prog) (w:=X.w) (I.ok.hd hc) it lo 1 n
  refine W.item i s _ _ hg st fun v h' tk hv st' kk=>?_
  obtain ⟨t,rfl⟩:=hv
  have I1:Inv X pins σ H { s with heap:=h',toks:=tk }:=I.turned (fun b o hb e=>kk b o (by simpa using hb) e) f0 f1 f3 f4 f5
  refine ⟨_,rfl,zFs (s:={ s with heap:=h',toks:=tk }) (n:="range_iterator") st' rfl rfl (by decide) ⟨.int (lo+i),H,I1,⟨t,?_⟩,⟨rfl,rfl⟩,st',fun b hb=>(hf b hb).1⟩⟩
  rw [Int.mul_one]
 done:=by
  intro X hP hw hK hc i pins s σ H E I hf st hg
  subst hP hw hK
  obtain ⟨f0,f1,f2,f3,f4,f5⟩:=hf it (by simp)
  exact wpAny_pyNext_range_end (I.ok.hd hc) st (by have:n≤i:=hg; omega) fun h' eb=>⟨rfl,I.turned (t':=s.toks) (fun b o hb e=>eb b o hb e) f0 f1 f3 f4 f5⟩
 self:=fun _ _ _ _ _ st h=>wpAny_pyIter_rangeiter st h
end L2
namespace L2
open PySem PySem.Spec PyProof.Rows
section
variable {X:Cx}{tg:Expr}
def iList (K:Fg) (tl:TE):TI:=fun σ H R=>tl σ H fun x H1=>∃ a,x = .ref a∧(∃ xs,SqL K H1 a xs)∧R (Itl K a) H1
def iTup (K:Fg) (tl:TE):TI:=fun σ H R=>tl σ H fun x H1=>∃ a,x = .ref a∧(∃ xs,SqT K H1 a xs)∧R (Itt K a) H1
theorem zBi {l:Expr}{tl:TE} (hl:PE X l tl):PI X tg l (iList X.K tl):=by
 intro pins s σ H R I h
 refine thn (hl pins s σ H _ I h) fun v s1 ⟨x,H1,I1,r1,q1⟩=>?_
 obtain ⟨a,e,⟨xs,hq⟩,q⟩:=q1
 subst e
 cases r1
 obtain ⟨its,rv,p,hz⟩:=I1.list hq
 refine wpAny_pyIter_list p.isList ?_
 refine ⟨s1.heap.objs.size,[s1.heap.objs.size],_,_,H1,rfl,I1.kept (t':=s1.toks) fun b o e=>Heap.get?_push_of_some _ e,zHJ a _,⟨_,Heap.get?_push_size _ rfl,rfl,rfl⟩,fun b hb=>?_,q⟩
 have e:b=s1.heap.objs.size:=by simpa using hb
 subst e
 exact I1.fpOk (Nat.le_refl _) (I1.hok.fresh (Nat.le_refl _))
theorem zBV {l:Expr}{tl:TE} (hl:PE X l tl):PI X tg l (iTup X.K tl):=by
 intro pins s σ H R I h
 refine thn (hl pins s σ H _ I h) fun v s1 ⟨x,H1,I1,r1,q1⟩=>?_
 obtain ⟨a,e,⟨xs,hq⟩,q⟩:=q1
 subst e
 cases r1
 obtain ⟨its,rv,p,hz⟩:=I1.tuple hq
 refine wpAny_pyIter_tuple (show s1.heap.IsTuple a its.toArray from p) ?_
 refine ⟨s1.heap.objs.size,[s1.heap.objs.size],_,_,H1,rfl,I1.kept (t':=s1.toks) fun b o e=>Heap.get?_push_of_some _ e,zGu a _,⟨_,Heap.get?_push_size _ rfl,rfl,rfl⟩,fun b hb=>?_,q⟩
 have e:b=s1.heap.objs.size:=by simpa using hb
 subst e
 exact I1.fpOk (Nat.le_refl _) (I1.hok.fresh (Nat.le_refl _))
theorem range_it {pins:List (Addr×Obj)}{σ:St}{H:Hp}{s:Shared}{R:It→Hp→Prop}{E:Value→Shared→Prop}{lo hi:Int}{t u v:Tok}{tk:Nat} (I:Inv X pins σ H s) (h1:-(2 ^ 62)≤lo) (h2:lo < 2 ^ 62) (h3:-(2 ^ 62)≤hi) (h4:hi < 2 ^ 62)
  (q:R (Itr lo (hi - lo).toNat) H):wpAny (model X.prog X.w) X.A (pyIter (.ref s.heap.objs.size)) (PIE X pins σ tg R) E { s with heap:=s.heap.push { cls:=.type "range",data:=.fields #[.int lo t,.int hi u,.int 1 v] },toks:=tk }:=by
 refine wpAny_pyIter_range (IsRange.new ..) (small_one h1 h2 h3 h4) ?_
 have I1:Inv X pins σ H { s with heap:=s.heap.push { cls:=.type "range",data:=.fields #[.int lo t,.int hi u,.int 1 v] },toks:=tk }:=I.kept fun b o e=>Heap.get?_push_of_some _ e
 refine ⟨(s.heap.push { cls:=.type "range",data:=.fields #[.int lo t,.int hi u,.int 1 v] }).objs.size,[(s.heap.push { cls:=.type "range",data:=.fields #[.int lo t,.int hi u,.int 1 v] }).objs.size],_,_,H,rfl,
  I1.kept (t':=tk) fun b o e=>Heap.get?_push_of_some _ e,zGv _ lo (hi - lo).toNat,?_,fun b hb=>?_,q⟩
 ·have e1:lo+((0:Nat):Int) * 1=lo:=by simp
  have e2:(((hi - lo).toNat:Nat):Int) - ((0:Nat):Int)=Builtin.Range.rangeSize lo hi 1:=by rw [rangeSize_one]; split <;> omega
  show IsRangeIter _ _ (lo+((0:Nat):Int) * 1) ((((hi - lo).toNat:Nat):Int) - ((0:Nat):Int)) 1
  rw [e1,e2]
  exact Heap.get?_push_size _ rfl
 ·have e:b=(s.heap.push { cls:=.type "range",data:=.fields #[.int lo t,.int hi u,.int 1 v] }).objs.size:=by simpa using hb
  subst e
  exact I1.fpOk (Nat.le_refl _) (I1.hok.fresh (Nat.le_refl _))
def iRng1 (ta:TA):TI:=fun σ H R=>ta σ H fun vs H1=>∃ j:Int,vs=[.int j]∧-(2 ^ 62)≤j∧j < 2 ^ 62∧R (Itr 0 j.toNat) H1
theorem zB2 {a:Expr}{ta:TA}{p pos:Pos} (hg:Gl X "range") (hm:X.mg "range" = none) (ha:PA X [a] ta) (hs:starEach [a] X.env=[(false,eval a X.env)]:=by rfl):PI X tg (.Call (.Name "range" p) [a] [] pos) (iRng1 ta):=by
 intro pins s σ H R I h
 refine Call_ (zDg I hg hm boot_range (PyProof.Rows.callWith_type1 (thn (ha pos pins s σ H _ I h) fun us s1 ⟨vs,H1,I1,r1,q1⟩=>?_) hs rfl))
 obtain ⟨j,e,q1,q2,q⟩:=q1
 subst e
 cases r1 with
 | cons r rr =>
  cases rr
  obtain ⟨t,rfl⟩:=r
  exact call_range_1 (range_it I1 (by omega) (by omega) q1 q2 (by simpa using q))
def tFor (wi:TI) (g:TG) (tb:TS):TS:=fun D σ H=>wi σ H fun J H1=>∃ W:Nat→Nat→St→Hp→Prop,(∃ m,W 0 m σ H1)∧∀ i m σ H,W i m σ H →
 (J.stop i H∧D.nx σ H)∨(J.go i H∧∃ N:St→Hp→Prop,(∀ σ' H',N σ' H'→∃ m',m' < m∧W (i+1) m' σ' H')∧∀ x H',J.yld i H x H'→g x σ H' fun σ2 H2=>tb { D with nx:=N,ct:=N,bk:=D.nx } σ2 H2)
def zE7 (fp:List Addr) (h:Heap):List (Addr×Obj):=fp.filterMap fun b=>(h.get? b).map fun o=>(b,o)
theorem zCt {fp:List Addr}{h:Heap}{b:Addr}{o:Obj} (hb:b∈fp) (e:h.get? b=some o):(b,o)∈zE7 fp h:=List.mem_filterMap.mpr ⟨b,hb,by rw [e]; rfl⟩
theorem of_pinsAt {fp:List Addr}{h:Heap}{p:Addr×Obj} (hp:p∈zE7 fp h):p.1∈fp∧h.get? p.1=some p.2:=by
 obtain ⟨b,hb,e⟩:=List.mem_filterMap.mp hp
 cases q:h.get? b with
 | none=>rw [q] at e; cases e
 | some o =>
  rw [q] at e
  have e':(b,o)=p:=Option.some.inj e
  subst e'
  exact ⟨hb,q⟩
theorem Inv.pinned {pins:List (Addr×Obj)}{σ:St}{H:Hp}{s:Shared}{fp:List Addr} (I:Inv X pins σ H s) (hf:∀ b∈fp,FpOk X pins H b) (ho:∀ b∈fp,∃ o,s.heap.get? b=some o∧∀ v,o.data≠.cell v):Inv X (pins++zE7 fp s.heap) σ H s :=
 I.pins_of fun p hp=>(List.mem_append.mp hp).elim (fun z=>I.pin p (List.mem_append_right _ z)) fun z=>by
  obtain ⟨hb,e⟩:=of_pinsAt z
  obtain ⟨f0,f1,f2,_⟩:=hf p.1 hb
  obtain ⟨o,e',d⟩:=ho p.1 hb
  rw [e] at e'; cases e'
  exact ⟨e,f0,f1,f2,d⟩
theorem Inv.unpinned {pins pl:List (Addr×Obj)}{σ:St}{H:Hp}{s:Shared} (I:Inv X (pins++pl) σ H s):Inv X pins σ H s:=I.pins_of fun p hp=>I.pin p (List.mem_append_right _ (List.mem_append_left _ hp))
theorem zA6 {iter:Expr}{body:List Stmt}{wi:TI}{g:TG}{tb:TS}{pos:Pos} (hp:PassesOwn (model X.prog X.w) X.A X.env X.xe) (hc:X.calm=true) (hi:PI X tg iter wi) (hg:PG X tg g) (hb:PSs X body tb)
  (hs:∀ x,foldedSetIterable iter X.env x=pure x:=by intro _; rfl):PS X (.For tg iter body [] pos) (tFor wi g tb):=by
 intro pins s σ H D I h
 refine wpAny_For (thn (hi pins s σ H _ I h) fun v s1 h1=>thn h1 fun itv s2 h2=>?_) hs
 obtain ⟨it,fp,tn,J,H2,e,I2,T,st2,f2,W,⟨m0,w0⟩,turn⟩:=h2
 subst e
 have stat:∀ {H':Hp},(∀ b∈fp,H' b=none)→∀ b∈fp,FpOk X pins H' b:=fun hn b hb=>⟨hn b hb,(f2 b hb).2⟩
 refine codeAny_forLoop_any (fun n s'=>∃ i σ' H',Inv X pins σ' H' s'∧tn i s'.heap∧(∀ b∈fp,H' b=none)∧W i n σ' H') ?_ m0 ⟨0,σ,H2,I2,st2,fun b hb=>(f2 b hb).1,w0⟩
 rintro n s3 ⟨i,σ3,H3,I3,st3,fr3,w3⟩
 rcases turn i n σ3 H3 w3 with ⟨stop,qn⟩ | ⟨go,N,hN,step⟩
 ·refine wpAny_passesOwn hp (thn (T.done X rfl rfl rfl hc i pins s3 σ3 H3 X.xe I3 (stat fr3) st3 stop) fun r s4 ⟨hr,I4⟩=>?_)
  subst hr
  exact wpAny_execs_nil ⟨σ3,H3,I4,qn⟩
 ·refine wpAny_passesOwn hp (thn (T.item X rfl rfl rfl hc i pins s3 σ3 H3 X.xe I3 (stat fr3) st3 go) fun r s4 ⟨u,hr,h4⟩=>?_)
  subst hr
  refine wpAny_passesOwn hp (thn h4 fun _ s5 ⟨x,H5,I5,r5,y5,st5,fr5⟩=>?_)
  have I5':=I5.pinned (stat fr5) (T.obj _ _ st5)
  refine wpAny_passesOwn hp (thn (hg _ s5 σ3 H5 x u _ I5' r5 (step x H5 y5)) fun _ s6 ⟨σ6,H6,I6,q6⟩=>?_)
  refine wpAny_passesOwn hp (thn (hb _ s6 σ6 H6 _ I6 q6) fun f s7 q7=>?_)
  have again:∀ {σ7:St}{H7:Hp},Inv X (pins++zE7 fp s5.heap) σ7 H7 s7→N σ7 H7→∃ m,m < n∧∃ i σ' H',Inv X pins σ' H' s7∧tn i s7.heap∧(∀ b∈fp,H' b=none)∧W i m σ' H':=fun {σ7 H7} I7 n7=>by
   obtain ⟨m',hm,w7⟩:=hN σ7 H7 n7
   refine ⟨m',hm,i+1,σ7,H7,I7.unpinned,T.keep _ _ _ st5 fun b hb o e=>(I7.pin (b,o) (List.mem_append_right _ (List.mem_append_right _ (zCt hb e)))).1,fun b hb=>?_,w7⟩
   obtain ⟨o,e,d⟩:=T.obj _ _ st5 b hb
   exact (I7.pin (b,o) (List.mem_append_right _ (List.mem_append_right _ (zCt hb e)))).2.1
  cases f with
  | next=>obtain ⟨σ7,H7,I7,n7⟩:=q7; exact again I7 n7
  | cont=>obtain ⟨σ7,H7,I7,n7⟩:=q7; exact again I7 n7
  | brk=>obtain ⟨σ7,H7,I7,q7⟩:=q7; exact ⟨σ7,H7,I7.unpinned,q7⟩
  | ret v=>obtain ⟨x7,σ7,H7,I7,r7,q7⟩:=q7; exact ⟨x7,σ7,H7,I7.unpinned,r7,q7⟩
end
theorem zBw {K:Fg}{a:Addr}{xs:List V}{g:TG}{tb:TS}{D:Ends}{σ:St}{H:Hp} (Pv:Nat→St→Hp→Prop) (h0:Pv 0 σ H) (hl:∀ i σ H,i≤xs.length→Pv i σ H→SqL K H a xs)
  (hs:∀ i x σ H,xs[i]? = some x→Pv i σ H→g x σ H fun σ2 H2=>tb { D with nx:=Pv (i+1),ct:=Pv (i+1),bk:=D.nx } σ2 H2) (hd:∀ σ H,Pv xs.length σ H→D.nx σ H) :
  ∃ W:Nat→Nat→St→Hp→Prop,(∃ m,W 0 m σ H)∧∀ i m σ H,W i m σ H →
   ((Itl K a).stop i H∧D.nx σ H)∨((Itl K a).go i H∧∃ N:St→Hp→Prop,(∀ σ' H',N σ' H'→∃ m',m' < m∧W (i+1) m' σ' H')∧∀ x H',(Itl K a).yld i H x H'→g x σ H' fun σ2 H2=>tb { D with nx:=N,ct:=N,bk:=D.nx } σ2 H2):=by
 refine ⟨fun i m σ H=>m=xs.length - i∧i≤xs.length∧Pv i σ H,⟨xs.length,by simp,Nat.zero_le _,h0⟩,?_⟩
 rintro i m σ H ⟨rfl,hi,p⟩
 have q:=hl i σ H hi p
 by_cases hlt:i < xs.length
 ·refine .inr ⟨⟨xs,xs[i],q,by simp [hlt]⟩,Pv (i+1),fun σ' H' p'=>⟨xs.length - (i+1),by omega,rfl,hlt,p'⟩,fun x H' y=>?_⟩
  obtain ⟨e,y⟩:=y
  subst e
  exact hs i x σ _ (y xs q) p
 ·have e:i=xs.length:=by omega
  subst e
  exact .inl ⟨⟨xs,q,Nat.le_refl _⟩,hd σ H p⟩
theorem zCw {K:Fg}{a:Addr}{xs:List V}{g:TG}{tb:TS}{D:Ends}{σ:St}{H:Hp} (Pv:Nat→St→Hp→Prop) (h0:Pv 0 σ H) (hl:∀ i σ H,i≤xs.length→Pv i σ H→SqT K H a xs)
  (hs:∀ i x σ H,xs[i]? = some x→Pv i σ H→g x σ H fun σ2 H2=>tb { D with nx:=Pv (i+1),ct:=Pv (i+1),bk:=D.nx } σ2 H2) (hd:∀ σ H,Pv xs.length σ H→D.nx σ H) :
  ∃ W:Nat→Nat→St→Hp→Prop,(∃ m,W 0 m σ H)∧∀ i m σ H,W i m σ H →
   ((Itt K a).stop i H∧D.nx σ H)∨((Itt K a).go i H∧∃ N:St→Hp→Prop,(∀ σ' H',N σ' H'→∃ m',m' < m∧W (i+1) m' σ' H')∧∀ x H',(Itt K a).yld i H x H'→g x σ H' fun σ2 H2=>tb { D with nx:=N,ct:=N,bk:=D.nx } σ2 H2):=by
 refine ⟨fun i m σ H=>m=xs.length - i∧i≤xs.length∧Pv i σ H,⟨xs.length,by simp,Nat.zero_le _,h0⟩,?_⟩
 rintro i m σ H ⟨rfl,hi,p⟩
 have q:=hl i σ H hi p
 by_cases hlt:i < xs.length
 ·refine .inr ⟨⟨xs,xs[i],q,by simp [hlt]⟩,Pv (i+1),fun σ' H' p'=>⟨xs.length - (i+1),by omega,rfl,hlt,p'⟩,fun x H' y=>?_⟩
  obtain ⟨e,y⟩:=y
  subst e
  exact hs i x σ _ (y xs q) p
 ·have e:i=xs.length:=by omega
  subst e
  exact .inl ⟨⟨xs,q,Nat.le_refl _⟩,hd σ H p⟩
theorem for_range {lo:Int}{n:Nat}{g:TG}{tb:TS}{D:Ends}{σ:St}{H:Hp} (Pv:Nat→St→Hp→Prop) (h0:Pv 0 σ H)
  (hs:∀ i σ H,i < n→Pv i σ H→g (.int (lo+i)) σ H fun σ2 H2=>tb { D with nx:=Pv (i+1),ct:=Pv (i+1),bk:=D.nx } σ2 H2) (hd:∀ σ H,Pv n σ H→D.nx σ H) :
  ∃ W:Nat→Nat→St→Hp→Prop,(∃ m,W 0 m σ H)∧∀ i m σ H,W i m σ H →
   ((Itr lo n).stop i H∧D.nx σ H)∨((Itr lo n).go i H∧∃ N:St→Hp→Prop,(∀ σ' H',N σ' H'→∃ m',m' < m∧W (i+1) m' σ' H')∧∀ x H',(Itr lo n).yld i H x H'→g x σ H' fun σ2 H2=>tb { D with nx:=N,ct:=N,bk:=D.nx } σ2 H2):=by
 refine ⟨fun i m σ H=>m=n - i∧i≤n∧Pv i σ H,⟨n,by simp,Nat.zero_le _,h0⟩,?_⟩
 rintro i m σ H ⟨rfl,hi,p⟩
 by_cases hlt:i < n
 ·refine .inr ⟨hlt,Pv (i+1),fun σ' H' p'=>⟨n - (i+1),by omega,rfl,hlt,p'⟩,fun x H' y=>?_⟩
  obtain ⟨e,y⟩:=y
  subst e y
  exact hs i σ _ hlt p
 ·have e:i=n:=by omega
  subst e
  exact .inl ⟨Nat.le_refl _,hd σ H p⟩
end L2
namespace L2
open PySem PySem.Spec PyProof.Rows
abbrev R2:=V→V→Hp→VK→Prop
def OpR (X:Cx) (f:Value→Value→Sem Value) (r:R2):Prop :=
 ∀ (pins:List (Addr×Obj)) (s:Shared) (σ:St) (H:Hp) (x y:V) (v u:Value) (Q:VK),Inv X pins σ H s→RelV x v→RelV y u→r x y H Q →
  wpAny (model X.prog X.w) X.A (f v u) (EP X pins σ Q) X.xe s
def UnR (X:Cx) (f:Value→Sem Value) (r:V→Hp→VK→Prop):Prop :=
 ∀ (pins:List (Addr×Obj)) (s:Shared) (σ:St) (H:Hp) (x:V) (v:Value) (Q:VK),Inv X pins σ H s→RelV x v→r x H Q →
  wpAny (model X.prog X.w) X.A (f v) (EP X pins σ Q) X.xe s
def zDs (X:Cx) (f:Value) (r:List V→Hp→VK→Prop):Prop :=
 ∀ (pins:List (Addr×Obj)) (s:Shared) (σ:St) (H:Hp) (xs:List V) (us:List Value) (Q:VK),Inv X pins σ H s→Vals xs us→r xs H Q →
  wpAny (model X.prog X.w) X.A (call f us) (EP X pins σ Q) X.xe s
def tOp (r:R2) (ta tb:TE):TE:=fun σ H Q=>ta σ H fun x H1=>tb σ H1 fun y H2=>r x y H2 Q
def tUn (r:V→Hp→VK→Prop) (ta:TE):TE:=fun σ H Q=>ta σ H fun x H1=>r x H1 Q
inductive QJ (g:Int→Int→V) (x y:V) (H:Hp) (Q:VK):Prop
 | mk (i j:Int) (h1:x = .int i) (h2:y = .int j) (k:Q (g i j) H)
def rI0 (g:Int→Int→V):R2:=fun x y H Q=>QJ g x y H Q
def rU (g:Int→V):V→Hp→VK→Prop:=fun x H Q=>∃ i,x = .int i∧Q (g i) H
section
variable {X:Cx}{a b c:Expr}{ta tb tc:TE}{pos:Pos}
theorem binT (ha:PE X a ta) (hb:PE X b tb) {pins:List (Addr×Obj)}{s:Shared}{σ:St}{H:Hp}{R:V→V→Hp→Prop} (I:Inv X pins σ H s)
  (h:ta σ H fun x H1=>tb σ H1 fun y H2=>R x y H2) {Q:Value→Shared→Prop}{f:Value→Value→Sem Value}
  (hf:∀ v u s2 x y H2,Inv X pins σ H2 s2→RelV x v→RelV y u→R x y H2→wpAny (model X.prog X.w) X.A (f v u) Q X.xe s2) :
  wpAny (model X.prog X.w) X.A (eval a X.env) (fun v s₁=>wpAny (model X.prog X.w) X.A (eval b X.env) (fun u s₂=>wpAny (model X.prog X.w) X.A (f v u) Q X.xe s₂) X.xe s₁) X.xe s:=by
 refine thn (ha pins s σ H _ I h) fun v s1 ⟨x,H1,I1,r1,q1⟩=>?_
 refine thn (hb pins s1 σ H1 _ I1 q1) fun u s2 ⟨y,H2,I2,r2,q2⟩=>?_
 exact hf v u s2 x y H2 I2 r1 r2 q2
theorem zA8 {op:Operator}{r:R2} (ho:OpR X (binaryOp op) r) (ha:PE X a ta) (hb:PE X b tb):PE X (.BinOp a op b pos) (tOp r ta tb):=by
 intro pins s σ H Q I h
 exact wpAny_BinOp (binT ha hb I h fun v u s2 x y H2 I2 rx ry q=>ho pins s2 σ H2 x y v u Q I2 rx ry q)
theorem zFA {op:UnaryOp}{r:V→Hp→VK→Prop} (ho:UnR X (unaryOp op) r) (ha:PE X a ta):PE X (.UnaryOp op a pos) (tUn r ta):=by
 intro pins s σ H Q I h
 exact UnaryOp_ (thn (ha pins s σ H _ I h) fun v s1 ⟨x,H1,I1,r1,q1⟩=>ho pins s1 σ H1 x v Q I1 r1 q1)
theorem opI0 {f:Value→Value→Sem Value}{g:Int→Int→Int}
  (rule:∀ (i j:Int) (t u:Tok) (s:Shared) (Q:Value→Shared→Prop) (E:Value→Shared→Prop),Q (.int (g i j) s.toks) { s with toks:=s.toks+1 }→wpAny (model X.prog X.w) X.A (f (.int i t) (.int j u)) Q E s) :
  OpR X f (rI0 fun i j=>.int (g i j)):=by
 intro pins s σ H x y v u Q I rx ry h
 obtain ⟨i,j,rfl,rfl,q⟩:=h
 obtain ⟨t,rfl⟩:=rx
 obtain ⟨t',rfl⟩:=ry
 exact rule i j t t' s _ _ ⟨.int (g i j),H,I.tok _,⟨_,rfl⟩,q⟩
theorem opB0 {f:Value→Value→Sem Value}{g:Int→Int→Bool}
  (rule:∀ (i j:Int) (t u:Tok) (s:Shared) (Q:Value→Shared→Prop) (E:Value→Shared→Prop),Q (.bool (g i j)) s→wpAny (model X.prog X.w) X.A (f (.int i t) (.int j u)) Q E s) :
  OpR X f (rI0 fun i j=>.bl (g i j)):=by
 intro pins s σ H x y v u Q I rx ry h
 obtain ⟨i,j,rfl,rfl,q⟩:=h
 obtain ⟨t,rfl⟩:=rx
 obtain ⟨t',rfl⟩:=ry
 exact rule i j t t' s _ _ ⟨.bl (g i j),H,I,rfl,q⟩
theorem zBK:OpR X (binaryOp .Add) (rI0 fun i j=>.int (i+j)):=opI0 fun _ _ _ _ _ _ _ q=>add_int q
theorem zD2:OpR X (binaryOp .Sub) (rI0 fun i j=>.int (i - j)):=opI0 fun _ _ _ _ _ _ _ q=>sub_int q
theorem unI {f:Value→Sem Value}{g:Int→Int}
  (rule:∀ (i:Int) (t:Tok) (s:Shared) (Q:Value→Shared→Prop) (E:Value→Shared→Prop),Q (.int (g i) s.toks) { s with toks:=s.toks+1 }→wpAny (model X.prog X.w) X.A (f (.int i t)) Q E s) :
  UnR X f (rU fun i=>.int (g i)):=by
 intro pins s σ H x v Q I rx h
 obtain ⟨i,rfl,q⟩:=h
 obtain ⟨t,rfl⟩:=rx
 exact rule i t s _ _ ⟨.int (g i),H,I.tok _,⟨_,rfl⟩,q⟩
theorem zCz:UnR X (unaryOp .USub) (rU fun i=>.int (-i)):=unI fun _ _ _ _ _ q=>neg_int q
end
def scal:V→V→Bool
 | .non,.non=>true | .non,.int _=>true | .int _,.non=>true | .non,.bl _=>true | .bl _,.non=>true | .non,.str _=>true | .str _,.non=>true
 | .int _,.int _=>true | .bl _,.bl _=>true | .str _,.str _=>true | .byt _,.byt _=>true
 | .int _,.str _=>true | .str _,.int _=>true | .bl _,.str _=>true | .str _,.bl _=>true
 | _,_=>false
def rEq:R2:=fun x y H Q=>scal x y=true∧Q (.bl (decide (x=y))) H
def rNe:R2:=fun x y H Q=>scal x y=true∧Q (.bl (!decide (x=y))) H
theorem dec_int {i j:Int}:decide (V.int i=V.int j)=(i == j):=by
 rw [Bool.eq_iff_iff]
 simp
theorem dec_bl {i j:Bool}:decide (V.bl i=V.bl j)=(i == j):=by
 rw [Bool.eq_iff_iff]
 simp
theorem dec_str {i j:Str}:decide (V.str i=V.str j)=(i == j):=by
 rw [Bool.eq_iff_iff]
 simp
theorem dec_byt {i j:Array UInt8}:decide (V.byt i=V.byt j)=(i.toList == j.toList):=by
 rw [Bool.eq_iff_iff]
 cases i
 cases j
 simp
section
variable {X:Cx}{a b c:Expr}{ta tb tc:TE}{pos:Pos}
theorem zAq {pins:List (Addr×Obj)}{σ:St}{H:Hp}{s:Shared}{Q:VK}{k k':Bool} (I:Inv X pins σ H s) (q:Q (.bl k) H) (e:k=k'):EP X pins σ Q (.bool k') s:=by
 subst e
 exact ⟨.bl k,H,I,rfl,q⟩
theorem zBn:OpR X (compareOp .Eq) rEq:=by
 intro pins s σ H x y v u Q I rx ry h
 obtain ⟨hs,q⟩:=h
 cases x with
 | non =>
  cases rx
  cases y with
  | non=>cases ry; exact PySem.EqNone.eq_none_none (zAq I q (by simp))
  | bl j=>cases ry; exact PySem.EqNone.eq_none_bool (zAq I q (by simp))
  | int j=>obtain ⟨t',rfl⟩:=ry; exact PySem.EqNone.eq_none_int (zAq I q (by simp))
  | str j=>obtain ⟨t',rfl⟩:=ry; exact PySem.EqNone.eq_none_str (zAq I q (by simp))
  | _=>exact absurd (show false=true from hs) Bool.false_ne_true
 | bl i =>
  cases rx
  cases y with
  | non=>cases ry; exact PySem.EqNone.eq_bool_none (zAq I q (by simp))
  | bl j=>cases ry; exact eq_bool (zAq I q dec_bl)
  | str j=>obtain ⟨t',rfl⟩:=ry; exact PySem.EqMixed.eq_bool_str (zAq I q (by simp))
  | _=>exact absurd (show false=true from hs) Bool.false_ne_true
 | int i =>
  obtain ⟨t,rfl⟩:=rx
  cases y with
  | non=>cases ry; exact PySem.EqNone.eq_int_none (zAq I q (by simp))
  | int j=>obtain ⟨t',rfl⟩:=ry; exact eq_int (zAq I q dec_int)
  | str j=>obtain ⟨t',rfl⟩:=ry; exact PySem.EqMixed.eq_int_str (zAq I q (by simp))
  | _=>exact absurd (show false=true from hs) Bool.false_ne_true
 | str i =>
  obtain ⟨t,rfl⟩:=rx
  cases y with
  | non=>cases ry; exact PySem.EqNone.eq_str_none (zAq I q (by simp))
  | bl j=>cases ry; exact PySem.EqMixed.eq_str_bool (zAq I q (by simp))
  | int j=>obtain ⟨t',rfl⟩:=ry; exact PySem.EqMixed.eq_str_int (zAq I q (by simp))
  | str j=>obtain ⟨t',rfl⟩:=ry; exact eq_str (zAq I q dec_str)
  | _=>exact absurd (show false=true from hs) Bool.false_ne_true
 | byt i =>
  obtain ⟨t,rfl⟩:=rx
  cases y with
  | byt j=>obtain ⟨t',rfl⟩:=ry; exact PySem.W.eq_bytes (zAq I q dec_byt)
  | _=>exact absurd (show false=true from hs) Bool.false_ne_true
 | _=>cases y <;> exact absurd (show false=true from hs) Bool.false_ne_true
theorem op_ne:OpR X (compareOp .NotEq) rNe:=by
 intro pins s σ H x y v u Q I rx ry h
 obtain ⟨hs,q⟩:=h
 cases x with
 | non =>
  cases rx
  cases y with
  | non=>cases ry; exact PySem.EqNone.ne_none_none (zAq I q (by simp))
  | bl j=>cases ry; exact PySem.EqNone.ne_none_bool (zAq I q (by simp))
  | int j=>obtain ⟨t',rfl⟩:=ry; exact PySem.EqNone.ne_none_int (zAq I q (by simp))
  | str j=>obtain ⟨t',rfl⟩:=ry; exact PySem.EqNone.ne_none_str (zAq I q (by simp))
  | _=>exact absurd (show false=true from hs) Bool.false_ne_true
 | bl i =>
  cases rx
  cases y with
  | non=>cases ry; exact PySem.EqNone.ne_bool_none (zAq I q (by simp))
  | bl j=>cases ry; exact ne_bool (zAq I q (congrArg not dec_bl))
  | str j=>obtain ⟨t',rfl⟩:=ry; exact PySem.EqMixed.ne_bool_str (zAq I q (by simp))
  | _=>exact absurd (show false=true from hs) Bool.false_ne_true
 | int i =>
  obtain ⟨t,rfl⟩:=rx
  cases y with
  | non=>cases ry; exact PySem.EqNone.ne_int_none (zAq I q (by simp))
  | int j=>obtain ⟨t',rfl⟩:=ry; exact ne_int (zAq I q (congrArg not dec_int))
  | str j=>obtain ⟨t',rfl⟩:=ry; exact PySem.EqMixed.ne_int_str (zAq I q (by simp))
  | _=>exact absurd (show false=true from hs) Bool.false_ne_true
 | str i =>
  obtain ⟨t,rfl⟩:=rx
  cases y with
  | non=>cases ry; exact PySem.EqNone.ne_str_none (zAq I q (by simp))
  | bl j=>cases ry; exact PySem.EqMixed.ne_str_bool (zAq I q (by simp))
  | int j=>obtain ⟨t',rfl⟩:=ry; exact PySem.EqMixed.ne_str_int (zAq I q (by simp))
  | str j=>obtain ⟨t',rfl⟩:=ry; exact ne_str (zAq I q (congrArg not dec_str))
  | _=>exact absurd (show false=true from hs) Bool.false_ne_true
 | byt i =>
  obtain ⟨t,rfl⟩:=rx
  cases y with
  | byt j=>obtain ⟨t',rfl⟩:=ry; exact PySem.W.ne_bytes (zAq I q (congrArg not dec_byt))
  | _=>exact absurd (show false=true from hs) Bool.false_ne_true
 | _=>cases y <;> exact absurd (show false=true from hs) Bool.false_ne_true
theorem zFD:OpR X (compareOp .Lt) (rI0 fun i j=>.bl (decide (i < j))):=opB0 fun _ _ _ _ _ _ _ q=>lt_int q
theorem zFj:OpR X (compareOp .LtE) (rI0 fun i j=>.bl (decide (i≤j))):=opB0 fun _ _ _ _ _ _ _ q=>le_int q
theorem op_gt:OpR X (compareOp .Gt) (rI0 fun i j=>.bl (decide (j < i))):=opB0 fun _ _ _ _ _ _ _ q=>gt_int q
theorem op_ge:OpR X (compareOp .GtE) (rI0 fun i j=>.bl (decide (j≤i))):=opB0 fun _ _ _ _ _ _ _ q=>ge_int q
theorem zAb (b:Expr) {op:CmpOp} (h:op≠.In:=by decide) (h2:op≠.NotIn:=by decide):behindInMarks op b=false:=by
 have e1:(op == CmpOp.In)=false:=by cases op <;> first | rfl | exact absurd rfl h
 have e2:(op == CmpOp.NotIn)=false:=by cases op <;> first | rfl | exact absurd rfl h2
 cases b <;> simp [behindInMarks,e1,e2]
theorem zB4 {op:CmpOp}{r:R2} (ho:OpR X (compareOp op) r) (ha:PE X a ta) (hb:PE X b tb) (hm:behindInMarks op b=false):PE X (.Compare a [op] [b] pos) (tOp r ta tb):=by
 intro pins s σ H Q I h
 exact wpAny_Compare1 (binT ha hb I h fun v u s2 x y H2 I2 rx ry q=>ho pins s2 σ H2 x y v u Q I2 rx ry q) hm
def tTest (t:TE):TT:=fun σ H Q=>t σ H fun x H'=>QB x H' Q
theorem zAX {op:CmpOp}{r:R2} (ho:OpR X (compareOp op) r) (ha:PE X a ta) (hb:PE X b tb) (hm:behindInMarks op b=false):PT X (.Compare a [op] [b] pos) (tTest (tOp r ta tb)):=by
 intro pins s σ H Q I h
 refine wpAny_isTrue_Compare1 (thn (ha pins s σ H _ I h) fun v s1 ⟨x,H1,I1,r1,q1⟩=>thn (hb pins s1 σ H1 _ I1 q1) fun u s2 ⟨y,H2,I2,r2,q2⟩ =>
  thn (ho pins s2 σ H2 x y v u _ I2 r1 r2 q2) fun c s3 ⟨z,H3,I3,r3,k,e,q3⟩=>?_) hm
 subst e
 cases r3
 exact wpAny_truthy_bool ⟨H3,I3,q3⟩
def tChain (r r':R2) (ta tb tc:TE):TE:=fun σ H Q=>ta σ H fun x H1=>tb σ H1 fun y H2=>r x y H2 fun z H3=>∃ k,z = .bl k ∧
 (if k=true then tc σ H3 fun w' H4=>r' y w' H4 Q else Q (.bl false) H3)
theorem zEb {op op':CmpOp}{r r':R2} (ho:OpR X (compareOp op) r) (ho':OpR X (compareOp op') r') (ha:PE X a ta) (hb:PE X b tb) (hc:PE X c tc)
  (hm:lastMarks [op,op'] [b,c]=false:=by with_unfolding_all rfl):PT X (.Compare a [op,op'] [b,c] pos) (tTest (tChain r r' ta tb tc)):=by
 intro pins s σ H Q I h
 refine isTrue_chain (thn (ha pins s σ H _ I h) fun v s1 ⟨x,H1,I1,r1,q1⟩=>test_link (thn (hb pins s1 σ H1 _ I1 q1) fun u s2 ⟨y,H2,I2,r2,q2⟩ =>
  thn (ho pins s2 σ H2 x y v u _ I2 r1 r2 q2) fun d s3 ⟨z,H3,I3,r3,k,e,q3⟩=>?_)) hm
 subst e
 cases r3
 refine wpAny_truthy_bool ?_
 cases k with
 | false =>
  obtain ⟨k',e',q'⟩:=q3
  cases e'
  exact ite_ff ⟨H3,I3,q'⟩
 | true =>
  refine ite_tt (test_last (thn (hc pins s3 σ H3 _ I3 q3) fun w' s4 ⟨z',H4,I4,r4,q4⟩=>thn (ho' pins s4 σ H4 y z' u w' _ I4 r2 r4 q4) fun d' s5 ⟨z2,H5,I5,r5,k2,e2,q5⟩=>?_))
  subst e2
  cases r5
  exact wpAny_truthy_bool ⟨H5,I5,q5⟩
theorem zGW:(sizeLine:Nat) < 2 ^ 63:=by rw [sizeLine_eq]; decide
theorem zGs {x:V}{us:List Value} (r:Vals [x] us):∃ u,us=[u]∧RelV x u:=by
 cases r with
 | cons r1 r2=>cases r2; exact ⟨_,rfl,r1⟩
theorem vals2 {x y:V}{us:List Value} (r:Vals [x,y] us):∃ u w',us=[u,w']∧RelV x u∧RelV y w':=by
 cases r with
 | cons r1 r2 =>
  cases r2 with
  | cons r3 r4=>cases r4; exact ⟨_,_,rfl,r1,r3⟩
end
end L2
namespace L2
open PySem PySem.Spec PyProof.Rows
structure ObjM (h:Heap) (x dx C:Addr) (mA:MG):Prop where
 obj:h.get? x=some (PySem.W.instObj C dx)
 ns:h.Ns1 dx mA
 ne:dx≠x
theorem lookIn_ns {h:Heap}{dx:Addr}{mA:MG} (n:h.Ns1 dx mA):∃ od,h.get? dx=some od∧∀ name,PySem.W.lookIn name od=some (mA name):=by
 obtain ⟨o,es,ep,ho,hd,hk,_,hm⟩:=n
 refine ⟨o,ho,fun name=>?_⟩
 have e:=hm name
 unfold nsFind findBy at e
 rw [←Array.find?_toList] at e
 unfold PySem.W.lookIn
 rw [hd]
 dsimp only
 split
 ·rename_i y q
  rw [q] at e
  exact congrArg some e
 ·rename_i q
  rw [q] at e
  have a:es.toList.any (·.refKey)=false:=by
   rw [List.any_eq_false]
   intro y hy
   obtain ⟨z,t,hkey⟩:=hk y (Array.mem_toList_iff.mp hy)
   simp [DictEntry.refKey,hkey]
  have a':¬ es.toList.any (·.refKey)=true:=by rw [a]; exact Bool.false_ne_true
  rw [if_neg a']
  exact congrArg some e
theorem ObjM.look {h:Heap}{x dx C:Addr}{mA:MG} (I:ObjM h x dx C mA):∃ od,PySem.W.InstAt h x (PySem.W.instObj C dx) C (some od)∧∀ name,PySem.W.lookIn name od=some (mA name) :=
 let ⟨od,ho,hl⟩:=lookIn_ns I.ns
 ⟨od,⟨I.obj,rfl,rfl,ho⟩,hl⟩
section
variable {prog:Program}{w:World}{A:Around}{E:Value→Shared→Prop}{s:Shared}{K:Fg}{x dx C f:Addr}{mA:MG}{name:Str}{v:Value}
theorem get_map {expr:Bool}{Q:Value→Shared→Prop} (X:K.In s.heap) (I:ObjM s.heap x dx C mA) (hg:PySem.W.plainGet K C name=true) (hh:PySem.W.hasDictIn K C=true)
  (ha:PySem.W.findIn K (.ref C) name=some none) (hv:mA name=some v) (hv':PySem.W.handedIn v=true) (h:Q v { s with toks:=s.toks+1 }) :
  wpAny (model prog w) A (getAttr (.ref x) name expr) Q E s:=by
 obtain ⟨od,J,hl⟩:=I.look
 exact PySem.W.get_value X J (PySem.W.plainGet_of hg).1 (PySem.W.findObj_own hh ha rfl (by rw [hl,hv])) hv' h
theorem get_meth {pl:Sem Bool}{Q:Value×List Value→Shared→Prop} (X:K.In s.heap) (I:ObjM s.heap x dx C mA) (hg:PySem.W.plainGet K C name=true)
  (hf:PySem.W.findIn K (.ref C) name=some (some (.ref f))) (ht:PySem.W.isFn K (.ref f)=true) (hv:mA name=none) (h:Q (.ref f,[.ref x]) s) :
  wpAny (model prog w) A (getMethod (.ref x) name pl) Q E s:=by
 obtain ⟨od,J,hl⟩:=I.look
 exact PySem.W.method_fn X J (PySem.W.plainGet_of hg).1 (PySem.W.plainGet_of hg).2 hf (beq_iff_eq.mp ht) (by show (PySem.W.lookIn name od).map (·.isSome)=some false; rw [hl,hv]; rfl) h
theorem set_map {ns:List Str}{Q:Unit→Shared→Prop} (X:K.In s.heap) (I:ObjM s.heap x dx C mA)
  (hs:PySem.W.findIn K (.ref C) "__setattr__" = some (some (.builtin "object.__setattr__"))) (hp:PySem.W.plainOver K C=true) (ht:PySem.W.takerIn K C name=some none) (hh:PySem.W.hasDictIn K C=true)
  (hw:PySem.Within mA ns) (hsz:ns.length≤sizeLine)
  (h:∀ h',ObjM h' x dx C (fun y=>if y=name then some v else mA y)→Heap.SameBut dx s.heap h'→Q () { s with heap:=h',toks:=s.toks+2 }) :
  wpAny (model prog w) A (setAttr (.ref x) name v) Q E s:=by
 obtain ⟨od,J,hl⟩:=I.look
 refine PySem.W.set_plain X J hs (PySem.W.osa_open (s:={ s with toks:=s.toks+1 }) (r:=none) X J hp ht fun b=>?_)
 obtain ⟨cd,hc,hd'⟩:=PySem.W.any_some hh
 have hx:s.heap.get? x=some ⟨.ref C,some dx,.plain,#[]⟩:=I.obj
 refine wpAny_bind (wpAny_pure (wpAny_bind (wpAny_bind (wpAny_loadPart hx (wpAny_bind (PySem.W.Looks.here (s:={ s with toks:=s.toks+1 }) (PySem.W.looks_clsIn X hc) ?_))))))
 rw [hd']
 refine wpAny_pure (a:=some dx) (wpAny_bind (wpAny_pure (wpAny_bind ?_)))
 refine wpAny_nsSet1 (s:={ s with toks:=s.toks+1 }) I.ns fun h' hn2 hs2=>?_
 obtain ⟨oD,esD,epD,hoD,hdD,hcD⟩:=hn2.count (PySem.Within.cons name v hw)
 refine wpAny_bind (wpAny_lookBehind hoD (by rw [hdD]; exact pastItsLine_dict (Nat.le_trans hcD (by rw [List.length_cons]; omega))) ?_)
 exact wpAny_pure (h _ ⟨(hs2.2 _ (Ne.symm I.ne)).trans I.obj,hn2,I.ne⟩ hs2)
theorem make_map {R:Result→Shared→Prop}{vs:List Value}{kw:List (Str×Value)} (X:K.In s.heap) (hm:PySem.W.makesIn K C=true)
    (hi:PySem.W.findIn K (.ref C) "__init__" = some (some (.ref f))) (hf:PySem.W.typeIn K (.ref f)=some (.type "function"))
    (h:codeAny (model prog w) (A.under (.builtin "type.__call__" ⟨.ref C::vs,kw⟩)) (.call (.ref f) ⟨.ref (s.heap.objs.size+1)::vs,kw⟩) (PySem.W.InitBack (s.heap.objs.size+1) R)
      { s with heap:=(s.heap.push PySem.W.emptyDict).push (PySem.W.instObj C s.heap.objs.size) }) :
    codeAny (model prog w) A (.call (.ref C) ⟨vs,kw⟩) R s:=by
  obtain ⟨hh,g,d,t,os⟩:=s
  exact PySem.W.make_core (PySem.W.makes_of X hm) (PySem.W.looks_findIn X hi) (fun self=>PySem.W.bind_fn X self hf) (.inl rfl) h
end
def putF (f:Str) (v:V):List (Str×V)→List (Str×V)
 | []=>[(f,v)]
 | (g,x)::r=>if g=f then (g,v)::r else (g,x)::putF f v r
theorem zDe (f g:Str) (v:V):∀ fs:List (Str×V),(putF f v fs).lookup g=if g=f then some v else fs.lookup g
 | []=>by
  show List.lookup g [(f,v)]=_
  by_cases h:g=f
  ·have hb:(g == f)=true:=beq_iff_eq.mpr h
   simp only [List.lookup,hb,if_pos h]
  ·have hb:(g == f)=false:=beq_eq_false_iff_ne.mpr h
   simp only [List.lookup,hb,if_neg h]
 | (k,x)::r=>by
  have ih:=zDe f g v r
  rw [show putF f v ((k,x)::r)=(if k=f then (k,v)::r else (k,x)::putF f v r) from rfl]
  by_cases hk:k=f
  ·rw [if_pos hk]
   by_cases h:g=k
   ·have hb:(g == k)=true:=beq_iff_eq.mpr h
    simp only [List.lookup,hb,if_pos (h.trans hk)]
   ·have hb:(g == k)=false:=beq_eq_false_iff_ne.mpr h
    simp only [List.lookup,hb,if_neg (fun e:g=f=>h (e.trans hk.symm))]
  ·rw [if_neg hk]
   by_cases h:g=k
   ·have hb:(g == k)=true:=beq_iff_eq.mpr h
    simp only [List.lookup,hb,if_neg (fun e:g=f=>hk (h.symm.trans e))]
   ·have hb:(g == k)=false:=beq_eq_false_iff_ne.mpr h
    simp only [List.lookup,hb]
    exact ih
theorem zDh (f:Str) (v:V):∀ fs:List (Str×V),f∈(putF f v fs).map (·.1)∧∀ g,g∈fs.map (·.1)→g∈(putF f v fs).map (·.1)
 | []=>⟨by simp [putF],fun g h=>by simp at h⟩
 | (k,x)::r=>by
  obtain ⟨i1,i2⟩:=zDh f v r
  rw [show putF f v ((k,x)::r)=(if k=f then (k,v)::r else (k,x)::putF f v r) from rfl]
  by_cases hk:k=f
  ·rw [if_pos hk]
   subst hk
   exact ⟨by simp,fun g h=>by simpa using h⟩
  ·rw [if_neg hk]
   refine ⟨?_,fun g h=>?_⟩
   ·rw [List.map_cons]
    exact List.mem_cons_of_mem _ i1
   ·rw [List.map_cons] at h ⊢
    rcases List.mem_cons.mp h with e | e
    ·exact List.mem_cons.mpr (.inl e)
    ·exact List.mem_cons_of_mem _ (i2 g e)
theorem zDf (f:Str) (v:V):∀ fs:List (Str×V),(putF f v fs).length≤fs.length+1
 | []=>by simp [putF]
 | (k,x)::r=>by
  have ih:=zDf f v r
  rw [show putF f v ((k,x)::r)=(if k=f then (k,v)::r else (k,x)::putF f v r) from rfl]
  by_cases hk:k=f
  ·rw [if_pos hk,List.length_cons,List.length_cons]; omega
  ·rw [if_neg hk,List.length_cons,List.length_cons]; omega
theorem RelO.some_of {v:V}{o:Option Value} (r:RelO (some v) o):∃ u,o=some u∧RelV v u:=by
 cases o with
 | none=>exact (show False from r).elim
 | some u=>exact ⟨u,rfl,r⟩
theorem RelO.none_of {o:Option Value} (r:RelO none o):o=none:=by
 cases o with
 | none=>rfl
 | some u=>exact (show False from r).elim
theorem handed_of {v:V}{u:Value} (r:RelV v u):PySem.W.handedIn u=true:=by
 cases v with
 | non=>cases (show u=Value.none from r); rfl
 | bl b=>cases (show u=Value.bool b from r); rfl
 | int i=>obtain ⟨t,e⟩:=(show ∃ t,u=Value.int i t from r); cases e; rfl
 | str x=>obtain ⟨t,e⟩:=(show ∃ t,u=Value.str x t from r); cases e; rfl
 | byt b=>obtain ⟨t,e⟩:=(show ∃ t,u=Value.bytes b t from r); cases e; rfl
 | flt b=>obtain ⟨t,e⟩:=(show ∃ t,u=Value.float b t from r); cases e; rfl
 | ref a=>cases (show u=Value.ref a from r); rfl
 | ty n=>cases (show u=Value.type n from r); rfl
section
variable {P:Program}{w:World}{H H':Hp}{h h':Heap}{a C dx:Addr}{fs fs':List (Str×V)}
theorem zFr (hok:HOk P w H h) (e:H a=some (.ins C dx fs)):∃ mA,ObjM h a dx C mA∧(∀ f,RelO (fs.lookup f) (mA f))∧PySem.Within mA (fs.map (·.1))∧fs.length≤1000∧H dx=some (.own a):=by
 obtain ⟨d,z,ne,ob,mA,n,r,q⟩:=(show ObjOk P w H h a (.ins C dx fs) from hok a _ e)
 exact ⟨mA,⟨ob,n,ne⟩,r,q,z,d⟩
end
structure Cls (K:Fg) (C:Addr):Prop where
 pg:PySem.W.plainGet K C Str.empty=true
 hd:PySem.W.hasDictIn K C=true
 po:PySem.W.plainOver K C=true
 sa:PySem.W.findIn K (.ref C) "__setattr__" = some (some (.builtin "object.__setattr__"))
theorem Cls.get {K:Fg}{C:Addr} (c:Cls K C) (f:Str):PySem.W.plainGet K C f=true:=c.pg
def NoAttr (K:Fg) (C:Addr) (f:Str):Prop:=PySem.W.findIn K (.ref C) f=some none
theorem NoAttr.taker {K:Fg}{C:Addr}{f:Str} (n:NoAttr K C f):PySem.W.takerIn K C f=some none:=by
 unfold PySem.W.takerIn
 rw [show PySem.W.findIn K (.ref C) f=some none from n]
 rfl
structure Meth (K:Fg) (C:Addr) (m:Str) (f:Addr):Prop where
 at_:PySem.W.findIn K (.ref C) m=some (some (.ref f))
 fn:PySem.W.isFn K (.ref f)=true
 kp:PySem.W.keepIn K (.ref f)=true
section
variable {X:Cx}{pins:List (Addr×Obj)}{σ:St}{H:Hp}{s:Shared}{a C dx:Addr}{fs:List (Str×V)}{f:Str}{v:V}{A:Around}{E:Value→Shared→Prop}
theorem zEB {b:Bool}{Q:Value→Shared→Prop} (I:Inv X pins σ H s) (e:H a=some (.ins C dx fs)) (c:Cls X.K C) (n:NoAttr X.K C f) (l:fs.lookup f=some v)
  (h:∀ u s',Inv X pins σ H s'→RelV v u→Q u s'):wpAny (model X.prog X.w) A (getAttr (.ref a) f b) Q E s:=by
 obtain ⟨mA,O,r,_,_,_⟩:=zFr I.hok e
 obtain ⟨u,hu,ru⟩:=RelO.some_of (v:=v) (o:=mA f) (by rw [←l]; exact r f)
 exact get_map I.kIn O (c.get f) c.hd n hu (handed_of ru) (h u _ (I.tok _) ru)
theorem zEA {m:Str}{g:Addr}{pl:Sem Bool}{Q:Value×List Value→Shared→Prop} (I:Inv X pins σ H s) (e:H a=some (.ins C dx fs)) (c:Cls X.K C) (k:Meth X.K C m g) (l:fs.lookup m=none)
  (h:Q (.ref g,[.ref a]) s):wpAny (model X.prog X.w) A (getMethod (.ref a) m pl) Q E s:=by
 obtain ⟨mA,O,r,_,_,_⟩:=zFr I.hok e
 have hn:mA m=none:=RelO.none_of (by rw [←l]; exact r m)
 exact get_meth I.kIn O (c.get m) k.at_ k.fn hn h
theorem zDz {y:V}{u:Value}{Q:Unit→Shared→Prop} (I:Inv X pins σ H s) (e:H a=some (.ins C dx fs)) (c:Cls X.K C) (n:NoAttr X.K C f) (hl:fs.length < 1000) (ry:RelV y u)
  (h:∀ s',Inv X pins σ (upd H a (.ins C dx (putF f y fs))) s'→Q () s'):wpAny (model X.prog X.w) A (setAttr (.ref a) f u) Q E s:=by
 obtain ⟨mA,O,r,wi,_,ho⟩:=zFr I.hok e
 have hz:(fs.map (·.1)).length≤sizeLine:=by rw [List.length_map,sizeLine_eq]; omega
 refine set_map I.kIn O c.sa c.po n.taker c.hd wi hz fun h' O' sb=>h _ ?_
 have hd:∃ o,h'.get? dx=some o:=let ⟨o,_,_,e',_⟩:=O'.ns; ⟨o,e'⟩
 refine I.write (x:=a) (e:=dx) (by rw [e]; exact True.intro) (.inr ho) (fun b q hb z=>(sb.2 b hb).trans z) hd ?_
 refine ⟨by rw [zAG O.ne]; exact ho,?_,O.ne,O'.obj,_,O'.ns,fun g=>?_,fun g hg=>?_⟩
 ·have:=zDf f y fs; omega
 ·show RelO ((putF f y fs).lookup g) (if g=f then some u else mA g)
  rw [zDe]
  by_cases q:g=f
  ·rw [if_pos q,if_pos q]; exact ry
  ·rw [if_neg q,if_neg q]; exact r g
 ·by_cases q:g=f
  ·rw [q]; exact (zDh f y fs).1
  ·refine (zDh f y fs).2 g (wi g fun z=>hg ?_)
   show (if g=f then some u else mA g)=none
   rw [if_neg q]; exact z
theorem Inv.made (I:Inv X pins σ H s):Inv X pins σ (upd (upd H s.heap.objs.size (.own (s.heap.objs.size+1))) (s.heap.objs.size+1) (.ins C s.heap.objs.size []))
  { s with heap:=(s.heap.push PySem.W.emptyDict).push (PySem.W.instObj C s.heap.objs.size) }:=by
 have e1:(s.heap.push PySem.W.emptyDict).get? s.heap.objs.size=some PySem.W.emptyDict:=Heap.get?_push_size s.heap rfl
 have e2:((s.heap.push PySem.W.emptyDict).push (PySem.W.instObj C s.heap.objs.size)).get? (s.heap.objs.size+1)=some (PySem.W.instObj C s.heap.objs.size):=by
  have:=Heap.get?_push_size (s.heap.push PySem.W.emptyDict) (o:=PySem.W.instObj C s.heap.objs.size) rfl
  rwa [Heap.size_push] at this
 have e3:(s.heap.push PySem.W.emptyDict).Ns s.heap.objs.size (fun _=>none):=⟨PySem.W.emptyDict,#[],_,e1,rfl,(fun e he=>absurd he (by simp)),fun _=>rfl⟩
 have I1:=I.laid (a:=s.heap.objs.size) (o:=.own (s.heap.objs.size+1)) (h':=s.heap.push PySem.W.emptyDict) (t':=s.toks) (fun b u q=>Heap.get?_push_of_some _ q) (Nat.le_refl _) ⟨_,e1⟩
 refine I1.laid (a:=s.heap.objs.size+1) (o:=.ins C s.heap.objs.size []) (t':=s.toks) (fun b u q=>Heap.get?_push_of_some _ q) (Nat.le_of_eq (Heap.size_push _ _)) ?_
 have ne:s.heap.objs.size≠s.heap.objs.size+1:=Nat.ne_of_lt (Nat.lt_succ_self _)
 refine ⟨by rw [zAG ne,zAB],Nat.zero_le _,ne,e2,fun _=>none,(Heap.Ns1.of_empty e3).at fun o q=>Heap.get?_push_of_some _ q,fun _=>True.intro,fun y hy=>absurd rfl hy⟩
theorem attr_of {prog:Program}{w:World}{env:Env}{e:Expr}{f:Str}{pos:Pos}{s:Shared}{Q:Value→Shared→Prop} (hb:attributeBase e f env (eval e env)=eval e env)
  (h:wpAny (model prog w) A (eval e env) (fun o s₁=>wpAny (model prog w) A (getAttr o f true) Q E s₁) E s):wpAny (model prog w) A (eval (.Attribute e f pos) env) Q E s :=
 Attribute_any_ h (by rw [arm_eval_Attribute,hb])
end
inductive QF (K:Fg) (f:Str) (x:V) (H1:Hp) (Q:VK):Prop
 | mk (a C dx:Addr) (fs:List (Str×V)) (v:V) (h1:x = .ref a) (h2:H1 a=some (.ins C dx fs)) (h3:Cls K C) (h4:NoAttr K C f) (h5:fs.lookup f=some v) (k:Q v H1)
def tFld (K:Fg) (ta:TE) (f:Str):TE:=fun σ H Q=>ta σ H fun x H1=>QF K f x H1 Q
inductive QS (K:Fg) (f:Str) (x y:V) (H2:Hp) (R:Hp→Prop):Prop
 | mk (a C dx:Addr) (fs:List (Str×V)) (h1:x = .ref a) (h2:H2 a=some (.ins C dx fs)) (h3:Cls K C) (h4:NoAttr K C f) (h5:fs.length < 1000) (k:R (upd H2 a (.ins C dx (putF f y fs))))
def sFld (K:Fg) (ta tv:TE) (f:Str):TS:=fun D σ H=>tv σ H fun y H1=>ta σ H1 fun x H2=>QS K f x y H2 (D.nx σ)
def InOp (X:Cx) (op:Operator) (rd:V→V→Hp→VK→Prop):Prop :=
 ∀ (pins:List (Addr×Obj)) (s:Shared) (σ:St) (H:Hp) (x y:V) (u v:Value) (Q:VK),Inv X pins σ H s→RelV x u→RelV y v→rd x y H Q→wpAny (model X.prog X.w) X.A (inplaceOp op u v) (EP X pins σ Q) X.xe s
def sFldAug (K:Fg) (ta tv:TE) (rd:V→V→Hp→VK→Prop) (f:Str):TS:=fun D σ H=>ta σ H fun x H1=>∃ a C dx fs v,x = .ref a∧H1 a=some (.ins C dx fs)∧Cls K C∧NoAttr K C f∧fs.lookup f=some v ∧
 tv σ H1 fun y H2=>rd v y H2 fun z H3=>∃ dx' fs',H3 a=some (.ins C dx' fs')∧fs'.length < 1000∧D.nx σ (upd H3 a (.ins C dx' (putF f z fs')))
section
variable {X:Cx}{o e value:Expr}{f:Str}{pos pos' tpos:Pos}{ta tv:TE}
theorem zAI (he:PE X e ta) (hb:attributeBase e f X.env (eval e X.env)=eval e X.env):PE X (.Attribute e f pos) (tFld X.K ta f):=by
 intro pins s σ H Q I h
 refine attr_of hb (thn (he pins s σ H _ I h) fun u s1 ⟨x,H1,I1,rx,a,C,dx,fs,v,ex,ea,c,n,l,q⟩=>?_)
 subst ex
 obtain rfl:u=Value.ref a:=rx
 exact zEB I1 ea c n l fun u' s2 I2 ru=>⟨v,H1,I2,ru,q⟩
theorem zA7 (ha:PE X o ta) (hv:PE X value tv) (hs:swapsWith value (some (.Attribute o f pos')) pos.line X.env=pure false):PS X (.Assign [.Attribute o f pos'] value pos) (sFld X.K ta tv f):=by
 intro pins s σ H D I h
 refine plainObj_wpAny_Assign_Attribute (thn (hv pins s σ H _ I h) fun u s1 ⟨y,H1,I1,ry,q⟩=>thn (ha pins s1 σ H1 _ I1 q) fun ov s2 ⟨x,H2,I2,rx,a,C,dx,fs,ex,ea,c,n,l,q2⟩=>?_) hs
 subst ex
 obtain rfl:ov=Value.ref a:=rx
 exact zDz I2 ea c n l ry fun s3 I3=>⟨σ,_,I3,q2⟩
theorem zE4 {op:Operator}{rd:V→V→Hp→VK→Prop} (ha:PE X o ta) (hv:PE X value tv) (hop:InOp X op rd):PS X (.AugAssign (.Attribute o f tpos) op value pos) (sFldAug X.K ta tv rd f):=by
 intro pins s σ H D I h
 refine wpAny_AugAssign_AttributeAny (thn (ha pins s σ H _ I h) fun ov s1 ⟨x,H1,I1,rx,a,C,dx,fs,v,ex,ea,c,n,l,q⟩=>?_)
 subst ex
 obtain rfl:ov=Value.ref a:=rx
 refine zEB I1 ea c n l fun u s2 I2 ru=>thn (hv pins s2 σ H1 _ I2 q) fun w3 s3 ⟨y,H2,I3,ry,q3⟩=>thn (hop pins s3 σ H2 v y u w3 _ I3 ru ry q3) fun w4 s4 ⟨z,H3,I4,rz,dx',fs',ea',l',q4⟩=>?_
 exact zDz I4 ea' c n l' rz fun s5 I5=>⟨σ,_,I5,q4⟩
def rAdd:V→V→Hp→VK→Prop:=fun x y H Q=>∃ i j,x = .int i∧y = .int j∧Q (.int (i+j)) H
theorem in_add:InOp X .Add rAdd:=by
 rintro pins s σ H x y u v Q I rx ry ⟨i,j,rfl,rfl,q⟩
 obtain ⟨t,rfl⟩:=(show ∃ t,u=Value.int i t from rx)
 obtain ⟨t',rfl⟩:=(show ∃ t',v=Value.int j t' from ry)
 exact PyProof.Rows.iadd_int ⟨.int (i+j),H,I.tok _,⟨_,rfl⟩,q⟩
end
end L2
namespace L2
open PySem PySem.Spec PyProof.Rows
structure Room (k:Nat) (A:Around):Prop where
 hd:A.handled=none
 dp:A.depth+3 * k+5 < recursionLimit
 un:A.units+16 * k+200 < cLine
theorem Room.mono {j k:Nat}{A:Around} (r:Room k A) (h:j≤k):Room j A:=⟨r.hd,by have:=r.dp; omega,by have:=r.un; omega⟩
theorem Room.deeper {k:Nat}{A:Around} (r:Room (k+1) A) (env:Env):Room k (A.deeper env) :=
 ⟨r.hd,by have:=r.dp; show A.depth+1+3 * k+5 < _; omega,by have:=r.un; show A.units+3+16 * k+200 < _; omega⟩
theorem zG9 {A:Around}{C:Addr}{us:List Value}{kw:List (Str×Value)}:(A.under (.builtin "type.__call__" ⟨.ref C::us,kw⟩)).depth=A.depth+1:=by
 first | rfl | simp [Around.under,Code.weight,Code.isCreation,Code.isGuard,Code.isCaller,Code.frames,Code.isFrame,guardIds]
theorem zG8 {A:Around}{C:Addr}{us:List Value}{kw:List (Str×Value)}:(A.under (.builtin "type.__call__" ⟨.ref C::us,kw⟩)).units=A.units+1:=by
 first | rfl | simp [Around.under,Code.cUnits,Code.frames,Code.isFrame]
theorem Room.make {k:Nat}{A:Around} (r:Room (k+1) A) (C:Addr) (us:List Value) (kw:List (Str×Value)):Room k (A.under (.builtin "type.__call__" ⟨.ref C::us,kw⟩)) :=
 ⟨r.hd,by have:=r.dp; rw [zG9]; omega,by have:=r.un; rw [zG8]; omega⟩
theorem Room.depth {k:Nat}{A:Around} (r:Room k A):A.depth < recursionLimit:=by have:=r.dp; omega
theorem Room.units {k:Nat}{A:Around} (r:Room k A):A.units+64 < cLine:=by have:=r.un; omega
def tNil:TA:=fun _ H Q=>Q [] H
def zBl (ta:TE) (tr:TA):TA:=fun σ H Q=>ta σ H fun x H1=>tr σ H1 fun xs H2=>Q (x::xs) H2
section
variable {X:Cx}{e:Expr}{es:List Expr}{te:TE}{t:TA}{pos:Pos}
theorem zAE:PA X [] tNil:=fun _ _ _ _ H Q I h=>Calls.spliced_nil ⟨[],H,I,.nil,h⟩
theorem zAA (ha:PE X e te) (hr:PA X es t) (hs:starEach (e::es) X.env=(false,eval e X.env)::starEach es X.env:=by rfl):PA X (e::es) (zBl te t):=by
 intro pos pins s σ H Q I h
 rw [hs]
 show wpAny _ _ (spliced ((false,eval e X.env)::backTo pos (starEach es X.env))) _ _ s
 refine Calls.spliced_cons (thn (ha pins s σ H _ I h) fun u s1 ⟨x,H1,I1,r1,q1⟩=>?_)
 exact thn (hr pos pins s1 σ H1 _ I1 q1) fun us s2 ⟨xs,H2,I2,r2,q2⟩=>⟨x::xs,H2,I2,.cons r1 r2,q2⟩
def tTup (t:TA):TE:=fun σ H Q=>t σ H fun xs H1=>xs.length≤sizeLine∧∀ p,H1 p=none→Q (.ref p) (upd H1 p (.tup xs))
def tLst (t:TA):TE:=fun σ H Q=>t σ H fun xs H1=>xs.length≤sizeLine∧∀ p,H1 p=none→Q (.ref p) (upd H1 p (.lst xs))
theorem zBg {x1} (h:PA X es t):PE X (.Tuple es x1 pos) (tTup t):=by
 intro pins s σ H Q I hq
 refine wpAny_Tuple_spliced (thn (h pos pins s σ H _ I hq) fun us s1 ⟨xs,H1,I1,r,z,q⟩=>⟨by rw [←r.length]; exact z,?_⟩)
 have hf:H1 s1.heap.objs.size=none:=I1.hok.fresh (Nat.le_refl _)
 refine ⟨.ref s1.heap.objs.size,upd H1 s1.heap.objs.size (.tup xs),I1.laid (t':=s1.toks) (fun b u e=>Heap.get?_push_of_some _ e) (Nat.le_refl _) ?_,rfl,q _ hf⟩
 exact ⟨z,us,r,⟨_,Heap.get?_push_size _ rfl,rfl,_,rfl⟩⟩
theorem zAo (h:PA X es t):PE X (.List es pos) (tLst t):=by
 intro pins s σ H Q I hq
 refine wpAny_List_spliced (thn (h pos pins s σ H _ I hq) fun us s1 ⟨xs,H1,I1,r,z,q⟩=>⟨by rw [←r.length]; exact z,?_⟩)
 have hf:H1 s1.heap.objs.size=none:=I1.hok.fresh (Nat.le_refl _)
 refine ⟨.ref s1.heap.objs.size,upd H1 s1.heap.objs.size (.lst xs),I1.laid (t':=s1.toks) (fun b u e=>Heap.get?_push_of_some _ e) (Nat.le_refl _) ?_,rfl,q _ hf⟩
 exact ⟨z,us,0,r,Heap.get?_push_size _ rfl⟩
end
abbrev Sp:=List V→Hp→VK→XK→Prop
abbrev CXT:=List Env→Hp→Shared→XK→Value→Shared→Prop
structure Env0 (P:Program) (w:World) (K:Fg) (mg:MG) (base:Heap) (A:Around) (outer:List Env) (s:Shared) (H:Hp):Prop where
 frames:A.frames=some outer
 mod:Mod K mg base
 bs:∀ b o,base.get? b=some o→s.heap.get? b=some o∧H b=none
 bsz:base.objs.size≤s.heap.objs.size
 funs:s.heap.FunFrames base outer
 frf:∀ b∈frs outer,H b=none
 hok:HOk P w H s.heap
 bare:AllBare s.gens
def CE (outer:List Env) (P:Program) (w:World) (H:Hp) (s:Shared) (Q:VK) (u:Value) (s':Shared):Prop :=
 ∃ v H',s'.os=s.os∧AllBare s'.gens∧Un (frs outer) [] H H' s.heap s'.heap∧HOk P w H' s'.heap∧RelV v u∧Q v H'
def CR (CX:CXT) (outer:List Env) (P:Program) (w:World) (H:Hp) (s:Shared) (Q:VK) (E:XK) (r:Result) (s':Shared):Prop :=
 match r with
 | .ok (.ret u)=>CE outer P w H s Q u s'
 | .ok _=>False
 | .error e=>CX outer H s E e s'
structure FnOk (P:Program) (w:World) (K:Fg) (mg:MG) (base:Heap) (CX:CXT) (k:Nat) (f:Addr) (fd:FuncData) (ps:List Str) (sp:Sp):Prop where
 len:∀ vs H Q E,sp vs H Q E→vs.length=ps.length
 run:∀ (A:Around) (outer:List Env) (s:Shared) (H:Hp) (args:Args) (us:List Value) (vs:List V) (Q:VK) (E:XK),Room k A→Env0 P w K mg base A outer s H→BindsTo s fd args (ps.zip us)→Vals vs us→sp vs H Q E →
  codeAny (model P w) A (.call (.ref f) args) (CR CX outer P w H s Q E) s
theorem Env0.make {P:Program}{w:World}{K:Fg}{mg:MG}{base:Heap}{A:Around}{outer:List Env}{s:Shared}{H:Hp} (e:Env0 P w K mg base A outer s H) (C:Addr) (us:List Value) (kw:List (Str×Value)) :
  Env0 P w K mg base (A.under (.builtin "type.__call__" ⟨.ref C::us,kw⟩)) outer s H:=⟨by first | exact e.frames | (simpa [Around.under,Code.envs,Code.isFrame,pushEnvs] using e.frames),e.mod,e.bs,e.bsz,e.funs,e.frf,e.hok,e.bare⟩
section
variable {X:Cx}{pins:List (Addr×Obj)}{σ:St}{H:Hp}{s s':Shared}
theorem Inv.env0 (I:Inv X pins σ H s):Env0 X.prog X.w X.K X.mg X.base X.A X.stack s H :=
 ⟨I.ok.frames,I.ok.mod,I.bs,Nat.le_trans I.ok.bsz I.sz,I.stack,I.stkFree,I.hok,I.bare⟩
theorem Inv.after {Q:VK}{u:Value} (I:Inv X pins σ H s) (h:CE X.stack X.prog X.w H s Q u s'):EP X pins σ Q u s':=by
 obtain ⟨v,H',os,bare,un,hok,r,q⟩:=h
 obtain ⟨hh,g,d,t,os'⟩:=s'
 obtain rfl:os' = s.os:=os
 exact ⟨v,H',I.call (h':=hh) (g':=g) (d':=d) (t':=t) (ch:=[]) un hok bare (fun b z=>absurd z (by simp)),r,q⟩
end
def zHN (sp:Sp) (dvs:List V) (E:XK) (t:TA):TE:=fun σ H Q=>t σ H fun vs H1=>sp (vs++dvs) H1 Q E
inductive QM (C:Addr) (m:Str) (x:V) (H1:Hp) (R:Prop):Prop
 | mk (a dx:Addr) (fs:List (Str×V)) (h1:x = .ref a) (h2:H1 a=some (.ins C dx fs)) (h3:fs.lookup m=none) (k:R)
def zGy (C:Addr) (m:Str) (sp:Sp) (dvs:List V) (E:XK) (ta:TE) (t:TA):TE:=fun σ H Q=>ta σ H fun x H1=>QM C m x H1 (t σ H1 fun vs H2=>sp (x::(vs++dvs)) H2 Q E)
def tMake (C:Addr) (sp:Sp) (dvs:List V) (E:XK) (t:TA):TE:=fun σ H Q=>t σ H fun vs H1=>∀ x dx,H1 x=none→H1 dx=none→dx≠x →
 sp (.ref x::(vs++dvs)) (upd (upd H1 dx (.own x)) x (.ins C dx [])) (fun v H2=>v = .non∧Q (.ref x) H2) E
def Binds (K:Fg) (fd:FuncData) (ps:List Str) (ds:List Value):Prop :=
 ∀ (s:Shared) (us:List Value),K.In s.heap→(us++ds).length=ps.length→BindsTo s fd ⟨us,[]⟩ (ps.zip (us++ds))
theorem Binds.all {K:Fg}{fd:FuncData}{ps:List Str} (h:∀ us:List Value,us.length=ps.length→bindArgs fd ⟨us,[]⟩=pure (ps.zip us)):Binds K fd ps []:=fun s us _ hl=>by
 rw [List.append_nil] at hl ⊢
 exact .of_eq (h us hl)
def zBX (CX:CXT) (X:Cx) (E:XK):Prop:=∀ (pins:List (Addr×Obj)) (σ:St) (H:Hp) (s:Shared) (e:Value) (s':Shared),Inv X pins σ H s→CX X.stack H s E e s'→X.xe e s'
section
variable {X:Cx}{CX:CXT}{k:Nat}{f C:Addr}{fd:FuncData}{ps:List Str}{sp:Sp}{dvs:List V}{ds:List Value}{E:XK}{x m:Str}{p pos apos:Pos}{e o:Expr}{es:List Expr}{ta:TE}{t:TA}
theorem run_fn {pins:List (Addr×Obj)}{σ:St}{H:Hp}{s:Shared}{Q:VK}{us:List Value}{vs:List V} (F:FnOk X.prog X.w X.K X.mg X.base CX k f fd ps sp) (hr:Room k X.A) (hb:Binds X.K fd ps ds) (hd:Vals dvs ds) (hx:zBX CX X E)
  (I:Inv X pins σ H s) (r:Vals vs us) (h:sp (vs++dvs) H Q E):wpAny (model X.prog X.w) X.A (call (.ref f) us) (EP X pins σ Q) X.xe s:=by
 have r2:Vals (vs++dvs) (us++ds):=r.append hd
 have hl:(us++ds).length=ps.length:=by rw [←r2.length]; exact F.len _ _ _ _ h
 refine wpAny_call (codeAny_mono (F.run X.A X.stack s H ⟨us,[]⟩ (us++ds) (vs++dvs) Q E hr I.env0 (hb s us I.kIn hl) r2 h) fun r s' hq=>?_)
 cases r with
 | error e=>exact hx pins σ H s e s' I hq
 | ok fl =>
  cases fl with
  | ret u=>exact I.after hq
  | next=>exact False.elim hq
  | brk=>exact False.elim hq
  | cont=>exact False.elim hq
theorem pe_call (F:FnOk X.prog X.w X.K X.mg X.base CX k f fd ps sp) (hr:Room k X.A) (hg:Gl X x) (hm:X.mg x=some (.ref f)) (hk:PySem.W.keepIn X.K (.ref f)=true) (hb:Binds X.K fd ps ds) (hd:Vals dvs ds) (hx:zBX CX X E)
  (ha:PA X (e::es) t) (hdb:(x == ("__debug__":Str))=false:=by decide) (he:starEach (e::es) X.env=(false,eval e X.env)::starEach es X.env:=by rfl) (hpl:(backTo pos (starEach es X.env)).any (·.1)=false:=by rfl) :
  PE X (.Call (.Name x p) (e::es) [] pos) (zHN sp dvs E t):=by
 intro pins s σ H Q I h
 refine wpAny_Call_Name_kw (zCP I hg hm ?_ hdb)
 refine PySem.W.callWith_K (h₀:=X.base) I.ok.mod.kin hk (thn (ha pos pins s σ H _ I h) fun us s1 ⟨vs,H1,I1,r,q⟩=>⟨I1.kIn,?_⟩) he hpl
 exact run_fn F hr hb hd hx I1 r q
theorem pe_meth {pl:Sem Bool} (he:PE X o ta) (c:Cls X.K C) (hm:Meth X.K C m f) (F:FnOk X.prog X.w X.K X.mg X.base CX k f fd ps sp) (hr:Room k X.A) (hb:Binds X.K fd ps ds) (hd:Vals dvs ds) (hx:zBX CX X E) (ha:PA X (e::es) t)
    (hst:starEach (e::es) X.env=(false,eval e X.env)::starEach es X.env:=by rfl) (hpl:(backTo pos (starEach es X.env)).any (·.1)=false:=by rfl)
    (ht:eval (.Call (.Attribute o m apos) (e::es) [] pos) X.env=(do
      let ov ←eval o X.env
      standAt apos.atName
      let (f,first) ←holding [ov] (getMethod ov m pl)
      callWith pos f first (backTo pos (starEach (e::es) X.env)) (backToKw pos (keywordEach [] X.env))):=by rfl) :
    PE X (.Call (.Attribute o m apos) (e::es) [] pos) (zGy C m sp dvs E ta t):=by
  intro pins s σ H Q I h
  refine PySem.W.methodCall_KW (pl:=pl) (thn (he pins s σ H _ I h) fun u s1 ⟨x,H1,I1,rx,a,dx,fs,ex,ea,l,q⟩=>?_) ht
  subst ex
  obtain rfl:u=Value.ref a:=rx
  refine zEA I1 ea c hm l ?_
  refine PySem.W.callWith_K (first:=[.ref a]) (h₀:=X.base) I.ok.mod.kin hm.kp (thn (ha pos pins s1 σ H1 _ I1 q) fun us s2 ⟨vs,H2,I2,r,q2⟩=>⟨I2.kIn,?_⟩) hst hpl
  exact run_fn (us:=.ref a::us) (vs:=.ref a::vs) F hr hb hd hx I2 (.cons rfl r) q2
theorem pe_meth0 {pl:Sem Bool} (he:PE X o ta) (c:Cls X.K C) (hm:Meth X.K C m f) (F:FnOk X.prog X.w X.K X.mg X.base CX k f fd ps sp) (hr:Room k X.A) (hb:Binds X.K fd ps ds) (hd:Vals dvs ds) (hx:zBX CX X E)
    (ht:eval (.Call (.Attribute o m apos) [] [] pos) X.env=(do
      let ov ←eval o X.env
      standAt apos.atName
      let (f,first) ←holding [ov] (getMethod ov m pl)
      callWith pos f first (backTo pos (starEach [] X.env)) (backToKw pos (keywordEach [] X.env))):=by rfl) :
    PE X (.Call (.Attribute o m apos) [] [] pos) (zGy C m sp dvs E ta tNil):=by
  intro pins s σ H Q I h
  refine PySem.W.methodCall_KW (pl:=pl) (thn (he pins s σ H _ I h) fun u s1 ⟨x,H1,I1,rx,a,dx,fs,ex,ea,l,q⟩=>?_) ht
  subst ex
  obtain rfl:u=Value.ref a:=rx
  refine zEA I1 ea c hm l ?_
  exact PySem.W.callWith_K0 (first:=[.ref a]) I1.kIn hm.kp (run_fn (us:=[.ref a]) (vs:=[.ref a]) F hr hb hd hx I1 (.cons rfl .nil) q)
structure Mk (K:Fg) (C f:Addr):Prop where
 makes:PySem.W.makesIn K C=true
 init:PySem.W.findIn K (.ref C) "__init__" = some (some (.ref f))
 fn:PySem.W.isFn K (.ref f)=true
 kp:PySem.W.keepIn K (.ref C)=true
theorem zGC {pins:List (Addr×Obj)}{σ:St}{H:Hp}{s:Shared}{Q:VK}{us:List Value}{vs:List V} (M:Mk X.K C f) (F:FnOk X.prog X.w X.K X.mg X.base CX k f fd ps sp) (hr:Room (k+1) X.A) (hb:Binds X.K fd ps ds) (hd:Vals dvs ds)
  (hx:zBX CX X E) (I:Inv X pins σ H s) (r:Vals vs us)
  (h:∀ x dx,H x=none→H dx=none→dx≠x→sp (.ref x::(vs++dvs)) (upd (upd H dx (.own x)) x (.ins C dx [])) (fun v H2=>v = .non∧Q (.ref x) H2) E) :
  wpAny (model X.prog X.w) X.A (call (.ref C) us) (EP X pins σ Q) X.xe s:=by
 have hq:=h (s.heap.objs.size+1) s.heap.objs.size (I.hok.fresh (Nat.le_succ _)) (I.hok.fresh (Nat.le_refl _)) (Nat.ne_of_lt (Nat.lt_succ_self _))
 have I2:=Inv.made (C:=C) I
 have r2:Vals (V.ref (s.heap.objs.size+1)::(vs++dvs)) (Value.ref (s.heap.objs.size+1)::(us++ds)):=.cons rfl (r.append hd)
 have hl:(Value.ref (s.heap.objs.size+1)::us++ds).length=ps.length:=by
  have e:=r2.length
  rw [F.len _ _ _ _ hq] at e
  exact e.symm
 refine wpAny_call (make_map (f:=f) I.kIn M.makes M.init (beq_iff_eq.mp M.fn) (codeAny_mono (F.run _ X.stack _ _ ⟨Value.ref (s.heap.objs.size+1)::us,[]⟩ (Value.ref (s.heap.objs.size+1)::(us++ds)) _ _ E (hr.make C us [])
  (I2.env0.make C us []) (hb _ (Value.ref (s.heap.objs.size+1)::us) I2.kIn hl) r2 hq) fun r s' hq'=>?_))
 cases r with
 | error e=>exact hx pins σ _ _ e s' I2 hq'
 | ok fl =>
  cases fl with
  | ret u =>
   obtain ⟨v,H',I3,rv,ev,q3⟩:=I2.after hq'
   subst ev
   exact ⟨rv,⟨V.ref (s.heap.objs.size+1),H',I3,rfl,q3⟩⟩
  | next=>exact False.elim hq'
  | brk=>exact False.elim hq'
  | cont=>exact False.elim hq'
theorem pe_make (M:Mk X.K C f) (F:FnOk X.prog X.w X.K X.mg X.base CX k f fd ps sp) (hr:Room (k+1) X.A) (hg:Gl X x) (hm:X.mg x=some (.ref C)) (hb:Binds X.K fd ps ds) (hd:Vals dvs ds) (hx:zBX CX X E)
  (ha:PA X (e::es) t) (hdb:(x == ("__debug__":Str))=false:=by decide) (he:starEach (e::es) X.env=(false,eval e X.env)::starEach es X.env:=by rfl) (hpl:(backTo pos (starEach es X.env)).any (·.1)=false:=by rfl) :
  PE X (.Call (.Name x p) (e::es) [] pos) (tMake C sp dvs E t):=by
 intro pins s σ H Q I h
 refine wpAny_Call_Name_kw (zCP I hg hm ?_ hdb)
 refine PySem.W.callWith_K (h₀:=X.base) I.ok.mod.kin M.kp (thn (ha pos pins s σ H _ I h) fun us s1 ⟨vs,H1,I1,r,q⟩=>⟨I1.kIn,?_⟩) he hpl
 exact zGC M F hr hb hd hx I1 r q
theorem pe_make0 (M:Mk X.K C f) (F:FnOk X.prog X.w X.K X.mg X.base CX k f fd ps sp) (hr:Room (k+1) X.A) (hg:Gl X x) (hm:X.mg x=some (.ref C)) (hb:Binds X.K fd ps ds) (hd:Vals dvs ds) (hx:zBX CX X E)
  (hdb:(x == ("__debug__":Str))=false:=by decide):PE X (.Call (.Name x p) [] [] pos) (tMake C sp dvs E tNil):=by
 intro pins s σ H Q I h
 refine wpAny_Call_Name_kw (zCP I hg hm ?_ hdb)
 exact PySem.W.callWith_K0 I.kIn M.kp (zGC (us:=[]) M F hr hb hd hx I .nil h)
end
structure FnScope (N P:List Str) (sc:Scope):Prop where
 kind:sc.kind = .function
 co:sc.isCoroutine=false
 gen:sc.isGenerator=false
 nd:N.Nodup
 pre:N.take P.length=P
 par:∀ x∈P,sc.names.lookup x=some .local∨sc.names.lookup x=some .cell
 nofree:∀ y∈sc.names,y.2≠.free
theorem zFR {kindOf:Str→Option NameKind}{x:Str}:∀ {binds:List (Str×Value)}{m:MG},(∀ v,(x,v)∉binds)→bindL kindOf binds m x=m x
 | [],_,_=>rfl
 | (n,v)::r,m,h=>by
  unfold bindL
  rw [zFR fun w hw=>h w (List.mem_cons_of_mem _ hw)]
  split
  ·have:x≠n:=by rintro rfl; exact h v List.mem_cons_self
   simp [this]
  ·rfl
theorem zFT {kindOf:Str→Option NameKind}{x:Str}:∀ {binds:List (Str×Value)}{m:MG},(∀ v,(x,v)∉binds)→bindC kindOf binds m x=m x
 | [],_,_=>rfl
 | (n,v)::r,m,h=>by
  unfold bindC
  rw [zFT fun w hw=>h w (List.mem_cons_of_mem _ hw)]
  split
  ·rfl
  ·have:x≠n:=by rintro rfl; exact h v List.mem_cons_self
   simp [this]
theorem zFS {kindOf:Str→Option NameKind}{x:Str}{v:Value}:∀ {P:List Str}{vs:List Value}{i:Nat}{m:MG},P.Nodup→P[i]? = some x→vs[i]? = some v→kindOf x=some .local →
  bindL kindOf (P.zip vs) m x=some v
 | [],_,_,_,_,h,_,_=>by simp at h
 | _::_,[],_,_,_,_,h,_=>by simp at h
 | p::P,w::vs,0,m,nd,h1,h2,hk=>by
  simp at h1 h2; subst h1; subst h2
  show bindL kindOf ((p,w)::P.zip vs) m p=_
  unfold bindL
  rw [zFR fun v hv=>(List.nodup_cons.mp nd).1 (List.of_mem_zip hv).1,if_pos hk]
  simp
 | p::P,w::vs,i+1,m,nd,h1,h2,hk=>by
  show bindL kindOf ((p,w)::P.zip vs) m x=_
  unfold bindL
  exact zFS (i:=i) (List.nodup_cons.mp nd).2 (by simpa using h1) (by simpa using h2) hk
theorem zFU {kindOf:Str→Option NameKind}{x:Str}{v:Value}:∀ {P:List Str}{vs:List Value}{i:Nat}{m:MG},P.Nodup→P[i]? = some x→vs[i]? = some v→kindOf x≠some .local →
  bindC kindOf (P.zip vs) m x=some v
 | [],_,_,_,_,h,_,_=>by simp at h
 | _::_,[],_,_,_,_,h,_=>by simp at h
 | p::P,w::vs,0,m,nd,h1,h2,hk=>by
  simp at h1 h2; subst h1; subst h2
  show bindC kindOf ((p,w)::P.zip vs) m p=_
  unfold bindC
  rw [zFT fun v hv=>(List.nodup_cons.mp nd).1 (List.of_mem_zip hv).1,if_neg hk]
  simp
 | p::P,w::vs,i+1,m,nd,h1,h2,hk=>by
  show bindC kindOf ((p,w)::P.zip vs) m x=_
  unfold bindC
  exact zFU (i:=i) (List.nodup_cons.mp nd).2 (by simpa using h1) (by simpa using h2) hk
def start (N:List Str) (vs:List V):St:=vs.map some++List.replicate (N.length - vs.length) none
def cxOf (CX:CXT) (P:Program) (w:World) (K:Fg) (mg:MG) (base:Heap) (N:List Str) (qual:Str) (scope:Scope) (f:Addr) (cd:Value) (A:Around) (outer:List Env) (s:Shared) (H:Hp) (E:XK):Cx where
 prog:=P
 w:=w
 K:=K
 mg:=mg
 base:=base
 A:=A.deeper (envOfC qual scope s.heap.objs.size f cd)
 N:=N
 s_0:=s
 H_0:=H
 env:=envOfC qual scope s.heap.objs.size f cd
 outer:=outer
 stack:=envOfC qual scope s.heap.objs.size f cd::outer
 ex:=[]
 calm:=true
 fn:=fun _=>true
 pn:=[]
 xe:=fun e s'=>wpAny (model P w) (A.deeper (envOfC qual scope s.heap.objs.size f cd)) (leaving (envOfC qual scope s.heap.objs.size f cd) e) (fun _ s''=>CX outer H s E e s'') (fun e' s''=>CX outer H s E e' s'') s'
theorem zGl {sc:Scope}{n:Nat}{x:Str} (h:sc.names.lookup x=some .cell):∃ c,(cellsFrom n sc.names []).lookup x=some c:=by
 have q:=PySem.W.cellsFrom_some sc.names n [] (.inl h)
 exact Option.isSome_iff_exists.mp q
theorem inv_start {CX:CXT}{P:Program}{w:World}{K:Fg}{mg:MG}{base:Heap}{N ps:List Str}{qual:Str}{scope:Scope}{f:Addr}{cd:Value}{A:Around}{outer:List Env}{s s1:Shared}{H:Hp}{E:XK}{us:List Value}{vs:List V}
  (S:FnScope N ps scope) (hd:A.handled=none) (e0:Env0 P w K mg base A outer s H) (hl:vs.length=ps.length) (r:Vals vs us)
  (x:InCallC s s.heap.objs.size (bindL (envOfC qual scope s.heap.objs.size f cd).kindOf (ps.zip us) fun _=>none) (cellsFrom (s.heap.objs.size+1) scope.names []) (bindC (envOfC qual scope s.heap.objs.size f cd).kindOf (ps.zip us) fun _=>none) s1) :
  Inv (cxOf CX P w K mg base N qual scope f cd A outer s H E) [] (start N vs) H s1:=by
 have hpl:ps.length≤N.length:=by have:=congrArg List.length S.pre; rw [List.length_take] at this; omega
 obtain ⟨h1,tk,rfl,hk⟩:=x.done
 have noA:∀ b:Addr,b∉(cxOf CX P w K mg base N qual scope f cd A outer s H E).ex:=fun b z=>absurd (show b∈([]:List Addr) from z) (by simp)
 refine ⟨⟨e0.mod,S.kind,rfl,rfl,Nat.le_refl _,fun y z c h1 h2=>?_,fun y hy=>?_,fun y c _ h=>?_,fun _=>hd,Around.frames_deeper e0.frames,.inr ⟨rfl,rfl⟩,fun b z=>absurd z (noA b),e0.bs,e0.bsz,fun b _ _=>noA b,fun b z=>absurd z (noA b),e0.funs,e0.frf⟩,
  rfl,e0.bare,Un.kept hk,⟨_,x.toInCall.ns,fun i y v h1 h2 h3=>?_⟩,fun y c h=>⟨_,x.cell y c h⟩,e0.hok.fresh (Nat.le_refl _),fun y c h=>?_,fun p hp=>absurd (show p∈([]:List (Addr×Obj)) from hp) (by simp),e0.hok.kept hk,?_⟩
 ·exact name_of_addr x.apart (PySem.mem_of_lookup h1) (PySem.mem_of_lookup h2)
 ·have hy:scope.names.lookup y=some .cell∨scope.names.lookup y=some .free:=hy
  rcases hy with hy | hy
  ·exact zGl hy
  ·exact absurd rfl (S.nofree _ (PySem.mem_of_lookup hy))
 ·exact Nat.le_of_lt (x.above y c (PySem.mem_of_lookup h))
 ·have hi:i < vs.length:=by
   unfold start at h2
   by_cases hi:i < vs.length
   ·exact hi
   ·rw [List.getElem?_append_right (by simpa using hi)] at h2
    rw [List.getElem?_replicate] at h2
    split at h2 <;> cases h2
  have ha:vs[i]? = some v:=by
   unfold start at h2
   rw [List.getElem?_append_left (by simpa using hi),List.getElem?_map] at h2
   cases e:vs[i]? with
   | none=>rw [e] at h2; cases h2
   | some a=>rw [e] at h2; cases h2; rfl
  obtain ⟨u,hu,rv⟩:=r.get ha
  have hp:ps[i]? = some y:=by
   rw [←S.pre,List.getElem?_take_of_lt (by omega)]; exact h1
  have ndP:ps.Nodup:=by rw [←S.pre]; exact S.nd.sublist (List.take_sublist _ _)
  refine ⟨u,rv,?_⟩
  rcases S.par y (List.mem_of_getElem? hp) with k | k
  ·exact .inl ⟨k,zFS ndP hp hu k⟩
  ·obtain ⟨c,e⟩:=zGl (n:=s.heap.objs.size+1) k
   refine .inr ⟨.inl k,c,e,?_⟩
   have q:=x.cell y c e
   rw [zFU ndP hp hu (by show scope.names.lookup y≠_; rw [k]; decide)] at q
   exact q
 ·exact e0.hok.fresh (Nat.le_of_lt (x.above y c (PySem.mem_of_lookup h)))
 ·unfold start
  show _=N.length
  rw [List.length_append,List.length_map,List.length_replicate]
  omega
theorem fn_of {CX:CXT}{P:Program}{w:World}{K:Fg}{mg:MG}{base:Heap}{k:Nat}{f:Addr}{name qual:Str}{params:Arguments}{body:List Stmt}{scope:Scope}{dV kV doc pm cdv ct oc:Value}{an od:Option Addr}
    {osl:Array (Option Value)}{N ps:List Str}{sp:Sp} (lk:K.lookup f=some ⟨oc,od,.func (PySem.W.fnOf name qual params body scope dV kV doc pm an cdv ct),osl⟩) (hcd:PySem.W.codeIn K cdv qual=true) (S:FnScope N ps scope)
    (len:∀ vs H Q E,sp vs H Q E→vs.length=ps.length)
    (hbody:∀ (A:Around) (outer:List Env) (s:Shared) (H:Hp) (vs:List V) (Q:VK) (E:XK),Room k (A.deeper (envOfC qual scope s.heap.objs.size f cdv))→sp vs H Q E →
      ∃ t,PSs (cxOf CX P w K mg base N qual scope f cdv A outer s H E) body t∧t { nx:=fun _ H'=>Q .non H',rt:=Q } (start N vs) H) :
    FnOk P w K mg base CX (k+1) f (PySem.W.fnOf name qual params body scope dV kV doc pm an cdv ct) ps sp:=by
  refine ⟨len,fun A outer s H args us vs Q E hr e0 hb r hsp=>?_⟩
  have hl:=len _ _ _ _ hsp
  have KX:K.In s.heap:=e0.mod.kin.keeps fun b o e=>(e0.bs b o e).1
  have lim:s.heap.NoLimit:=e0.mod.nolimit.keeps fun b o e=>(e0.bs b o e).1
  have hkind:∀ y∈ps.zip us,scope.names.lookup y.1=some .local∨(scope.names.lookup y.1=some .cell∧((cellsFrom (s.heap.objs.size+1) scope.names []).lookup y.1).isSome=true):=fun ⟨n,v⟩ hy=>by
    rcases S.par n (List.of_mem_zip hy).1 with q | q
    · exact .inl q
    · exact .inr ⟨q,PySem.W.cellsFrom_some _ _ _ (.inl q)⟩
  refine codeAny_call_function hr.depth (KX _ _ lk) rfl S.co S.gen rfl (PySem.W.codeRec_of KX hcd) (hb _ _ _ _ ?_)
  refine wpAny_newFunctionEnv_cells S.kind hkind fun env he s1 x=>?_
  subst he
  refine ⟨lim.keeps x.toInCall.keep,codeAny_func ?_⟩
  obtain ⟨t,ht,hq⟩:=hbody A outer s H vs Q E (hr.deeper _) hsp
  have I:Inv (cxOf CX P w K mg base N qual scope f cdv A outer s H E) [] (start N vs) H s1:=inv_start S hr.hd e0 hl r x
  refine wpAny_mono (ht [] s1 (start N vs) H _ I hq) (fun fl s' hs=>?_) fun e s' hs=>hs
  have fin:∀ {σ':St}{H':Hp}{v:V}{u:Value},Inv (cxOf CX P w K mg base N qual scope f cdv A outer s H E) [] σ' H' s'→RelV v u→Q v H'→CE outer P w H s Q u s' :=
    fun {σ' H' v u} J rv q=>⟨v,H',J.os,J.bare,J.base,J.hok,rv,q⟩
  cases fl with
  | ret u =>
    obtain ⟨v,σ',H',J,rv,q⟩:=hs
    exact fin J rv q
  | next =>
    obtain ⟨σ',H',J,q⟩:=hs
    exact fin (v:=V.non) (u:=Value.none) J rfl q
  | brk =>
    obtain ⟨_,_,_,q⟩:=hs
    exact False.elim q
  | cont =>
    obtain ⟨_,_,_,q⟩:=hs
    exact False.elim q
end L2
namespace L2
open PySem PySem.Spec PyProof.Rows
section
variable {X:Cx}{x:Str}{p pos:Pos}{e:Expr}{es:List Expr}{t:TA}{id T:String}{r:List V→Hp→VK→Prop}
def tCB (r:List V→Hp→VK→Prop) (t:TA):TE:=fun σ H Q=>t σ H fun vs H1=>r vs H1 Q
theorem zAS (hc:zDs X (.builtin id) r) (hg:Gl X x) (hm:X.mg x=none) (hv:bootBuiltins x=some (.builtin id)) (ha:PA X (e::es) t) (hn:x≠"__name__":=by decide) (hdb:(x == ("__debug__":Str))=false:=by decide)
  (he:starEach (e::es) X.env=(false,eval e X.env)::starEach es X.env:=by rfl) (hpl:(backTo pos (starEach es X.env)).any (·.1)=false:=by rfl):PE X (.Call (.Name x p) (e::es) [] pos) (tCB r t):=by
 intro pins s σ H Q I h
 refine wpAny_Call_Name_kw (zDg I hg hm hv ?_ hn hdb)
 exact PyProof.Rows.callWith_builtin1 (thn (ha pos pins s σ H _ I h) fun us s1 ⟨vs,H1,I1,r1,q1⟩=>hc pins s1 σ H1 vs us Q I1 r1 q1) he hpl
theorem zAs (hc:zDs X (.type T) r) (hg:Gl X x) (hm:X.mg x=none) (hv:bootBuiltins x=some (.type T)) (ha:PA X (e::es) t) (hn:x≠"__name__":=by decide) (hdb:(x == ("__debug__":Str))=false:=by decide)
  (he:starEach (e::es) X.env=(false,eval e X.env)::starEach es X.env:=by rfl) (hpl:(backTo pos (starEach es X.env)).any (·.1)=false:=by rfl):PE X (.Call (.Name x p) (e::es) [] pos) (tCB r t):=by
 intro pins s σ H Q I h
 refine wpAny_Call_Name_kw (zDg I hg hm hv ?_ hn hdb)
 exact PyProof.Rows.callWith_type1 (thn (ha pos pins s σ H _ I h) fun us s1 ⟨vs,H1,I1,r1,q1⟩=>hc pins s1 σ H1 vs us Q I1 r1 q1) he hpl
end
end L2
namespace HT
open PySem PyProof.Rows
section
variable {prog:Program}{w:World}{A:Around}{E:Value→Shared→Prop}{s:Shared}
theorem cat_tup {t b:Addr}{vs ws:List Value}{Q:Value→Shared→Prop} (ht:IsTup s.heap t vs.toArray) (hb:IsTup s.heap b ws.toArray) (hv:vs≠[])
  (h1:ws=[]→Q (.ref t) s) (h2:ws≠[]→Q (.ref s.heap.objs.size) { s with heap:=s.heap.push { cls:=.type "tuple",data:=.seq (vs++ws).toArray } })
  (hsz:vs.length+ws.length≤sizeLine):wpAny (model prog w) A (binaryOp .Add (.ref t) (.ref b)) Q E s:=by
 obtain ⟨⟨cls,dd,data,sl⟩,ho,hc,n,hd⟩:=id ht
 obtain ⟨⟨cls2,dd2,data2,sl2⟩,ho2,hc2,n2,hd2⟩:=id hb
 simp only at hc hd hc2 hd2
 subst hc hd hc2 hd2
 have e:vs.toArray++ws.toArray=(vs++ws).toArray:=by simp
 by_cases hw:ws=[]
 ·exact concat_meets ⟨_,ho,rfl⟩ ⟨_,ho2,rfl⟩ noFill_tuple_add seq_tuple_add PySem.F.slot_tuple_add PySem.F.entry_tuple_add (PySem.F.args_tuple_add_2 _ _)
   (tuple_addW1 t b vs.toArray ws.toArray n n2 dd dd2 sl sl2 (by simpa using hv) (by simp [hw])) ⟨ho,ho2,h1 hw⟩
 ·refine concat_meets ⟨_,ho,rfl⟩ ⟨_,ho2,rfl⟩ noFill_tuple_add seq_tuple_add PySem.F.slot_tuple_add PySem.F.entry_tuple_add (PySem.F.args_tuple_add_2 _ _)
   (tuple_addW2 t b vs.toArray ws.toArray n n2 dd dd2 sl sl2 (by simpa using hv) (by simpa using hw) (by rw [List.size_toArray,List.size_toArray]; exact hsz)) ⟨ho,ho2,?_⟩
  rw [e]
  exact h2 hw
def sIx (n d:Nat):Option Int→Nat
 | none=>d
 | some v=>if v < 0 then (v+(n:Int)).toNat else min v.toNat n
theorem sIx_nat (n d k:Nat):sIx n d (some (k:Int))=min k n:=by
 show (if (k:Int) < 0 then ((k:Int)+(n:Int)).toNat else min (k:Int).toNat n)=min k n
 rw [if_neg (by omega),Int.toNat_natCast]
end
end HT
namespace L2
open PySem PySem.Spec PyProof.Rows
abbrev TO:=St→Hp→(Option Int→Hp→Prop)→Prop
def PO (X:Cx) (e:Option Expr) (t:TO):Prop :=
 ∀ (pins:List (Addr×Obj)) (s:Shared) (σ:St) (H:Hp) (Q:Option Int→Hp→Prop),Inv X pins σ H s→t σ H Q →
  wpAny (model X.prog X.w) X.A (evalPart e X.env) (fun u s'=>∃ o H',Inv X pins σ H' s'∧IsPart u o∧Q o H') X.xe s
def tPart (t:TE):TO:=fun σ H Q=>t σ H fun x H1=>∃ i,x = .int i∧Q (some i) H1
section
variable {X:Cx}{e:Expr}{te:TE}{lo hi:Option Expr}{tl th:TO}{pos p2:Pos}
theorem zEc (h:PE X e te):PO X (some e) (tPart te):=by
 intro pins s σ H Q I hw
 rw [evalPart_some]
 refine thn (h pins s σ H _ I hw) fun u s1 ⟨x,H1,I1,r1,q1⟩=>?_
 obtain ⟨i,rfl,q⟩:=q1
 obtain ⟨t,rfl⟩:=r1
 exact ⟨some i,H1,I1,.int i t,q⟩
def SlR (X:Cx) (r:V→Option Int→Option Int→Hp→VK→Prop):Prop :=
 ∀ (pins:List (Addr×Obj)) (s:Shared) (σ:St) (H:Hp) (x:V) (v vl vu:Value) (lo hi:Option Int) (sl:Addr) (Q:VK),Inv X pins σ H s→RelV x v→s.heap.IsSliceOf sl vl vu .none→IsPart vl lo→IsPart vu hi→r x lo hi H Q →
  ∃ T id,typeLookup (.type T) "__getitem__" = pure (some (.builtin id))∧s.TypeIs v T∧wpAny (model X.prog X.w) X.A (getItem v (.ref sl)) (EP X pins σ Q) X.xe s
def tSl (r:V→Option Int→Option Int→Hp→VK→Prop) (te:TE) (tl th:TO):TE:=fun σ H Q=>te σ H fun x H1=>tl σ H1 fun l H2=>th σ H2 fun u H3=>r x l u H3 Q
theorem zGG {r:V→Option Int→Option Int→Hp→VK→Prop} (hr:SlR X r) (he:PE X e te) (hl:PO X lo tl) (hu:PO X hi th):PE X (.Subscript e (.Slice lo hi none p2) pos) (tSl r te tl th):=by
 intro pins s σ H Q I h
 refine Subscript_ (thn (he pins s σ H _ I h) fun v s1 ⟨x,H1,I1,r1,q1⟩=>?_)
 refine wpAny_Slice (thn (hl pins s1 σ H1 _ I1 q1) fun vl s2 ⟨l,H2,I2,pl,q2⟩=>thn (hu pins s2 σ H2 _ I2 q2) fun vu s3 ⟨u,H3,I3,pu,q3⟩=>?_)
 rw [evalPart_none]
 refine wpAny_pure ?_
 have I4:Inv X pins σ H3 { s3 with heap:=s3.heap.push { cls:=.type "slice",data:=.fields #[vl,vu,.none] } }:=I3.kept (t':=s3.toks) fun b ob q=>Heap.get?_push_of_some _ q
 obtain ⟨T,id,hT,ht,hg⟩:=hr pins { s3 with heap:=s3.heap.push { cls:=.type "slice",data:=.fields #[vl,vu,.none] } } σ H3 x v vl vu l u s3.heap.objs.size Q I4 r1 (Heap.IsSliceOf.new ..) pl pu q3
 show wpAny (model X.prog X.w) X.A (subscriptTail e (.Slice lo hi none p2) v (.ref s3.heap.objs.size)) (EP X pins σ Q) X.xe { s3 with heap:=s3.heap.push { cls:=.type "slice",data:=.fields #[vl,vu,.none] } }
 exact tail_any (ops:=[.ref s3.heap.objs.size,v]) ht hT hg (by with_unfolding_all rfl)
def cutV (xs:List V) (lo hi:Option Int):List V:=(xs.drop (HT.sIx xs.length 0 lo)).take (HT.sIx xs.length xs.length hi - HT.sIx xs.length 0 lo)
theorem zFv (xs:List V) (lo hi:Option Int):(cutV xs lo hi).length≤xs.length:=by
 unfold cutV
 rw [List.length_take,List.length_drop]
 omega
def rCatT (K:Fg):R2:=fun x y H Q=>∃ a b xs ys,x = .ref a∧y = .ref b∧SqT K H a xs∧SqT K H b ys∧xs≠[]∧xs.length+ys.length≤sizeLine ∧
 (ys=[]→Q (.ref a) H)∧(ys≠[]→∀ p,H p=none→Q (.ref p) (upd H p (.tup (xs++ys))))
theorem Vals.nil_iff {xs:List V}{us:List Value} (r:Vals xs us):us=[]↔xs=[]:=by
 cases r with
 | nil=>simp
 | cons _ _=>simp
theorem op_catT:OpR X (binaryOp .Add) (rCatT X.K):=by
 intro pins s σ H x y v u Q I rx ry h
 obtain ⟨a,b,xs,ys,rfl,rfl,ha,hb,hx,hz,q1,q2⟩:=h
 cases rx
 cases ry
 obtain ⟨its,r1,p1,_⟩:=I.tuple ha
 obtain ⟨its2,r2,p2,_⟩:=I.tuple hb
 refine HT.cat_tup p1 p2 (fun z=>hx (r1.nil_iff.mp z)) (fun z=>⟨.ref a,H,I,rfl,q1 (r2.nil_iff.mp z)⟩) (fun z=>?_) (by rw [←r1.length,←r2.length]; exact hz)
 refine ⟨.ref s.heap.objs.size,_,I.laid (t':=s.toks) (o:=.tup (xs++ys)) (fun b ob q=>Heap.get?_push_of_some _ q) (Nat.le_refl _) ?_,rfl,q2 (fun w=>z (r2.nil_iff.mpr w)) _ (I.hok.fresh (Nat.le_refl _))⟩
 exact ⟨by rw [List.length_append]; exact hz,_,r1.append r2,IsTup.new _ _⟩
end
end L2
namespace L2
open PySem PySem.Spec PyProof.Rows
def ixN (n:Nat) (i:Int):Option Nat:=if 0≤i then (if i < n then some i.toNat else none) else if -(n:Int)≤i then some (i+n).toNat else none
def atI {α:Type} (xs:List α) (i:Int):Option α:=(ixN xs.length i).bind fun j=>xs[j]?
theorem ixN_seq {n:Nat}{i:Int}{j:Nat} (h:ixN n i=some j):seqIndex? i n=some j∧j < n∧-(n:Int)≤i∧i < n:=by
 unfold ixN at h
 by_cases h0:0≤i
 ·rw [if_pos h0] at h
  by_cases h1:i < n
  ·rw [if_pos h1] at h
   have e:i.toNat=j:=Option.some.inj h
   exact ⟨by rw [seqIndex_of h0 h1,e],by omega,by omega,h1⟩
  ·rw [if_neg h1] at h; cases h
 ·rw [if_neg h0] at h
  by_cases h1:-(n:Int)≤i
  ·rw [if_pos h1] at h
   have e:(i+n).toNat=j:=Option.some.inj h
   exact ⟨by rw [seqIndex_neg (by omega) h1,e],by omega,h1,by omega⟩
  ·rw [if_neg h1] at h; cases h
theorem atI_get {α:Type}{xs:List α}{i:Int}{v:α} (h:atI xs i=some v):∃ j,seqIndex? i xs.length=some j∧xs[j]? = some v∧j < xs.length∧-(xs.length:Int)≤i∧i < xs.length:=by
 unfold atI at h
 cases e:ixN xs.length i with
 | none=>rw [e] at h; cases h
 | some j =>
  rw [e] at h
  obtain ⟨h1,h2,h3,h4⟩:=ixN_seq e
  exact ⟨j,h1,h,h2,h3,h4⟩
theorem zAO {α:Type}{xs:List α}{j:Nat}{v:α} (h:xs[j]? = some v):atI xs (j:Int)=some v:=by
 have hj:j < xs.length:=(List.getElem?_eq_some_iff.mp h).1
 have e:ixN xs.length (j:Int)=some j:=by
  unfold ixN
  rw [if_pos (by omega),if_pos (by omega)]; simp
 unfold atI; rw [e]; exact h
theorem zGp {α:Type} (xs:List α) (v:α):atI (xs++[v]) (-1)=some v:=by
 have hl:(xs++[v]).length=xs.length+1:=by simp
 have e:ixN (xs++[v]).length (-1)=some xs.length:=by
  unfold ixN
  rw [hl,if_neg (by decide),if_pos (by omega)]
  congr 1
  omega
 unfold atI
 rw [e]
 show (xs++[v])[xs.length]? = some v
 simp
def PlainIx (b:Expr):Prop:=∀ o i,subscripted b false o i=operate [o,i] (getItem o i)
def IxR (X:Cx) (r:R2):Prop :=
 ∀ (value slice:Expr) (pins:List (Addr×Obj)) (s:Shared) (σ:St) (H:Hp) (x y:V) (v u:Value) (Q:VK),Inv X pins σ H s→RelV x v→RelV y u→r x y H Q →
  subscripted slice false v u=operate [v,u] (getItem v u)→wpAny (model X.prog X.w) X.A (subscriptTail value slice v u) (EP X pins σ Q) X.xe s
def MtR (X:Cx) (id:String) (r:V→List V→Hp→VK→Prop):Prop :=
 ∀ (pins:List (Addr×Obj)) (s:Shared) (σ:St) (H:Hp) (x:V) (xs:List V) (v:Value) (us:List Value) (Q:VK),Inv X pins σ H s→RelV x v→Vals xs us→r x xs H Q →
  wpAny (model X.prog X.w) X.A (call (.builtin id) (v::us)) (EP X pins σ Q) X.xe s
section
variable {X:Cx}{a b:Expr}{ta tb:TE}{pos:Pos}
theorem zAn {r:R2} (hr:IxR X r) (ha:PE X a ta) (hb:PE X b tb) (hs:PlainIx b):PE X (.Subscript a b pos) (tOp r ta tb):=by
 intro pins s σ H Q I h
 exact Subscript_ (binT ha hb I h fun v u s2 x y H2 I2 rx ry q=>hr a b pins s2 σ H2 x y v u Q I2 rx ry q (hs _ _))
inductive QX (S:Hp→Addr→List V→Prop) (x y:V) (H:Hp) (Q:VK):Prop
 | mk (p:Addr) (xs:List V) (i:Int) (v:V) (h1:x = .ref p) (h2:y = .int i) (h3:S H p xs) (h4:atI xs i=some v) (k:Q v H)
def rIxL (K:Fg):R2:=fun x y H Q=>QX (SqL K) x y H Q
def rIxT (K:Fg):R2:=fun x y H Q=>QX (SqT K) x y H Q
theorem zAc:IxR X (rIxL X.K):=by
 intro value slice pins s σ H x y v u Q I rx ry h hs
 obtain ⟨p,xs,i,z,rfl,rfl,hq,he,q⟩:=h
 cases rx
 obtain ⟨t,rfl⟩:=ry
 obtain ⟨its,r,pl,hz⟩:=I.list hq
 obtain ⟨j,h1,h2,h3,h4,h5⟩:=atI_get he
 obtain ⟨w,ew,rw'⟩:=r.get h2
 have hl:=r.length
 have hn:=zGW
 have fin:EP X pins σ Q w s:=⟨z,H,I,rw',q⟩
 by_cases h0:0≤i
 ·have hj:i.toNat=j:=by
   rw [seqIndex_of h0 h5] at h1
   exact Option.some.inj h1
  exact item_listR pl.isList h0 (by omega) (by rw [hj]; simpa using ew) fin hs
 ·have hj:(i+(its.toArray.size:Int)).toNat=j:=by
   rw [seqIndex_neg (by omega) h4] at h1
   rw [List.size_toArray,←hl]
   exact Option.some.inj h1
  exact subscriptTail_builtinR (x:=w) pl.isList.typeIs slot_list_getitem.lookup
   (wpAny_getItem_list_neg (Q:=fun r s'=>r=w∧EP X pins σ Q r s') pl.isList (by omega) (by rw [List.size_toArray] <;> omega) (by omega) (by rw [hj]; simpa using ew) ⟨rfl,fin⟩) hs
theorem zBW:IxR X (rIxT X.K):=by
 intro value slice pins s σ H x y v u Q I rx ry h hs
 obtain ⟨p,xs,i,z,rfl,rfl,hq,he,q⟩:=h
 cases rx
 obtain ⟨t,rfl⟩:=ry
 obtain ⟨its,r,pl,hz⟩:=I.tuple hq
 obtain ⟨j,h1,h2,h3,h4,h5⟩:=atI_get he
 obtain ⟨w,ew,rw'⟩:=r.get h2
 have hl:=r.length
 have hn:=zGW
 have fin:EP X pins σ Q w s:=⟨z,H,I,rw',q⟩
 exact subscriptTail_builtinR (x:=w) pl.typeIs slot_tuple_getitem.lookup
  (getItem_tuple (j:=j) (Q:=fun r s'=>r=w∧EP X pins σ Q r s') pl (by omega) (by omega) (by rw [List.size_toArray,←hl]; exact h1) (by simpa using ew) ⟨rfl,fin⟩) hs
theorem zG7 (its:List Value) (n j:Nat) (u:Value):Obj.mapSeq (·.setIfInBounds j u) { cls:=.type "list",data:=.seq its.toArray n }={ cls:=.type "list",data:=.seq (its.set j u).toArray n }:=by
 simp [Obj.mapSeq]
theorem Inv.lst {pins:List (Addr×Obj)}{σ:St}{H:Hp}{s:Shared}{p:Addr}{xs:List V} (I:Inv X pins σ H s) (h:H p=some (.lst xs)) :
  ∃ (its:List Value) (n:Nat),Vals xs its∧s.heap.get? p=some { cls:=.type "list",data:=.seq its.toArray n }∧xs.length≤sizeLine:=by
 obtain ⟨z,its,n,r,e⟩:=I.hok p _ h
 exact ⟨its,n,r,e,z⟩
theorem Inv.lstUpd {pins:List (Addr×Obj)}{σ:St}{H:Hp}{s:Shared}{p:Addr}{xs ys:List V}{its its':List Value}{n n':Nat}{f:Obj→Obj} (I:Inv X pins σ H s) (h:H p=some (.lst xs))
  (ho:s.heap.get? p=some { cls:=.type "list",data:=.seq its.toArray n }) (hf:f { cls:=.type "list",data:=.seq its.toArray n }={ cls:=.type "list",data:=.seq its'.toArray n' }) (r:Vals ys its') (hz:ys.length≤sizeLine) (t:Nat) :
  Inv X pins σ (upd H p (.lst ys)) { s with heap:=s.heap.update p f,toks:=t }:=by
 have e:(s.heap.update p f).get? p=some { cls:=.type "list",data:=.seq its'.toArray n' }:=by
  rw [Heap.get?_update_self f ho (by rw [hf] <;> rfl),hf]
 refine I.write (x:=p) (e:=p) (by rw [h]; trivial) (.inl rfl) (fun b u hb q=>(Heap.get?_update_other _ _ (Ne.symm hb)).trans q) ⟨_,e⟩ ?_
 exact ⟨hz,its',n',r,e⟩
def rSetL:V→V→V→Hp→(Hp→Prop)→Prop:=fun o i v H Q=>∃ p xs k j,o = .ref p∧i = .int k∧H p=some (.lst xs)∧ixN xs.length k=some j∧Q (upd H p (.lst (xs.set j v)))
theorem zCZ:PSet X rSetL:=by
 intro pins s σ H o i v ov iv u Q I ro ri rv h
 obtain ⟨p,xs,k,j,rfl,rfl,hp,hj,q⟩:=h
 cases ro
 obtain ⟨t,rfl⟩:=ri
 obtain ⟨its,n,r,ho,hz⟩:=I.lst hp
 obtain ⟨h1,h2,h3,h4⟩:=ixN_seq hj
 have hl:=r.length
 have hn:=zGW
 have I':Inv X pins σ (upd H p (.lst (xs.set j v))) { s with heap:=s.heap.update p (Obj.mapSeq (·.setIfInBounds j u)) } :=
  I.lstUpd hp ho (zG7 its n j u) (r.set rv j) (by rw [List.length_set]; exact hz) s.toks
 by_cases h0:0≤k
 ·have hk:k.toNat=j:=by
   rw [seqIndex_of h0 h4] at h1
   exact Option.some.inj h1
  exact PySem.W.ki_setAt ho h0 (by omega) (by rw [List.size_toArray,←hl]; exact h4) (by rw [hk]; exact ⟨_,I',q⟩)
 ·have hk:(k+(its.toArray.size:Int)).toNat=j:=by
   rw [seqIndex_neg (by omega) h3] at h1
   rw [List.size_toArray,←hl]
   exact Option.some.inj h1
  exact PySem.W.ki_setBack ho (by omega) (by rw [List.size_toArray,←hl]; exact h3) (by omega) (by rw [hk]; exact ⟨_,I',q⟩)
theorem zE0 (lo hi:Option Int) (n:Nat):(sliceBounds lo hi none n).1=((HT.sIx n 0 lo:Nat):Int)∧(sliceBounds lo hi none n).2.1=((HT.sIx n n hi:Nat):Int)∧(sliceBounds lo hi none n).2.2=1:=by
 refine ⟨?_,?_,rfl⟩
 ·cases lo with
  | none=>simp [sliceBounds,HT.sIx]
  | some i =>
   simp only [sliceBounds,HT.sIx,Option.getD_none,show (1:Int) > 0 by decide,if_true]
   by_cases h:i < 0
   ·simp only [h,if_true] <;> omega
   ·simp only [h,if_false] <;> omega
 ·cases hi with
  | none=>simp [sliceBounds,HT.sIx]
  | some i =>
   simp only [sliceBounds,HT.sIx,Option.getD_none,show (1:Int) > 0 by decide,if_true]
   by_cases h:i < 0
   ·simp only [h,if_true] <;> omega
   ·simp only [h,if_false] <;> omega
theorem zEU (its:List Value) (lo hi:Option Int):slicePick its.toArray lo hi none=((its.drop (HT.sIx its.length 0 lo)).take (HT.sIx its.length its.length hi - HT.sIx its.length 0 lo)).toArray:=by
 obtain ⟨h1,h2,h3⟩:=zE0 lo hi its.toArray.size
 unfold slicePick
 rw [h1,h2,h3]
 simp only [sliceRange_one,pick_run,List.size_toArray] <;> rfl
def rSlL (K:Fg):V→Option Int→Option Int→Hp→VK→Prop:=fun x lo hi H Q=>∃ a xs,x = .ref a∧SqL K H a xs∧∀ p,H p=none→Q (.ref p) (upd H p (.lst (cutV xs lo hi)))
theorem zHa:SlR X (rSlL X.K):=by
 intro pins s σ H x v vl vu lo hi sl Q I rx hs pl pu h
 obtain ⟨a,xs,rfl,hx,q⟩:=h
 cases rx
 obtain ⟨its,r,ht,hz⟩:=I.list hx
 have hlen:=r.length
 refine ⟨"list",_,slot_list_getitem.lookup,ht.isList.typeIs,?_⟩
 refine wpAny_getItem_list_slice ht.isList hs pl pu .none (by simp) ?_ (by rw [List.size_toArray] <;> omega)
 rw [zEU,←hlen]
 refine ⟨.ref s.heap.objs.size,_,I.laid (t':=s.toks) (o:=.lst (cutV xs lo hi)) (fun b ob q=>Heap.get?_push_of_some _ q) (Nat.le_refl _) ?_,rfl,q _ (I.hok.fresh (Nat.le_refl _))⟩
 exact ⟨Nat.le_trans (zFv xs lo hi) hz,_,0,(r.drop (HT.sIx xs.length 0 lo)).take (HT.sIx xs.length xs.length hi - HT.sIx xs.length 0 lo),Heap.get?_push_size _ rfl⟩
theorem zAL:zDs X (.builtin "len") (fun xs H Q=>∃ p ys,xs=[.ref p]∧(SqL X.K H p ys∨SqT X.K H p ys)∧Q (.int ys.length) H):=by
 intro pins s σ H xs us Q I r h
 obtain ⟨p,ys,rfl,hq,q⟩:=h
 obtain ⟨u,rfl,rx⟩:=zGs r
 cases rx
 have hn:=zGW
 rcases hq with hq | hq
 ·obtain ⟨its,r',pl,hz⟩:=I.list hq
  have hlen:=r'.length
  exact Calls.call_len_list pl.isList (by simp only [List.size_toArray] <;> omega) ⟨.int ys.length,H,I.tok _,⟨s.toks+1,by rw [List.size_toArray,hlen]⟩,q⟩
 ·obtain ⟨its,r',pl,hz⟩:=I.tuple hq
  have hlen:=r'.length
  exact len_tuple pl (by simp only [List.size_toArray] <;> omega) ⟨.int ys.length,H,I.tok _,⟨s.toks+1,by rw [List.size_toArray,hlen]⟩,q⟩
theorem zFQ:zDs X (.type "list") (fun xs H Q=>∃ p ys,xs=[.ref p]∧(SqL X.K H p ys∨SqT X.K H p ys)∧∀ l,H l=none→Q (.ref l) (upd H l (.lst ys))):=by
 intro pins s σ H xs us Q I r h
 obtain ⟨p,ys,rfl,hq,q⟩:=h
 obtain ⟨u,rfl,rx⟩:=zGs r
 cases rx
 have fin:∀ (its:List Value),Vals ys its→ys.length≤sizeLine→∀ (h':Heap) (c':Nat),(∀ b o',s.heap.get? b=some o'→h'.get? b=some o') →
   h'.get? s.heap.objs.size=some { cls:=.type "list",dict:=none,data:=.seq its.toArray c',slots:=#[] }→EP X pins σ Q (.ref s.heap.objs.size) { s with heap:=h' }:=fun its r' hz h' c' kp e =>
  ⟨.ref s.heap.objs.size,_,I.laid (t':=s.toks) kp (Nat.le_refl _) (show ObjOk X.prog X.w _ h' _ (.lst ys) from ⟨hz,its,c',r',e⟩),rfl,q _ (I.hok.fresh (Nat.le_refl _))⟩
 rcases hq with hq | hq
 ·obtain ⟨its,r',pl,hz⟩:=I.list hq
  have hlen:=r'.length
  obtain ⟨o,ho,hc,n,hd⟩:=pl.isList
  exact call_list_seq p (.inl rfl) ho hc hd (fun h' c' kp e=>fin its r' hz h' c' kp e) (by simp only [List.size_toArray] <;> omega)
 ·obtain ⟨its,r',pl,hz⟩:=I.tuple hq
  have hlen:=r'.length
  obtain ⟨o,ho,hc,n,hd⟩:=pl
  exact call_list_seq p (.inr rfl) ho hc hd (fun h' c' kp e=>fin its r' hz h' c' kp e) (by simp only [List.size_toArray] <;> omega)
theorem zAe:zDs X (.type "tuple") (fun xs H Q=>∃ p ys,xs=[.ref p]∧((SqL X.K H p ys∧∀ l,H l=none→Q (.ref l) (upd H l (.tup ys)))∨(SqT X.K H p ys∧Q (.ref p) H))):=by
 intro pins s σ H xs us Q I r h
 obtain ⟨p,ys,rfl,h⟩:=h
 obtain ⟨u,rfl,rx⟩:=zGs r
 cases rx
 rcases h with ⟨hq,q⟩ | ⟨hq,q⟩
 ·obtain ⟨its,r',pl,hz⟩:=I.list hq
  have hlen:=r'.length
  refine call_tuple_list pl.isList (fun h' kp=>?_) (by simp only [List.size_toArray] <;> omega)
  have I1:Inv X pins σ H { s with heap:=h' }:=I.kept (t':=s.toks) kp
  have I2:Inv X pins σ (upd H h'.objs.size (.tup ys)) { s with heap:=h'.push { cls:=.type "tuple",data:=.seq its.toArray } } :=
   I1.laid (t':=s.toks) (fun b o e=>Heap.get?_push_of_some _ e) (Nat.le_refl _) (show ObjOk X.prog X.w _ _ _ (.tup ys) from ⟨hz,its,r',IsTup.new _ _⟩)
  exact ⟨.ref h'.objs.size,_,I2,rfl,q _ (I1.hok.fresh (Nat.le_refl _))⟩
 ·obtain ⟨its,r',pl,hz⟩:=I.tuple hq
  exact call_tuple_same pl ⟨.ref p,H,I,rfl,q⟩
def tyV (K:Fg) (T:String) (x:V) (H:Hp):Prop:=match x with
 | .str _=>T = "str"
 | .int _=>T = "int"
 | .ref p=>(T = "list"∧∃ xs,SqL K H p xs)∨(T = "tuple"∧∃ o,K.lookup p=some o∧o.cls = .type "tuple"∧o.dict=none) ∨
   (T = "dict"∧((∃ kvs,H p=some (.dK kvs))∨∃ kvs,H p=some (.dT kvs)))∨(T = "set"∧∃ S n,H p=some (.set S n))
 | _=>False
theorem tyV_is {pins:List (Addr×Obj)}{σ:St}{H:Hp}{s:Shared}{T:String}{x:V}{v:Value} (I:Inv X pins σ H s) (r:RelV x v) (ty:tyV X.K T x H) :
  s.TypeIs v T∧∀ a,v = .ref a→∃ ob,s.heap.get? a=some ob∧ob.dict=none:=by
 cases x with
 | str z =>
  obtain ⟨t,rfl⟩:=r
  cases (show T = "str" from ty)
  exact ⟨typeIs_str s z t,fun _ e=>nomatch e⟩
 | int i =>
  obtain ⟨t,rfl⟩:=r
  cases (show T = "int" from ty)
  exact ⟨typeIs_int s i t,fun _ e=>nomatch e⟩
 | ref p =>
  cases r
  rcases ty with ⟨rfl,xs,hq⟩ | ⟨rfl,o,hk,hc,hd⟩ | ⟨rfl,hk⟩ | ⟨rfl,S,n,hk⟩
  ·obtain ⟨its,_,pl,_⟩:=I.list hq
   refine ⟨pl.isList.typeIs,fun a e=>?_⟩
   cases e
   obtain ⟨o,n,e,c,hd,_⟩:=pl
   exact ⟨o,e,hd⟩
  ·refine ⟨⟨o,I.kIn p o hk,hc⟩,fun a e=>?_⟩
   cases e
   exact ⟨o,I.kIn _ o hk,hd⟩
  ·have z:∃ o,s.heap.get? p=some o∧o.ExactDict:=by
    rcases hk with ⟨kvs,hk⟩ | ⟨kvs,hk⟩
    ·obtain ⟨_,_,_,_,o,_,_,e,ex,_⟩:=I.hok p _ hk
     exact ⟨o,e,ex⟩
    ·obtain ⟨_,_,_,_,o,_,_,e,ex,_⟩:=I.hok p _ hk
     exact ⟨o,e,ex⟩
   obtain ⟨o,e,ex⟩:=z
   refine ⟨⟨o,e,ex.1⟩,fun a e2=>?_⟩
   cases e2
   exact ⟨o,e,ex.2.1⟩
  ·obtain ⟨o,_,_,_,e,ex,_⟩:=I.hok p _ hk
   refine ⟨⟨o,e,ex.1⟩,fun a e2=>?_⟩
   cases e2
   exact ⟨o,e,ex.2.1⟩
 | _=>exact False.elim ty
def tBM0 (K:Fg) (T:String) (r:V→List V→Hp→VK→Prop) (to:TE):TE:=fun σ H Q=>to σ H fun x H1=>tyV K T x H1∧r x [] H1 Q
def tBM (K:Fg) (T:String) (r:V→List V→Hp→VK→Prop) (to:TE) (t:TA):TE:=fun σ H Q=>to σ H fun x H1=>tyV K T x H1∧t σ H1 fun xs H2=>r x xs H2 Q
variable {o e:Expr}{es:List Expr}{to:TE}{t:TA}{name:Str}{apos cpos:Pos}{T id:String}{r:V→List V→Hp→VK→Prop}
theorem pe_bm0 (pa:PlainAttrs T) (slot:Slot T name id) (hty:typeOf (.builtin id)=pure (.type "method_descriptor")) (hm:MtR X id r) (ho:PE X o to)
  (hbase:attributeBase o name X.env (eval o X.env)=eval o X.env:=by rfl) (hline:(apos.endLine == cpos.line)=true:=by rfl):PE X (.Call (.Attribute o name apos) [] [] cpos) (tBM0 X.K T r to):=by
 intro pins s σ H Q I h
 refine wpAny_Call_method0_late hbase hline (thn (ho pins s σ H _ I h) fun v s1 ⟨x,H1,I1,r1,ty,q1⟩=>?_)
 obtain ⟨h1,h2⟩:=tyV_is I1 r1 ty
 exact ⟨T,id,pa,slot,hty,h1,h2,Calls.callWith_builtin rfl (PySem.evalArgs_none (hm pins s1 σ H1 x [] v [] Q I1 r1 .nil q1))⟩
theorem zAw (pa:PlainAttrs T) (slot:Slot T name id) (hty:typeOf (.builtin id)=pure (.type "method_descriptor")) (hm:MtR X id r) (ho:PE X o to) (ha:PA X (e::es) t)
    (hbase:attributeBase o name X.env (eval o X.env)=eval o X.env:=by rfl)
    (hfew:((backTo cpos (starEach (e::es) X.env)).all (fun x=>!x.1) && (backToKw cpos (keywordEach [] X.env)).all (fun x=>x.1.isSome)
      && decide ((e::es).length+([]:List Keyword).length+(if ([]:List Keyword).isEmpty then 0 else 1) < 30))=true:=by rfl)
    (hline:(apos.endLine == cpos.line)=true:=by rfl) (hs:starEach (e::es) X.env=(false,eval e X.env)::starEach es X.env:=by rfl) (hplain:(backTo cpos (starEach es X.env)).any (·.1)=false:=by rfl) :
    PE X (.Call (.Attribute o name apos) (e::es) [] cpos) (tBM X.K T r to t):=by
  intro pins s σ H Q I h
  refine wpAny_Call_method_late hbase hfew hline rfl (thn (ho pins s σ H _ I h) fun v s1 ⟨x,H1,I1,r1,ty,q1⟩=>?_)
  obtain ⟨h1,h2⟩:=tyV_is I1 r1 ty
  refine ⟨T,id,pa,slot,hty,h1,h2,?_⟩
  have hA:=ha cpos pins s1 σ H1 _ I1 q1
  rw [hs] at hA ⊢
  refine Calls.callWith_builtin (by show (false || (backTo cpos (starEach es X.env)).any (·.1))=false; rw [hplain] <;> rfl) (Calls.evalArgs_plain ?_)
  exact thn hA fun us s2 ⟨vs,H2,I2,r2,q2⟩=>hm pins s2 σ H2 x vs v us Q I2 r1 r2 q2
end
end L2
namespace L2
open PySem PySem.Spec PyProof.Rows
def MtM (X:Cx) (id:String) (r:V→List V→Hp→VK→Prop):Prop :=
 ∀ (pins:List (Addr×Obj)) (s:Shared) (σ:St) (H:Hp) (x:V) (xs:List V) (v:Value) (us:List Value) (Q:VK),Inv X pins σ H s→RelV x v→Vals xs us→r x xs H Q →
  wpAny (model X.prog X.w) X.A (call (.builtin id) (v::us)) (EP X pins σ Q) X.xe s
theorem Vals.one:∀ {x:V}{us:List Value},Vals [x] us→∃ u,us=[u]∧RelV x u
 | _,_,.cons r .nil=>⟨_,rfl,r⟩
theorem Vals.two:∀ {x y:V}{us:List Value},Vals [x,y] us→∃ u v,us=[u,v]∧RelV x u∧RelV y v
 | _,_,_,.cons r (.cons q .nil)=>⟨_,_,rfl,r,q⟩
theorem Vals.zero:∀ {us:List Value},Vals [] us→us=[]
 | _,.nil=>rfl
theorem Vals.reverse {xs:List V}{us:List Value} (h:Vals xs us):Vals xs.reverse us.reverse:=by
 induction h with
 | nil=>exact .nil
 | cons r t ih=>rw [List.reverse_cons,List.reverse_cons]; exact Vals.append ih (.cons r .nil)
theorem Vals.rep {xs:List V}{us:List Value} (h:Vals xs us):∀ k:Nat,Vals (List.replicate k xs).flatten (List.replicate k us).flatten
 | 0=>.nil
 | k+1=>by
  rw [List.replicate_succ,List.replicate_succ,List.flatten_cons,List.flatten_cons]
  exact Vals.append h (Vals.rep h k)
theorem zFJ (its:List Value):∀ (k:Nat) (acc:List Value),
  List.foldl (fun x1 x2=>x1++x2) acc.toArray (List.replicate k its.toArray)=(acc++(List.replicate k its).flatten).toArray
 | 0,acc=>by simp
 | k+1,acc=>by
  have e:acc.toArray++its.toArray=(acc++its).toArray:=by simp
  have e2:(acc++its)++(List.replicate k its).flatten=acc++(List.replicate (k+1) its).flatten:=by
   rw [List.replicate_succ,List.flatten_cons,List.append_assoc]
  rw [←e2,←zFJ its k (acc++its),←e,List.replicate_succ,List.foldl_cons]
section
variable {X:Cx}{pins:List (Addr×Obj)}{σ:St}{H:Hp}{s:Shared}{l b:Addr}{xs ys zs:List V}
theorem Inv.lset {its its':List Value}{n:Nat}{f:Array Value→Array Value}{t':Nat} (I:Inv X pins σ H s) (hH:H l=some (.lst xs))
  (e:s.heap.get? l=some { cls:=.type "list",data:=.seq its.toArray n }) (hf:f its.toArray=its'.toArray) (hv:Vals ys its') (hz:ys.length≤sizeLine) :
  Inv X pins σ (upd H l (.lst ys)) { s with heap:=s.heap.update l (Obj.mapSeq f),toks:=t' }:=by
 have q:=PySem.IsL.update e f
 rw [hf] at q
 refine I.write (x:=l) (e:=l) (by rw [hH]; exact trivial) (.inl rfl) (fun b' u hb hu=>(Heap.get?_update_other s.heap (Obj.mapSeq f) (Ne.symm hb)).trans hu) ⟨_,q⟩ ?_
 exact ⟨hz,its',_,hv,q⟩
theorem Inv.lnew {its:List Value}{t':Nat} (I:Inv X pins σ H s) (hv:Vals ys its) (hz:ys.length≤sizeLine) :
  Inv X pins σ (upd H s.heap.objs.size (.lst ys)) { s with heap:=s.heap.push { cls:=.type "list",data:=.seq its.toArray },toks:=t' } :=
 I.laid (fun _ _ q=>Heap.get?_push_of_some _ q) (Nat.le_refl _) ⟨hz,its,0,hv,Heap.get?_push_size _ rfl⟩
theorem Inv.fresh (I:Inv X pins σ H s):H s.heap.objs.size=none:=I.hok.fresh (Nat.le_refl _)
theorem Inv.lstM (I:Inv X pins σ H s) (hH:H l=some (.lst xs)):xs.length≤sizeLine∧∃ (its:List Value) (n:Nat),Vals xs its∧xs.length=its.length∧s.heap.get? l=some { cls:=.type "list",data:=.seq its.toArray n }:=by
 obtain ⟨z,its,n,r,e⟩:=I.hok l _ hH
 exact ⟨z,its,n,r,r.length,e⟩
theorem zEg {n:Nat} (h:n≤sizeLine):Builtin.List.listTooLong n=false:=by
 unfold Builtin.List.listTooLong
 exact decide_eq_false (by omega)
end
section
variable {X:Cx}
inductive QA (x:V) (vs:List V) (H:Hp) (Q:VK):Prop
 | mk (l:Addr) (xs:List V) (y:V) (h1:x = .ref l) (h2:vs=[y]) (h3:H l=some (.lst xs)) (h4:xs.length < sizeLine) (k:Q .non (upd H l (.lst (xs++[y]))))
def rAppend:V→List V→Hp→VK→Prop:=fun x vs H Q=>QA x vs H Q
theorem zAW:MtM X "list.append" rAppend:=by
 intro pins s σ H x vs v us Q I rx rv h
 obtain ⟨l,xs,y,rfl,rfl,hH,hz,q⟩:=h
 cases rx
 obtain ⟨u,rfl,ru⟩:=rv.one
 obtain ⟨z,its,n,r,hl,e⟩:=I.lstM hH
 refine call_meets F.slot_list_append ⟨_,e,rfl⟩ F.entry_list_append (F.args_list_append_2 _ _) (PySem.list_append l its.toArray n u (by rw [List.size_toArray]; omega)) ⟨e,?_⟩
 refine ⟨.non,_,I.lset (its':=its++[u]) hH e (by simp) (r.append (.cons ru .nil)) ?_,rfl,q⟩
 rw [List.length_append,List.length_singleton]
 omega
def rExtend:V→List V→Hp→VK→Prop:=fun x vs H Q=>∃ l b xs zs,x = .ref l∧vs=[.ref b]∧H l=some (.lst xs)∧H b=some (.lst zs)∧xs.length+zs.length≤sizeLine∧Q .non (upd H l (.lst (xs++zs)))
theorem zBc:MtM X "list.extend" rExtend:=by
 intro pins s σ H x vs v us Q I rx rv h
 obtain ⟨l,b,xs,zs,rfl,rfl,hH,hB,hz,q⟩:=h
 cases rx
 obtain ⟨u,rfl,ru⟩:=rv.one
 cases ru
 obtain ⟨z,its,n,r,hl,e⟩:=I.lstM hH
 obtain ⟨z2,its2,n2,r2,hl2,e2⟩:=I.lstM hB
 have hsz:its.toArray.size+its2.toArray.size≤sizeLine:=by rw [List.size_toArray,List.size_toArray]; omega
 have hlong:¬ (!its.toArray.isEmpty && Builtin.List.listTooLong (its.toArray.size+its2.toArray.size))=true:=by
  rw [zEg hsz,Bool.and_false]
  exact Bool.false_ne_true
 refine call_meets F.slot_list_extend ⟨_,e,rfl⟩ F.entry_list_extend (F.args_list_extend_2 _ _)
  (AutoSeq1.list_extend_list_list_0 l its.toArray n b its2.toArray n2 hlong (by rw [List.size_toArray]; omega) (by omega)) ⟨e,e2,?_⟩
 refine ⟨.non,_,I.lset (its':=its++its2) hH e (by simp) (r.append r2) ?_,rfl,q⟩
 rw [List.length_append]
 omega
def rReverse:V→List V→Hp→VK→Prop:=fun x vs H Q=>∃ l xs,x = .ref l∧vs=[]∧H l=some (.lst xs)∧Q .non (upd H l (.lst xs.reverse))
theorem zD7:MtM X "list.reverse" rReverse:=by
 intro pins s σ H x vs v us Q I rx rv h
 obtain ⟨l,xs,rfl,rfl,hH,q⟩:=h
 cases rx
 have hus:=rv.zero
 subst hus
 obtain ⟨z,its,n,r,hl,e⟩:=I.lstM hH
 refine call_meets F.slot_list_reverse ⟨_,e,rfl⟩ F.entry_list_reverse (F.args_list_reverse_1 _) (AutoSeq1.list_reverse_list_0 l its.toArray n (by rw [List.size_toArray]; omega)) ⟨e,?_⟩
 refine ⟨.non,_,I.lset (its':=its.reverse) hH e (by simp) r.reverse ?_,rfl,q⟩
 rw [List.length_reverse]
 omega
def rCat:R2:=fun x y H Q=>∃ l b xs zs,x = .ref l∧y = .ref b∧H l=some (.lst xs)∧H b=some (.lst zs)∧xs.length+zs.length≤sizeLine∧∀ p,H p=none→Q (.ref p) (upd H p (.lst (xs++zs)))
theorem zGM:OpR X (binaryOp .Add) rCat:=by
 intro pins s σ H x y v u Q I rx ry h
 obtain ⟨l,b,xs,zs,rfl,rfl,hH,hB,hz,q⟩:=h
 cases rx
 cases ry
 obtain ⟨z,its,n,r,hl,e⟩:=I.lstM hH
 obtain ⟨z2,its2,n2,r2,hl2,e2⟩:=I.lstM hB
 refine PySem.P.add_list e e2 ?_ (by rw [List.size_toArray,List.size_toArray]; omega)
 have ea:its.toArray++its2.toArray=(its++its2).toArray:=by simp
 rw [ea]
 exact ⟨.ref _,_,I.lnew (t':=s.toks) (r.append r2) (by rw [List.length_append]; omega),rfl,q _ I.fresh⟩
def rRep:R2:=fun x y H Q=>∃ l k xs,x = .ref l∧y = .int k∧H l=some (.lst xs)∧-(2 ^ 63)≤k∧k < 2 ^ 63∧xs.length * k.toNat≤sizeLine ∧
 ∀ p,H p=none→Q (.ref p) (upd H p (.lst (List.replicate k.toNat xs).flatten))
theorem len_rep {α:Type} (xs:List α) (k:Nat):(List.replicate k xs).flatten.length=k * xs.length:=by
 induction k with
 | zero=>simp
 | succ k ih=>rw [List.replicate_succ,List.flatten_cons,List.length_append,ih,Nat.succ_mul,Nat.add_comm]
theorem op_rep:OpR X (binaryOp .Mult) rRep:=by
  intro pins s σ H x y v u Q I rx ry h
  obtain ⟨l,k,xs,rfl,rfl,hH,h1,h2,hz,q⟩:=h
  cases rx
  obtain ⟨t,rfl⟩:=ry
  obtain ⟨z,its,n,r,hl,e⟩:=I.lstM hH
  have hlen:its.toArray.size * k.toNat≤sizeLine:=by rw [List.size_toArray,←hl]; exact hz
  have hcap:¬ its.toArray.size * k.toNat > (2 ^ 63 - 1) / 8:=by
    have:(sizeLine:Nat)≤(2 ^ 63 - 1) / 8:=by decide
    omega
  have hfit:¬ (!Builtin.List.listFitsIndex k)=true:=by
    rw [fitsIndex_both h1 h2]
    exact Bool.false_ne_true
  have hlong:¬ Builtin.List.listTooLong (its.toArray.size * k.toNat)=true:=by
    rw [zEg hlen]
    exact Bool.false_ne_true
  have hnew:List.foldl (fun x1 x2=>x1++x2) #[] (List.replicate (if its.toArray.isEmpty=true then 0 else k.toNat) its.toArray)=(List.replicate k.toNat its).flatten.toArray:=by
    have f0:∀ m:Nat,List.foldl (fun x1 x2=>x1++x2) #[] (List.replicate m its.toArray)=(List.replicate m its).flatten.toArray:=fun m=>by
      have:=zFJ its m []
      rw [List.nil_append] at this
      exact this
    rw [f0]
    cases its with
    | nil=>simp
    | cons a r'=>rw [if_neg (by simp)]
  refine wpAny_binaryOp_repeat_ref (T:="list") (U:="int") (by decide) ⟨_,e,rfl⟩ (fun s'=>typeIs_int s' k t) noFill_list_mul F.fills_int_mul F.slot_int_rmul repeat_list F.slot_int_index.lookup
    (call_meets F.slot_int_rmul (typeIs_int s k t) F.entry_int_rmul (F.args_int_rmul_2 _ _) (int___rmul___int_list k t l its.toArray n)
      ⟨e,rfl,⟨_,e,rfl⟩,call_meets F.slot_list_mul ⟨_,e,rfl⟩ F.entry_list_mul (F.args_list_mul_2 _ _) (AutoListH.list___mul___list_int_3 l its.toArray n k t hfit hcap hlong) ⟨e,?_⟩⟩)
  rw [hnew]
  exact ⟨.ref _,_,I.lnew (t':=s.toks) (r.rep k.toNat) (by rw [len_rep,Nat.mul_comm]; exact hz),rfl,q _ I.fresh⟩
end
end L2
namespace L2
open PySem PySem.Spec PyProof.Rows
theorem Vals.bls:∀ {bs:List Bool}{us:List Value},Vals (bs.map V.bl) us→us=bs.map Value.bool
 | [],us,h=>by
  rw [List.map_nil] at h
  cases h
  rfl
 | b::bs,us,h=>by
  rw [List.map_cons] at h
  cases h with
  | cons r t =>
   cases r
   rw [Vals.bls t,List.map_cons]
theorem Vals.ref1 {a:Addr}{us:List Value} (r:Vals [V.ref a] us):us=[Value.ref a]:=by
 cases r with
 | cons r t =>
  cases t
  cases r
  rfl
theorem zGb {prog:Program}{w:World}{A:Around}{E:Value→Shared→Prop}{s:Shared}{l:Addr}{items:Array Value}{Q:Value→Shared→Prop} (hl:s.heap.IsList l items)
    (h:∀ s₂:Shared,s₂={ s with heap:=s.heap.push { cls:=.type "list_iterator",data:=.fields #[.ref l,.int 0 0] } } →
      (s₂.heap.IsListIter s.heap.objs.size l 0∧s₂.heap.IsList l items)→l≠s.heap.objs.size→Q (.ref s.heap.objs.size) s₂):wpAny (model prog w) A (pyIter (.ref l)) Q E s:=by
  have hlt:l < s.heap.objs.size:=by obtain ⟨_,e,_⟩:=hl; exact Heap.lt_size e
  exact wpAny_pyIter_list hl (h _ rfl ⟨⟨_,Heap.get?_push_size _ rfl,rfl,rfl⟩,hl.push _⟩ (Nat.ne_of_lt hlt))
theorem zDQ {prog:Program}{w:World}{A:Around}{bs:List Bool}{its:List Value} (e:its=bs.map Value.bool) :
  TruthOf prog w A (fun i v=>its.toArray[i]? = some v) (fun i=>bs.getD i false):=fun i v s Q E hv hq=>by
 have hv':its[i]? = some v:=by simpa using hv
 rw [e,List.getElem?_map] at hv'
 obtain ⟨b,hb,rfl⟩:=Option.map_eq_some_iff.mp hv'
 have hg:bs.getD i false=b:=by rw [List.getD_eq_getElem?_getD,hb] <;> rfl
 have hq':Q (bs.getD i false) s:=hq
 rw [hg] at hq'
 exact wpAny_truthy_bool hq'
theorem zFV:∀ bs:List Bool,(List.range bs.length).any (fun i=>bs.getD i false)=bs.any id
 | []=>rfl
 | b::bs=>by
  rw [List.length_cons,List.range_succ_eq_map,List.any_cons,List.any_map,List.any_cons,←zFV bs]
  all_goals rfl
theorem zFW:∀ bs:List Bool,(List.range bs.length).all (fun i=>bs.getD i false)=bs.all id
 | []=>rfl
 | b::bs=>by
  rw [List.length_cons,List.range_succ_eq_map,List.all_cons,List.all_map,List.all_cons,←zFW bs]
  all_goals rfl
section
variable {X:Cx}
def rAny (K:Fg):List V→Hp→VK→Prop:=fun vs H Q=>∃ (a:Addr) (bs:List Bool),vs=[V.ref a]∧SqL K H a (bs.map V.bl)∧Q (.bl (bs.any id)) H
def rAll (K:Fg):List V→Hp→VK→Prop:=fun vs H Q=>∃ (a:Addr) (bs:List Bool),vs=[V.ref a]∧SqL K H a (bs.map V.bl)∧Q (.bl (bs.all id)) H
theorem cr_any (hc:X.calm=true):zDs X (.builtin "any") (rAny X.K):=by
 intro pins s σ H vs us Q I r h
 obtain ⟨a,bs,rfl,hs,q⟩:=h
 obtain ⟨its,rv,hl,_⟩:=I.list hs
 rw [Vals.ref1 r]
 have hb:=rv.bls
 refine call_any_walk (zGb hl.isList fun s₂ e2 st hne=>?_)
 subst e2
 refine ⟨_,_,_,_,_,_,_,rfl,Walks.list (A:=X.A.in1) (I.ok.hd hc) _ a hne its.toArray,st,zDQ hb,fun h' tk hk=>?_⟩
 refine ⟨.bl _,H,I.kept fun b o eo=>hk b o (fun hmem=>?_) (Heap.get?_push_of_some _ eo),?_,q⟩
 ·rcases List.mem_cons.mp hmem with e1 | hmem
  ·exact absurd (e1 ▸ Heap.lt_size eo) (Nat.lt_irrefl _)
  ·cases hmem
 ·show Value.bool _=Value.bool _
  rw [←zFV,hb,List.size_toArray,List.length_map]
theorem cr_all (hc:X.calm=true):zDs X (.builtin "all") (rAll X.K):=by
 intro pins s σ H vs us Q I r h
 obtain ⟨a,bs,rfl,hs,q⟩:=h
 obtain ⟨its,rv,hl,_⟩:=I.list hs
 rw [Vals.ref1 r]
 have hb:=rv.bls
 refine call_all_walk (zGb hl.isList fun s₂ e2 st hne=>?_)
 subst e2
 refine ⟨_,_,_,_,_,_,_,rfl,Walks.list (A:=X.A.in1) (I.ok.hd hc) _ a hne its.toArray,st,zDQ hb,fun h' tk hk=>?_⟩
 refine ⟨.bl _,H,I.kept fun b o eo=>hk b o (fun hmem=>?_) (Heap.get?_push_of_some _ eo),?_,q⟩
 ·rcases List.mem_cons.mp hmem with e1 | hmem
  ·exact absurd (e1 ▸ Heap.lt_size eo) (Nat.lt_irrefl _)
  ·cases hmem
 ·show Value.bool _=Value.bool _
  rw [←zFW,hb,List.size_toArray,List.length_map]
end
mutual
inductive Dp (K:Fg) (H:Hp):V→PyData→Prop
 | non:Dp K H .non .none
 | bl (b:Bool):Dp K H (.bl b) (.bool b)
 | int (i:Int):Dp K H (.int i) (.int i)
 | str (x:Str):Dp K H (.str x) (.str x)
 | lst {a:Addr}{xs:List V}{ds:List PyData}:SqL K H a xs→DpAll K H xs ds→Dp K H (.ref a) (.list ds)
 | tup {a:Addr}{xs:List V}{ds:List PyData}:SqT K H a xs→DpAll K H xs ds→Dp K H (.ref a) (.tuple ds)
inductive DpAll (K:Fg) (H:Hp):List V→List PyData→Prop
 | nil:DpAll K H [] []
 | cons {v:V}{vs:List V}{d:PyData}{ds:List PyData}:Dp K H v d→DpAll K H vs ds→DpAll K H (v::vs) (d::ds)
end
section
variable {X:Cx}{pins:List (Addr×Obj)}{σ:St}{H:Hp}{s:Shared}
mutual
theorem Dp.reads (I:Inv X pins σ H s):∀ (d:PyData) (v:V) (u:Value),Dp X.K H v d→RelV v u→∃ as,Reads s.heap u d as
 | .none,_,_,h,r=>by
  cases h
  cases r
  exact ⟨_,Reads.none⟩
 | .bool b,_,_,h,r=>by
  cases h
  cases r
  exact ⟨_,Reads.bool b⟩
 | .int i,_,_,h,r=>by
  cases h
  obtain ⟨t,rfl⟩:=r
  exact ⟨_,Reads.int i t⟩
 | .str x,_,_,h,r=>by
  cases h
  obtain ⟨t,rfl⟩:=r
  exact ⟨_,Reads.str x t⟩
 | .list ds,_,_,h,r=>by
  cases h with
  | lst hs ha =>
   cases r
   obtain ⟨its,rv,⟨o,n,ho,hc,_,hd⟩,_⟩:=I.list hs
   obtain ⟨as,hr⟩:=Dp.readsAll I ds _ its ha rv
   exact ⟨_,Reads.list ho hc hd hr⟩
 | .tuple ds,_,_,h,r=>by
  cases h with
  | tup hs ha =>
   cases r
   obtain ⟨its,rv,⟨o,ho,hc,n,hd⟩,_⟩:=I.tuple hs
   obtain ⟨as,hr⟩:=Dp.readsAll I ds _ its ha rv
   exact ⟨_,Reads.tuple ho hc hd hr⟩
 | .dict _,_,_,h,_=>by cases h
theorem Dp.readsAll (I:Inv X pins σ H s):∀ (ds:List PyData) (vs:List V) (us:List Value),DpAll X.K H vs ds→Vals vs us→∃ as,ReadsAll s.heap us ds as
 | [],_,_,h,r=>by
  cases h
  cases r
  exact ⟨_,ReadsAll.nil⟩
 | d::ds,_,_,h,r=>by
  cases h with
  | cons h1 h2 =>
   cases r with
   | cons r1 r2 =>
    obtain ⟨as,q1⟩:=Dp.reads I d _ _ h1 r1
    obtain ⟨bs,q2⟩:=Dp.readsAll I ds _ _ h2 r2
    exact ⟨_,ReadsAll.cons q1 q2⟩
end
end
section
variable {X:Cx}
def rEqD (K:Fg):R2:=fun x y H Q=>∃ d e,Dp K H x d∧Dp K H y e∧SeqAt.shaped d=true∧SeqAt.shaped e=true∧Q (.bl (PyData.eqv d e)) H
def rNeD (K:Fg):R2:=fun x y H Q=>∃ d e,Dp K H x d∧Dp K H y e∧SeqAt.shaped d=true∧SeqAt.shaped e=true∧Q (.bl (!PyData.eqv d e)) H
theorem op_eqD (hu:X.A.units+64 < cLine):OpR X (compareOp .Eq) (rEqD X.K):=by
 intro pins s σ H x y v u Q I rx ry h
 obtain ⟨d,e,hd,he,sd,se,q⟩:=h
 obtain ⟨as,r1⟩:=Dp.reads I d x v hd rx
 obtain ⟨bs,r2⟩:=Dp.reads I e y u he ry
 exact SeqAt.compareEq_shaped r1 r2 sd se hu ⟨.bl _,H,I,rfl,q⟩
theorem zDb (hu:X.A.units+64 < cLine):OpR X (compareOp .NotEq) (rNeD X.K):=by
 intro pins s σ H x y v u Q I rx ry h
 obtain ⟨d,e,hd,he,sd,se,q⟩:=h
 obtain ⟨as,r1⟩:=Dp.reads I d x v hd rx
 obtain ⟨bs,r2⟩:=Dp.reads I e y u he ry
 exact SeqAt.compareNe_shaped r1 r2 sd se hu ⟨.bl _,H,I,rfl,q⟩
end
end L2
namespace L2
open PySem PySem.Spec PyProof.Rows
abbrev CellAt (h:Heap) (c:Addr) (v:Option Value):Prop:=h.IsCell c v
def relS (scope sc:Scope):Scope :=
 { scope with names:=scope.names.map fun (n,k)=>if (k == .free && sc.kind == .function && sc.names.lookup n == some .cell) then (n,.cell) else (n,k) }
def zAu (cells:List (Str×Addr)):List (Str×NameKind)→List (Str×Addr)→List (Str×Addr)
 | [],acc=>acc
 | (n,k)::r,acc=>if k == .free then zAu cells r ((n,(cells.lookup n).getD 0)::acc) else zAu cells r acc
theorem zDD (env:Env) (f:Str×NameKind→List (Str×Addr)→Sem (ForInStep (List (Str×Addr))))
  (hf:∀ n k c,f (n,k) c=if k == .free then (do let a ←cellOf env n; pure (.yield ((n,a)::c))) else pure (.yield c)) :
  ∀ (names:List (Str×NameKind)) (acc:List (Str×Addr)),(∀ y∈names,y.2 = .free→∃ c,env.cells.lookup y.1=some c)→forIn names acc f=pure (zAu env.cells names acc)
 | [],acc,_=>by rw [List.forIn_nil]; rfl
 | (n,k)::r,acc,h=>by
  rw [List.forIn_cons,hf]
  have ih:=fun acc=>zDD env f hf r acc fun y hy=>h y (List.mem_cons_of_mem _ hy)
  unfold zAu
  by_cases hk:(k == NameKind.free)=true
  ·rw [if_pos hk,if_pos hk]
   obtain ⟨c,hc⟩:=h (n,k) List.mem_cons_self (by simpa using hk)
   have e:cellOf env n=pure c:=by unfold cellOf; rw [hc]
   rw [e]
   have e2:(env.cells.lookup n).getD 0=c:=by rw [hc]; rfl
   rw [e2]
   exact ih _
  ·rw [if_neg hk,if_neg hk]
   exact ih _
theorem zHE {scope:Scope}{env:Env} (h:∀ y∈scope.names,y.2 = .free→∃ c,env.cells.lookup y.1=some c):closureFor scope env=pure (zAu env.cells scope.names []):=by
 simp only [closureFor]
 rw [zDD env _ (fun n k c=>rfl) scope.names [] h]
 rfl
theorem zCu {α:Type}:∀ {l:List (Str×α)}{n:Str}{c:α},(n,c)∈l→∃ c',l.lookup n=some c'
 | (k,v)::r,n,c,h=>by
  rw [List.lookup_cons]
  cases hb:n == k with
  | true=>exact ⟨_,rfl⟩
  | false =>
   rcases List.mem_cons.mp h with e | h
   ·cases e; simp at hb
   ·exact zCu h
theorem zBy {cells:List (Str×Addr)}:∀ {names:List (Str×NameKind)}{acc:List (Str×Addr)}{n:Str}{c:Addr},(n,c)∈zAu cells names acc→(n,c)∈acc∨((n,.free)∈names∧c=(cells.lookup n).getD 0)
 | [],_,_,_,h=>.inl h
 | (m,k)::r,acc,n,c,h=>by
  unfold zAu at h
  split at h
  ·rename_i hk
   have hk:k = .free:=by simpa using hk
   rcases zBy h with h | ⟨h1,h2⟩
   ·rcases List.mem_cons.mp h with e | h
    ·cases e; exact .inr ⟨hk ▸ List.mem_cons_self,rfl⟩
    ·exact .inl h
   ·exact .inr ⟨List.mem_cons_of_mem _ h1,h2⟩
  ·rcases zBy h with h | ⟨h1,h2⟩
   ·exact .inl h
   ·exact .inr ⟨List.mem_cons_of_mem _ h1,h2⟩
theorem zCS {cells:List (Str×Addr)}:∀ {names:List (Str×NameKind)}{acc:List (Str×Addr)}{p:Str×Addr},p∈acc→p∈zAu cells names acc
 | [],_,_,h=>h
 | (m,k)::r,acc,p,h=>by
  unfold zAu
  split
  ·exact zCS (List.mem_cons_of_mem _ h)
  ·exact zCS h
theorem zCR {cells:List (Str×Addr)}:∀ {names:List (Str×NameKind)}{acc:List (Str×Addr)}{n:Str},(n,.free)∈names→(n,(cells.lookup n).getD 0)∈zAu cells names acc
 | (m,k)::r,acc,n,h=>by
  unfold zAu
  rcases List.mem_cons.mp h with e | h
  ·cases e
   exact zCS List.mem_cons_self
  ·split
   ·exact zCR h
   ·exact zCR h
theorem zB8:∀ {names:List (Str×NameKind)}{h:Heap}{acc:List (Str×Addr)}{x:Str}{c:Addr},(x,c)∈cellsFrom h.objs.size names acc →
  (x,c)∈acc∨((x,.cell)∈names∧h.objs.size≤c∧CellAt (pushCells h names) c none)
 | [],_,_,_,_,h=>.inl h
 | (n,k)::r,h,acc,x,c,hm=>by
  unfold cellsFrom at hm
  unfold pushCells
  split at hm
  ·rename_i hk
   rw [if_pos hk]
   have hk:k = .cell:=by simpa using hk
   rw [←Heap.size_push h { cls:=.type "cell",data:=.cell none }] at hm
   rcases zB8 hm with hm | ⟨h1,h2,h3⟩
   ·rcases List.mem_cons.mp hm with e | hm
    ·cases e
     exact .inr ⟨hk ▸ List.mem_cons_self,Nat.le_refl _,_,pushCells_keeps r _ _ _ (Heap.get?_push_size _ rfl),rfl⟩
    ·exact .inl hm
   ·rw [Heap.size_push] at h2
    exact .inr ⟨List.mem_cons_of_mem _ h1,Nat.le_of_succ_le h2,h3⟩
  ·rename_i hk
   rw [if_neg hk]
   rcases zB8 hm with hm | ⟨h1,h2,h3⟩
   ·exact .inl hm
   ·exact .inr ⟨List.mem_cons_of_mem _ h1,h2,h3⟩
theorem zCj:∀ {names:List (Str×NameKind)}{n:Nat}{acc:List (Str×Addr)}{p:Str×Addr},p∈acc→p∈cellsFrom n names acc
 | [],_,_,_,h=>h
 | (m,k)::r,n,acc,p,h=>by
  unfold cellsFrom
  split
  ·exact zCj (List.mem_cons_of_mem _ h)
  ·exact zCj h
theorem zDn:∀ {names:List (Str×NameKind)}{n:Nat}{acc:List (Str×Addr)}{x:Str},(x,.cell)∈names→∃ c,(x,c)∈cellsFrom n names acc
 | (m,k)::r,n,acc,x,h=>by
  unfold cellsFrom
  rcases List.mem_cons.mp h with e | h
  ·cases e
   exact ⟨n,zCj List.mem_cons_self⟩
  ·split
   ·exact zDn h
   ·exact zDn h
theorem zDm:∀ {names:List (Str×NameKind)}{h:Heap}{acc:List (Str×Addr)}{x y:Str}{c:Addr},(∀ p∈acc,p.2 < h.objs.size)→(∀ x y c,(x,c)∈acc→(y,c)∈acc→x=y) →
  (x,c)∈cellsFrom h.objs.size names acc→(y,c)∈cellsFrom h.objs.size names acc→x=y
 | [],_,_,_,_,_,_,hi,h1,h2=>hi _ _ _ h1 h2
 | (n,k)::r,h,acc,x,y,c,hl,hi,h1,h2=>by
  unfold cellsFrom at h1 h2
  split at h1
  ·rename_i hk
   rw [if_pos hk] at h2
   rw [←Heap.size_push h { cls:=.type "cell",data:=.cell none }] at h1 h2
   refine zDm (h:=h.push _) (fun p hp=>?_) (fun x y c a b=>?_) h1 h2
   ·rw [Heap.size_push]
    rcases List.mem_cons.mp hp with rfl | hp
    ·exact Nat.lt_succ_self _
    ·exact Nat.lt_succ_of_lt (hl p hp)
   ·rcases List.mem_cons.mp a with e | a <;> rcases List.mem_cons.mp b with e' | b
    ·cases e; cases e'; rfl
    ·cases e; exact absurd (hl _ b) (Nat.lt_irrefl _)
    ·cases e'; exact absurd (hl _ a) (Nat.lt_irrefl _)
    ·exact hi _ _ _ a b
  ·rename_i hk
   rw [if_neg hk] at h2
   exact zDm hl hi h1 h2
theorem zFl {M:Model}{A:Around}{E:Value→Shared→Prop}{s:Shared}{scope:Scope}{globals:Addr}{closure:List (Str×Addr)}{qual:Str}{func:Option Addr}{code:Value}{around:Env}{builtins:Addr}{Q:Env→Shared→Prop}
    (h:Q (newEnv scope s.heap.objs.size globals (cellsFrom (s.heap.objs.size+1) scope.names closure) qual func code (some around) builtins)
      { s with heap:=pushCells (s.heap.push { cls:=.type "dict",data:=.dict #[] }) scope.names }) :
    wpAny M A (newFunctionEnv scope globals closure [] qual func code (some around) builtins) Q E s:=by
  simp only [newFunctionEnv,Option.isSome_some,if_true]
  refine wpAny_bind (wpAny_alloc ?_)
  refine wpAny_bind (wpAny_layCells _ (fun n k c=>rfl) scope.names closure _ _ ?_)
  rw [show ({ s with heap:=s.heap.push { cls:=.type "dict",data:=.dict #[] } }:Shared).heap.objs.size=s.heap.objs.size+1 from Heap.size_push ..]
  rw [List.forIn_nil]
  exact wpAny_bind (wpAny_pure (wpAny_pure h))
theorem zCO {sc:Scope}:∀ {names:List (Str×NameKind)}{x:Str}{k:NameKind},
  (names.map fun (n,k)=>if (k == NameKind.free && sc.kind == .function && sc.names.lookup n == some .cell) then (n,NameKind.cell) else (n,k)).lookup x=some k →
  ∃ k',names.lookup x=some k'∧(k=k'∨(k' = .free∧k = .cell))
 | [],_,_,h=>by simp at h
 | (n,k₀)::r,x,k,h=>by
  have ih:=@zCO sc r x k
  have h':List.lookup x ((if (k₀ == NameKind.free && sc.kind == .function && sc.names.lookup n == some .cell)=true then (n,NameKind.cell) else (n,k₀))::(r.map _))=some k:=h
  cases hx:x == n with
  | true =>
   simp only [List.lookup_cons,hx]
   by_cases hc:(k₀ == NameKind.free && sc.kind == .function && sc.names.lookup n == some .cell)=true
   ·rw [if_pos hc] at h'
    simp only [List.lookup_cons,hx] at h'
    cases h'
    simp only [Bool.and_eq_true,beq_iff_eq] at hc
    exact ⟨k₀,rfl,.inr ⟨hc.1.1,rfl⟩⟩
   ·rw [if_neg hc] at h'
    simp only [List.lookup_cons,hx] at h'
    cases h'
    exact ⟨_,rfl,.inl rfl⟩
  | false =>
   simp only [List.lookup_cons,hx]
   by_cases hc:(k₀ == NameKind.free && sc.kind == .function && sc.names.lookup n == some .cell)=true
   ·rw [if_pos hc] at h'
    simp only [List.lookup_cons,hx] at h'
    exact ih h'
   ·rw [if_neg hc] at h'
    simp only [List.lookup_cons,hx] at h'
    exact ih h'
structure BlkOk (N:List Str) (sc scope:Scope) (own:List (Str×Nat)):Prop where
 kind:scope.kind = .function
 uniq:∀ y∈scope.names,scope.names.lookup y.1=some y.2
 ix:∀ p∈own,N[p.2]? = some p.1
 free:∀ y∈scope.names,y.2 = .free→sc.names.lookup y.1=some .cell∨sc.names.lookup y.1=some .free
 own:∀ y∈scope.names,y.2 = .local∨y.2 = .cell→y.1∈own.map (·.1)∨y.1∉N
def wipe (σ:St):List Nat→St
 | []=>σ
 | v::vs=>(wipe σ vs).set v none
theorem zCI (σ:St):∀ vs:List Nat,(wipe σ vs).length=σ.length
 | []=>rfl
 | v::vs=>by unfold wipe; rw [List.length_set,zCI σ vs]
theorem zDP {σ:St}{i:Nat}{x:V}:∀ {vs:List Nat},(wipe σ vs)[i]? = some (some x)→σ[i]? = some (some x)∧i∉vs
 | [],h=>⟨h,by simp⟩
 | v::vs,h=>by
  unfold wipe at h
  by_cases hi:v=i
  ·subst hi
   by_cases hv:v < (wipe σ vs).length
   ·rw [List.getElem?_set_self hv] at h; cases h
   ·rw [List.getElem?_eq_none (by simpa using hv)] at h; cases h
  ·rw [List.getElem?_set_ne hi] at h
   obtain ⟨h1,h2⟩:=zDP h
   exact ⟨h1,by simp only [List.mem_cons,not_or]; exact ⟨fun e=>hi e.symm,h2⟩⟩
abbrev Cx.blk (X:Cx) (s:Shared) (H:Hp) (scope:Scope) (cenv:Env) (fp:List Addr):Cx:={ X with s_0:=s,H_0:=H,env:=cenv,outer:=X.stack,ex:=fp,fn:=fun x=>scope.names.lookup x == some .cell,pn:=[],xe:=fun _ _=>False }
section
variable {X:Cx}{pins:List (Addr×Obj)}{σ:St}{H:Hp}{s:Shared}
theorem zFy {scope:Scope}{own:List (Str×Nat)}{fp:List Addr} (I:Inv X pins σ H s) (ok:BlkOk X.N X.env.scope scope own) (hN:X.N.Nodup) (hfp:∀ b∈fp,FpOk X pins H b∧b < s.heap.objs.size) :
  Inv (X.blk s H scope (compEnvC scope (cellsFrom (s.heap.objs.size+1) scope.names (zAu X.env.cells scope.names [])) s.heap.objs.size X.env) fp) [] (wipe σ (own.map (·.2))) H { s with heap:=pushCells (s.heap.push { cls:=.type "dict",data:=.dict #[] }) scope.names }:=by
 have hfree:∀ y∈scope.names,y.2 = .free→∃ c,X.env.cells.lookup y.1=some c:=fun y hy e=>by
  rcases ok.free y hy e with k | k
  ·exact I.ok.has _ (.inl k)
  ·exact I.ok.has _ (.inr k)
 generalize hcenv:compEnvC scope (cellsFrom (s.heap.objs.size+1) scope.names (zAu X.env.cells scope.names [])) s.heap.objs.size X.env=cenv
 have kp:∀ b o,s.heap.get? b=some o→(pushCells (s.heap.push { cls:=.type "dict",data:=.dict #[] }) scope.names).get? b=some o:=fun b o e=>pushCells_keeps _ _ _ _ (Heap.get?_push_of_some _ e)
 have hL:cenv.locals=s.heap.objs.size:=by rw [←hcenv]; rfl
 have hcl:cenv.cells=cellsFrom (s.heap.objs.size+1) scope.names (zAu X.env.cells scope.names []):=by rw [←hcenv]; rfl
 have hsc:cenv.scope=relS scope X.env.scope:=by rw [←hcenv]; rfl
 rw [←Heap.size_push s.heap { cls:=.type "dict",data:=.dict #[] }] at hcl
 have cm:∀ {y c},(y,c)∈zAu X.env.cells scope.names []→X.env.cells.lookup y=some c∧c < s.heap.objs.size:=fun {y c} hm=>by
  rcases zBy hm with hm | ⟨h1,rfl⟩
  ·cases hm
  ·obtain ⟨c,hc⟩:=hfree _ h1 rfl
   rw [hc]
   obtain ⟨w,z⟩:=I.cell _ _ hc
   exact ⟨rfl,z.lt⟩
 have mem:∀ {y c},cenv.cells.lookup y=some c→(X.env.cells.lookup y=some c∧c < s.heap.objs.size)∨(s.heap.objs.size+1≤c∧CellAt (pushCells (s.heap.push { cls:=.type "dict",data:=.dict #[] }) scope.names) c none):=fun {y c} e=>by
  rw [hcl] at e
  rcases zB8 (PySem.mem_of_lookup e) with hm | ⟨_,h2,h3⟩
  ·exact .inl (cm hm)
  ·rw [Heap.size_push] at h2; exact .inr ⟨h2,h3⟩
 have look:∀ {y},scope.names.lookup y=some .free→∃ c,cenv.cells.lookup y=some c∧X.env.cells.lookup y=some c:=fun {y} hl=>by
  have hy:(y,NameKind.free)∈scope.names:=PySem.mem_of_lookup hl
  obtain ⟨c',e'⟩:=zCu (zCj (names:=scope.names) (n:=(s.heap.push { cls:=.type "dict",data:=.dict #[] }).objs.size) (zCR (cells:=X.env.cells) (acc:=[]) hy))
  rw [←hcl] at e'
  refine ⟨c',e',?_⟩
  rw [hcl] at e'
  rcases zB8 (PySem.mem_of_lookup e') with hm | ⟨h1,_,_⟩
  ·exact (cm hm).1
  ·have:=ok.uniq _ h1
   rw [hl] at this; cases this
 have okB:(X.blk s H scope cenv fp).Ok:=by
  refine ⟨I.ok.mod,by show cenv.scope.kind=_; rw [hsc]; exact ok.kind,by show cenv.globals=_; rw [←hcenv]; exact I.ok.glob,by show cenv.builtins=_; rw [←hcenv]; exact I.ok.blt,by show s.heap.objs.size≤cenv.locals; rw [hL]; exact Nat.le_refl _,
   fun y z c e1 e2=>?_,fun y hy=>?_,fun y c z e=>?_,I.ok.hd,I.ok.frames,.inl rfl,fun b hb=>⟨?_,fun y c e z=>?_⟩,I.bs,Nat.le_trans I.ok.bsz I.sz,fun b o e hb=>?_,fun b hb z=>?_,I.stack,I.stkFree⟩
  ·have e1:cenv.cells.lookup y=some c:=e1
   have e2:cenv.cells.lookup z=some c:=e2
   rw [hcl] at e1 e2
   refine zDm (fun p hp=>?_) (fun y z c a b=>I.ok.inj y z c (cm a).1 (cm b).1) (PySem.mem_of_lookup e1) (PySem.mem_of_lookup e2)
   rw [Heap.size_push]
   exact Nat.lt_succ_of_lt (cm (y:=p.1) (c:=p.2) hp).2
  ·show ∃ c,cenv.cells.lookup y=some c
   have key:∀ k,cenv.kindOf y=some k→(k = .cell∨k = .free)→∃ c,cenv.cells.lookup y=some c:=fun k hk hk'=>by
    unfold Env.kindOf at hk
    rw [hsc] at hk
    obtain ⟨k',e,r⟩:=zCO hk
    have:k' = .cell∨k' = .free:=by
     rcases r with rfl | ⟨rfl,_⟩
     ·exact hk'
     ·exact .inr rfl
    rcases this with rfl | rfl
    ·obtain ⟨c,hm⟩:=zDn (n:=(s.heap.push { cls:=.type "dict",data:=.dict #[] }).objs.size) (acc:=zAu X.env.cells scope.names []) (PySem.mem_of_lookup e)
     obtain ⟨c',e'⟩:=zCu hm
     exact ⟨c',by rw [hcl]; exact e'⟩
    ·obtain ⟨c,h1,_⟩:=look e
     exact ⟨c,h1⟩
   rcases hy with hy | hy
   ·exact key _ hy (.inl rfl)
   ·exact key _ hy (.inr rfl)
  ·have z:(scope.names.lookup y == some NameKind.cell)=true:=z
   have z:scope.names.lookup y=some .cell:=by simpa using z
   have e:cenv.cells.lookup y=some c:=e
   rw [hcl] at e
   rcases zB8 (PySem.mem_of_lookup e) with hm | ⟨_,h2,_⟩
   ·rcases zBy hm with hm | ⟨h1,_⟩
    ·cases hm
    ·have q:=ok.uniq _ h1
     rw [z] at q; cases q
   ·rw [Heap.size_push] at h2
    exact Nat.le_of_succ_le h2
  ·show b≠cenv.locals
   rw [hL]; exact Nat.ne_of_lt (hfp b hb).2
  ·have e:cenv.cells.lookup y=some c:=e
   rcases mem e with ⟨h1,_⟩ | ⟨h1,_⟩
   ·exact (hfp b hb).1.2.2.2.2.1 y c h1 z
   ·have h2:s.heap.objs.size+1≤b:=by rw [←z]; exact h1
    exact absurd (Nat.lt_of_lt_of_le (hfp b hb).2 (Nat.le_of_succ_le h2)) (Nat.lt_irrefl _)
  ·rcases (hfp b hb).1.2.2.2.1 with z | z
   ·exact I.ok.noex b o e z
   ·exact absurd (Nat.lt_of_lt_of_le (Heap.lt_size e) (Nat.le_trans I.ok.bsz z)) (Nat.lt_irrefl _)
  ·rcases List.mem_cons.mp (I.stkSub b z) with z | z
   ·exact (hfp b hb).1.2.1 z
   ·exact (hfp b hb).1.2.2.1 z
 refine ⟨okB,rfl,I.bare,Un.kept kp,⟨fun _=>none,?_,fun i y av e1 e2 e3=>?_⟩,fun y c e=>?_,?_,fun y c e=>?_,fun p hp=>?_,I.hok.kept kp,by rw [zCI]; exact I.len⟩
 ·show Heap.Ns _ cenv.locals _
  rw [hL]
  exact Heap.Ns.keeps (Heap.Ns.new ..) fun b o e=>pushCells_keeps _ _ _ _ e
 ·obtain ⟨e2,hne⟩:=zDP e2
  have hfr:scope.names.lookup y=some .free∧(cenv.kindOf y=some .cell∨cenv.kindOf y=some .free):=by
   have key:∀ k,cenv.scope.names.lookup y=some k→k = .local∨k = .cell∨k = .free→scope.names.lookup y=some .free∧(cenv.kindOf y=some .cell∨cenv.kindOf y=some .free):=fun k hk hk'=>by
    have hk0:=hk
    rw [hsc] at hk
    obtain ⟨k',e,r⟩:=zCO hk
    have no:¬ (k' = .local∨k' = .cell):=fun hh=>by
     rcases ok.own _ (PySem.mem_of_lookup e) hh with e' | e'
     ·obtain ⟨p,hp,hpy⟩:=List.mem_map.mp e'
      have e3:=ok.ix p hp
      have:p.1=y:=hpy
      rw [this] at e3
      exact hne (List.mem_map.mpr ⟨p,hp,zEh hN e3 e1⟩)
     ·exact e' (List.mem_of_getElem? e1)
    rcases r with rfl | ⟨rfl,rfl⟩
    ·rcases hk' with rfl | rfl | rfl
     ·exact absurd (.inl rfl) no
     ·exact absurd (.inr rfl) no
     ·exact ⟨e,.inr hk0⟩
    ·exact ⟨e,.inl hk0⟩
   have e3:Vis cenv.scope y:=e3
   rcases e3 with e3 | e3 | e3
   ·exact key _ e3 (.inl rfl)
   ·exact key _ e3 (.inr (.inl rfl))
   ·exact key _ e3 (.inr (.inr rfl))
  obtain ⟨m,hn,hl⟩:=I.loc
  have hvis:Vis X.env.scope y:=(ok.free _ (PySem.mem_of_lookup hfr.1) rfl).elim (fun k=>.inr (.inl k)) (fun k=>.inr (.inr k))
  obtain ⟨w,r,q⟩:=hl i y av e1 e2 hvis
  refine ⟨w,r,.inr ⟨hfr.2,?_⟩⟩
  obtain ⟨c,h1,h2⟩:=look hfr.1
  rcases q with ⟨k,_⟩ | ⟨_,c',e',z⟩
  ·have k:X.env.scope.names.lookup y=some .local:=k
   rcases ok.free _ (PySem.mem_of_lookup hfr.1) rfl with k' | k' <;> rw [show X.env.scope.names.lookup y=_ from k'] at k <;> cases k
  ·rw [h2] at e'; cases e'
   exact ⟨c,h1,z.keeps kp⟩
 ·have e:cenv.cells.lookup y=some c:=e
  rcases mem e with ⟨h1,_⟩ | ⟨_,z⟩
  ·obtain ⟨w,z⟩:=I.cell y c h1
   exact ⟨w,z.keeps kp⟩
  ·exact ⟨_,z⟩
 ·show H cenv.locals=none
  rw [hL]; exact I.hok.fresh (Nat.le_refl _)
 ·have e:cenv.cells.lookup y=some c:=e
  rcases mem e with ⟨h1,_⟩ | ⟨h1,_⟩
  ·exact I.freeC y c h1
  ·exact I.hok.fresh (Nat.le_of_succ_le h1)
 ·exact absurd (show p∈([]:List (Addr×Obj))++[] from hp) (by simp)
theorem app_ok {E:Value→Shared→Prop}{D:Addr}{xs:List V}{y:V}{v:Value}{Q:Value→Shared→Prop} (I:Inv X pins σ H s) (hD:H D=some (.lst xs)) (hz:xs.length < sizeLine) (r:RelV y v)
  (h:∀ s',Inv X pins σ (upd H D (.lst (xs++[y]))) s'→Q .none s'):wpAny (model X.prog X.w) X.A (call (.builtin "list.append") [.ref D,v]) Q E s:=by
 obtain ⟨hz',its,n,ri,e⟩:=I.hok D _ hD
 have hl:=ri.length
 refine append_at (hsz:=by rw [List.size_toArray]; omega) e fun h' sb ho'=>?_
 refine h { s with heap:=h' } (I.write (t':=s.toks) (by rw [hD]; trivial) (.inl rfl) (fun b u hb q=>(sb.2 b hb).trans q) ⟨_,ho'⟩ ⟨by rw [List.length_append]; exact hz,its++[v],n+1,ri.append (.cons r .nil),?_⟩)
 rw [ho']
 simp
def PTs (X:Cx) (ifs:List Expr) (t:TT):Prop :=
 ∀ (pins:List (Addr×Obj)) (s:Shared) (σ:St) (H:Hp) (Q:Bool→Hp→Prop),Inv X pins σ H s→t σ H Q →
  wpAny (model X.prog X.w) X.A (forIn ifs true fun c r=>if r=true then do let ok ←isTrue c X.env (eval c X.env); pure (ForInStep.yield ok) else pure (ForInStep.yield r)) (TP X pins σ Q) X.xe s
def tYes:TT:=fun _ H Q=>Q true H
theorem zBE:PTs X [] tYes:=fun _ _ _ H _ I h=>wpAny_tests_nil ⟨H,I,h⟩
theorem zFh {c:Expr}{t:TT} (h:PT X c t):PTs X [c] t:=fun pins s σ H Q I hw=>wpAny_tests_one (h pins s σ H Q I hw)
end
theorem thnF {α:Type}{t:Sem α}{Q Q':α→Shared→Prop}{M:Model}{A:Around}{E:Value→Shared→Prop}{s:Shared} (h:wpAny M A t Q (fun _ _=>False) s) (hQ:∀ a s,Q a s→Q' a s):wpAny M A t Q' E s:=wpAny_mono h hQ fun _ _ z=>False.elim z
theorem zFP {prog:Program}{w:World}{A:Around}{R:Result→Shared→Prop}{s:Shared}{elt target iter:Expr}{ifs:List Expr}{scope:Scope}{pos:Pos}{it acc:Value}{env:Env} (I:Nat→Shared→Prop)
    (turn:∀ n s,I n s→wpAny (model prog w) A (pyNext it) (fun r s₁=>match r with
      | none=>R (.ok .next) s₁
      | some v=>wpAny (model prog w) A (letOwnedTupleGo target it v) (fun _ s₁'=>wpAny (model prog w) A (assign target env v) (fun _ s₂ =>
          wpAny (model prog w) A (forIn ifs true fun c r=>if r=true then do let ok ←isTrue c env (eval c env); pure (ForInStep.yield ok) else pure (ForInStep.yield r)) (fun ok s₃ =>
            if ok=true then wpAny (model prog w) A (eval elt env) (fun x s₄ =>
              wpAny (model prog w) A (call (.builtin "list.append") [acc,x]) (fun _ s₅=>∃ m,m < n∧I m s₅) (notedBy (model prog w) A env fun e s'=>R (.error e) s') s₄) (notedBy (model prog w) A env fun e s'=>R (.error e) s') s₃
            else ∃ m,m < n∧I m s₃) (notedBy (model prog w) A env fun e s'=>R (.error e) s') s₂) (notedBy (model prog w) A env fun e s'=>R (.error e) s') s₁') (notedBy (model prog w) A env fun e s'=>R (.error e) s') s₁) (notedBy (model prog w) A env fun e s'=>R (.error e) s') s)
    (n:Nat) (h:I n s) :
    codeAny (model prog w) A (.compLoop (.ListComp elt [⟨target,iter,ifs,0⟩] scope pos) 0 it acc env) R s:=by
  refine codeAny_loop rfl I (fun n s hI=>?_) n h
  show wpAny _ A ((compTurn (.ListComp elt [⟨target,iter,ifs,0⟩] scope pos) 0 it acc env).onRaise (fun x=>do noteFrame x env; theTreesLotGoes x)) _ _ s
  refine wpAny_noted ?_
  rw [compTurn_list]
  refine wpAny_bind (wpAny_standAt (wpAny_bind (wpAny_mono (turn n s hI) (fun r s₁ h₁=>?_) fun _ _ h'=>h')))
  cases r with
  | none=>exact wpAny_pure h₁
  | some v =>
    refine wpAny_bind (wpAny_mono h₁ (fun _ s₁' h₁'=>?_) fun _ _ h'=>h')
    refine wpAny_bind (wpAny_mono h₁' (fun _ s₂ h₂=>wpAny_bind (wpAny_mono h₂ (fun ok s₃ h₃=>?_) fun _ _ h'=>h')) fun _ _ h'=>h')
    cases ok with
    | false=>exact wpAny_pure ⟨rfl,h₃⟩
    | true =>
      exact wpAny_bind (wpAny_bind (wpAny_mono h₃ (fun x s₄ h₄=>wpAny_bind (wpAny_mono h₄ (fun _ s₅ h₅=>wpAny_pure (wpAny_pure ⟨rfl,h₅⟩)) fun _ _ h'=>h')) fun _ _ h'=>h'))
section
variable {X:Cx}
def tLc (wi:TI) (g:TG) (tt:TT) (te:TE) (vs:List Nat):TE:=fun σ H Q=>wi σ H fun J H1=>∀ D,H1 D=none→∃ W:Nat→Nat→Hp→Prop,(∃ m,W 0 m (upd H1 D (.lst [])))∧∀ i m H,W i m H →
  (J.stop i H∧Q (.ref D) H)∨(J.go i H∧∃ Nx:Hp→Prop,(∀ H',Nx H'→∃ m',m' < m∧W (i+1) m' H')∧∀ x H',J.yld i H x H'→g x (wipe σ vs) H' fun σ2 H2=>wipe σ2 vs=wipe σ vs∧tt σ2 H2 fun b H3 =>
    if b=true then te σ2 H3 fun y H4=>∃ acc,H4 D=some (.lst acc)∧acc.length < sizeLine∧Nx (upd H4 D (.lst (acc++[y]))) else Nx H3)
theorem lc_core {pins:List (Addr×Obj)}{s:Shared}{σ:St}{H:Hp}{Q:VK}{elt tg iter:Expr}{ifs:List Expr}{scope:Scope}{own:List (Str×Nat)}{pos pos':Pos}{wi:TI}{g:TG}{tt:TT}{te:TE}{use:Option (Value→Sem Unit)}{Qf:Value→Shared→Prop}
  (hc:X.calm=true) (hN:X.N.Nodup) (I:Inv X pins σ H s) (hi:PI X tg iter wi) (ok:BlkOk X.N X.env.scope scope own)
  (hg:∀ (s:Shared) (H:Hp) (C:Addr) (cl:List (Str×Addr)) (fp:List Addr),PG (X.blk s H scope (compEnvC scope cl C X.env) fp) tg g) (ht:∀ (s:Shared) (H:Hp) (C:Addr) (cl:List (Str×Addr)) (fp:List Addr),PTs (X.blk s H scope (compEnvC scope cl C X.env) fp) ifs tt)
  (he:∀ (s:Shared) (H:Hp) (C:Addr) (cl:List (Str×Addr)) (fp:List Addr),PE (X.blk s H scope (compEnvC scope cl C X.env) fp) elt te) (hs:∀ x,foldedSetIterable iter X.env x=pure x)
  (h:tLc wi g tt te (own.map (·.2)) σ H Q)
  (hRR:∀ D C s' m H',Inv X pins σ H' s'→Q (.ref D) H'→s'.heap.Ns C m→FpOk X pins H' C→compPost (model X.prog X.w) X.A X.xe use Qf (.ref D) C (.ok .next) s') :
  wpAny (model X.prog X.w) X.A (comprehension (.ListComp elt [⟨tg,iter,ifs,0⟩] scope pos) scope X.env pos' (newList []) false (eval iter X.env) use) Qf X.xe s:=by
 have hfree:∀ y∈scope.names,y.2 = .free→∃ c,X.env.cells.lookup y.1=some c:=fun y hy e=>by
  rcases ok.free y hy e with k | k
  ·exact I.ok.has _ (.inl k)
  ·exact I.ok.has _ (.inr k)
 refine wpAny_comprehension_free (use:=use) rfl hs (zHE hfree) ok.kind (fun y hy e=>by rw [ok.uniq y hy,e])
  (thn (hi pins s σ H _ I h) fun xv s1 hx=>thn hx fun itv s2 h2=>?_)
 obtain ⟨it,fp,tn,J,H2,e,I2,T,st2,f2,q⟩:=h2
 subst e
 refine wpAny_newObj_type (zFl ?_) (by show 0≤sizeLine; decide)
 generalize hD:s2.heap.objs.size=D
 have hDn:H2 D=none:=I2.hok.fresh (Nat.le_of_eq hD)
 obtain ⟨W,⟨m0,w0⟩,turn⟩:=q D hDn
 generalize hs3:({ s2 with heap:=s2.heap.push { cls:=.type "list",data:=.seq ([]:List Value).toArray } }:Shared)=s3
 have I3:Inv X pins σ (upd H2 D (.lst [])) s3:=by
  rw [←hs3]
  refine I2.laid (t':=s2.toks) (fun b o e=>Heap.get?_push_of_some _ e) (Nat.le_of_eq hD) ⟨Nat.zero_le _,[],0,.nil,?_⟩
  rw [←hD]
  exact Heap.get?_push_size _ rfl
 have h3:s3.heap=s2.heap.push { cls:=.type "list",data:=.seq ([]:List Value).toArray }:=by rw [←hs3]
 have sz:∀ b∈fp,b < s2.heap.objs.size:=fun b hb=>by
  obtain ⟨o,e,_⟩:=T.obj _ _ st2 b hb
  exact Heap.lt_size e
 have f3:∀ b∈fp,FpOk X pins (upd H2 D (.lst [])) b∧b < s3.heap.objs.size:=fun b hb=>by
  have hlt:=sz b hb
  refine ⟨⟨?_,(f2 b hb).2⟩,by rw [h3,Heap.size_push]; exact Nat.lt_succ_of_lt hlt⟩
  rw [zAG (by rw [←hD]; exact Nat.ne_of_lt hlt)]
  exact (f2 b hb).1
 have st3:tn 0 s3.heap:=T.keep _ _ _ st2 fun b _ o e=>by rw [h3]; exact Heap.get?_push_of_some _ e
 have I4:=zFy I3 ok hN f3
 have pg:=hg s3 (upd H2 D (.lst [])) s3.heap.objs.size (cellsFrom (s3.heap.objs.size+1) scope.names (zAu X.env.cells scope.names [])) fp
 have pt:=ht s3 (upd H2 D (.lst [])) s3.heap.objs.size (cellsFrom (s3.heap.objs.size+1) scope.names (zAu X.env.cells scope.names [])) fp
 have pe:=he s3 (upd H2 D (.lst [])) s3.heap.objs.size (cellsFrom (s3.heap.objs.size+1) scope.names (zAu X.env.cells scope.names [])) fp
 show codeAny _ _ (.compStart (.ListComp elt [⟨tg,iter,ifs,0⟩] scope pos) 0 (.ref it) (.ref D) (compEnvC scope (cellsFrom (s3.heap.objs.size+1) scope.names (zAu X.env.cells scope.names [])) s3.heap.objs.size X.env)) (compPost (model X.prog X.w) X.A X.xe use Qf (.ref D) s3.heap.objs.size) { s3 with heap:=pushCells (s3.heap.push { cls:=.type "dict",data:=.dict #[] }) scope.names }
 have nfp:∀ b∈fp,(upd H2 D (.lst [])) b=none:=fun b hb=>(f3 b hb).1.1
 generalize hce:compEnvC scope (cellsFrom (s3.heap.objs.size+1) scope.names (zAu X.env.cells scope.names [])) s3.heap.objs.size X.env=ce at I4 pg pt pe ⊢
 have cL:ce.locals=s3.heap.objs.size:=by subst hce; rfl
 generalize hH3:upd H2 D (.lst [])=H3 at I3 I4 pg pt pe w0 nfp f3
 generalize hs4:({ s3 with heap:=pushCells (s3.heap.push { cls:=.type "dict",data:=.dict #[] }) scope.names }:Shared)=s4 at I4 ⊢
 have st4:tn 0 s4.heap:=T.keep _ _ _ st3 fun b _ o e=>by rw [←hs4]; exact pushCells_keeps _ _ _ _ (Heap.get?_push_of_some _ e)
 have stat:∀ {σ':St}{H':Hp}{s':Shared},Inv (X.blk s3 H3 scope ce fp) [] σ' H' s'→(∀ b∈fp,H' b=none)→∀ b∈fp,FpOk (X.blk s3 H3 scope ce fp) [] H' b:=fun {σ' H' s'} I' hn b hb =>
  ⟨hn b hb,(I'.ok.exf b hb).1,I'.ok.exfs b hb,.inl hb,fun x c e=>(I'.ok.exf b hb).2 x c e,fun p hp=>absurd (show p∈([]:List (Addr×Obj))++[] from hp) (by simp)⟩
 have loop:codeAny (model X.prog X.w) X.A (.compLoop (.ListComp elt [⟨tg,iter,ifs,0⟩] scope pos) 0 (.ref it) (.ref D) ce) (compPost (model X.prog X.w) X.A X.xe use Qf (.ref D) s3.heap.objs.size) s4:=by
  refine zFP (fun n s'=>∃ i H',Inv (X.blk s3 H3 scope ce fp) [] (wipe σ (own.map (·.2))) H' s'∧tn i s'.heap∧(∀ b∈fp,H' b=none)∧W i n H') ?_ m0 ⟨0,H3,I4,st4,nfp,w0⟩
  rintro n s5 ⟨i,H5,I5,st5,n5,w5⟩
  rcases turn i n H5 w5 with ⟨stop,qq⟩ | ⟨go,Nx,hNx,step⟩
  ·have td:=T.done (X.blk s3 H3 scope ce fp) rfl rfl rfl hc i [] s5 _ H5 (fun _ _=>False) I5 (stat I5 n5) st5 stop
   refine thnF td fun r s6 ⟨hr,I6⟩=>?_
   subst hr
   have I7:Inv X pins σ H5 s6:=I3.call' (ch:=fp) I6.os I6.base I6.hok I6.bare fun b hb=>⟨(f3 b hb).1.2.2.2.1,(f3 b hb).1.2.1,(f3 b hb).1.2.2.2.2.1,(f3 b hb).1.2.2.2.2.2⟩
   have nC:H5 s3.heap.objs.size=none:=by
    have z:H5 ce.locals=none:=I6.free
    rw [cL] at z
    exact z
   obtain ⟨m,hn,_⟩:=I6.loc
   have hn:s6.heap.Ns ce.locals m:=hn
   rw [cL] at hn
   exact hRR D s3.heap.objs.size s6 m H5 I7 qq hn (I3.fpOk (Nat.le_refl _) nC)
  ·have ti:=T.item (X.blk s3 H3 scope ce fp) rfl rfl rfl hc i [] s5 _ H5 (fun _ _=>False) I5 (stat I5 n5) st5 go
   refine thnF ti fun r s6 ⟨u,hr,h6⟩=>?_
   subst hr
   refine thnF h6 fun _ s7 ⟨x,H7,I7,r7,y7,st7,n7⟩=>?_
   have I7':=I7.pinned (stat I7 n7) (T.obj _ _ st7)
   refine thnF (pg _ s7 _ H7 x u _ I7' r7 (step x H7 y7)) fun _ s8 ⟨σ8,H8,I8,hw8,q8⟩=>?_
   refine thnF (pt _ s8 σ8 H8 _ I8 q8) fun b s9 ⟨H9,I9,q9⟩=>?_
   have fin:∀ {s':Shared}{H':Hp},Inv (X.blk s3 H3 scope ce fp) ([]++zE7 fp s7.heap) σ8 H' s'→Nx H'→∃ m,m < n∧∃ i H',Inv (X.blk s3 H3 scope ce fp) [] (wipe σ (own.map (·.2))) H' s'∧tn i s'.heap∧(∀ b∈fp,H' b=none)∧W i m H':=fun {s' H'} I' nx=>by
    obtain ⟨m',hm,w'⟩:=hNx H' nx
    have pin':∀ b∈fp,∀ o,s7.heap.get? b=some o→s'.heap.get? b=some o∧H' b=none:=fun b hb o e =>
     let z:=I'.pin (b,o) (List.mem_append_right _ (List.mem_append_right _ (zCt hb e)))
     ⟨z.1,z.2.1⟩
    have hl:(wipe σ (own.map (·.2))).length=σ8.length:=by rw [←hw8,zCI]
    refine ⟨m',hm,i+1,H',(I'.unpinned (pins:=[])).weak hl (fun j v e=>?_),T.keep _ _ _ st7 fun b hb o e=>(pin' b hb o e).1,fun b hb=>?_,w'⟩
    ·rw [←hw8] at e
     exact (zDP e).1
    ·obtain ⟨o,e,_⟩:=T.obj _ _ st7 b hb
     exact (pin' b hb o e).2
   cases b with
   | false =>
    simp only [Bool.false_eq_true,if_false] at q9 ⊢
    exact fin I9 q9
   | true =>
    simp only [if_true] at q9 ⊢
    refine thnF (pe _ s9 σ8 H9 _ I9 q9) fun z s10 ⟨yv,H10,I10,r10,acc,hD10,hz10,nx⟩=>?_
    exact app_ok (X:=X.blk s3 H3 scope ce fp) I10 hD10 hz10 r10 fun s11 I11=>fin I11 nx
 exact codeAny_compStart_list loop (T.self X.A 0 _ _ _ st4 loop)
theorem zCo {elt tg iter:Expr}{ifs:List Expr}{scope:Scope}{own:List (Str×Nat)}{pos:Pos}{wi:TI}{g:TG}{tt:TT}{te:TE} (hc:X.calm=true) (hN:X.N.Nodup) (hi:PI X tg iter wi) (ok:BlkOk X.N X.env.scope scope own)
  (hg:∀ (s:Shared) (H:Hp) (C:Addr) (cl:List (Str×Addr)) (fp:List Addr),PG (X.blk s H scope (compEnvC scope cl C X.env) fp) tg g) (ht:∀ (s:Shared) (H:Hp) (C:Addr) (cl:List (Str×Addr)) (fp:List Addr),PTs (X.blk s H scope (compEnvC scope cl C X.env) fp) ifs tt)
  (he:∀ (s:Shared) (H:Hp) (C:Addr) (cl:List (Str×Addr)) (fp:List Addr),PE (X.blk s H scope (compEnvC scope cl C X.env) fp) elt te) (hs:∀ x,foldedSetIterable iter X.env x=pure x:=by intro _; rfl) :
  PE X (.ListComp elt [⟨tg,iter,ifs,0⟩] scope pos) (tLc wi g tt te (own.map (·.2))):=by
 intro pins s σ H Q I h
 rw [eval_ListComp]
 refine lc_core hc hN I hi ok hg ht he hs h fun D C s' m H' I' q hn f=>⟨m,hn,fun h'' sb=>?_⟩
 obtain ⟨f0,f1,f2,f3,f4,f5⟩:=f
 exact ⟨.ref D,H',I'.turned (t':=s'.toks) (fun b o hb e=>(sb.2 b hb).trans e) f0 f1 f3 f4 f5,rfl,q⟩
theorem zCb {i:Nat}{y:Str}{py:Pos}{elt tg iter:Expr}{ifs:List Expr}{scope:Scope}{own:List (Str×Nat)}{pos spos:Pos}{wi:TI}{g:TG}{tt:TT}{te:TE} (hc:X.calm=true) (hN:X.N.Nodup) (hy:X.N[i]? = some y) (hyl:X.env.scope.names.lookup y=some .local)
  (hsw:swapsWith (.ListComp elt [⟨tg,iter,ifs,0⟩] scope pos) (some (.Name y py)) spos.line X.env=pure true) (hi:PI X tg iter wi) (ok:BlkOk X.N X.env.scope scope own)
  (hg:∀ (s:Shared) (H:Hp) (C:Addr) (cl:List (Str×Addr)) (fp:List Addr),PG (X.blk s H scope (compEnvC scope cl C X.env) fp) tg g) (ht:∀ (s:Shared) (H:Hp) (C:Addr) (cl:List (Str×Addr)) (fp:List Addr),PTs (X.blk s H scope (compEnvC scope cl C X.env) fp) ifs tt)
  (he:∀ (s:Shared) (H:Hp) (C:Addr) (cl:List (Str×Addr)) (fp:List Addr),PE (X.blk s H scope (compEnvC scope cl C X.env) fp) elt te) (hs:∀ x,foldedSetIterable iter X.env x=pure x:=by intro _; rfl) :
  PS X (.Assign [.Name y py] (.ListComp elt [⟨tg,iter,ifs,0⟩] scope pos) spos) (tAsg (tLc wi g tt te (own.map (·.2))) (zDu i)):=by
 intro pins s σ H D I h
 rw [exec_Assign_Name_used _ _ _ _ hsw]
 refine wpAny_bind (wpAny_standAt (wpAny_bind ?_))
 show wpAny _ X.A (do let _ ←comprehension (.ListComp elt [⟨tg,iter,ifs,0⟩] scope pos) scope X.env (firstIterPos [⟨tg,iter,ifs,0⟩] pos) (newList []) false (eval iter X.env) (some (assign (.Name y py) X.env))) _ _ s
 have h:tLc wi g tt te (own.map (·.2)) σ H (fun x H1=>zDu i x σ H1 D.nx):=h
 refine wpAny_bind (thn (lc_core (Qf:=fun _ s'=>SP X pins D .next s') hc hN I hi ok hg ht he hs h fun L C s' m H' I' q hn f=>?_) fun _ s' hq=>wpAny_pure (wpAny_pure hq))
 show wpAny _ _ (assign (.Name y py) X.env (.ref L)) _ _ _
 refine wpAny_assign_Name (zEz (v:=V.ref L) I' hN hy (.inl hyl) rfl (fun s2 I2 ⟨a,sb,ha⟩=>?_) (.inr hyl))
 obtain ⟨f0,f1,f2,f3,f4,f5⟩:=f
 have haC:C≠a:=by
  rcases ha with z | z
  ·rw [z]; exact f1
  ·exact fun e=>f4 y a z e.symm
 refine ⟨m,hn.sameBut sb haC,fun h3 sb3=>?_⟩
 exact ⟨_,H',I2.turned (t':=s2.toks) (fun b o hb e=>(sb3.2 b hb).trans e) f0 f1 f3 f4 f5,q⟩
theorem zDS {elt:Expr}{gs:List Comprehension}{scope:Scope}{pos py:Pos}{y:Str}{l:Nat}{env:Env} (hk:env.scope.kind = .function) (hy:env.scope.names.lookup y=some .local) (hl:(py.line == pos.line)=true)
  (ha:(scope.names.any fun (n,k)=>n == y && (k == .local || k == .cell))=false):swapsWith (.ListComp elt gs scope pos) (some (.Name y py)) l env=pure true:=by
 have ky:env.kindOf y=some .local:=hy
 have hb:env.blockKind = .function:=by unfold Env.blockKind; rw [hk]; rfl
 unfold swapsWith
 simp only [hb,ky,ha,Expr.pos,hl]
 rfl
end
theorem lc_range {lo:Int}{n:Nat}{g:TG}{tt:TT}{te:TE}{vs:List Nat}{σ:St}{H1:Hp}{D:Addr}{Qd:Hp→Prop} (Pv:Nat→Hp→Prop) (h0:Pv 0 (upd H1 D (.lst [])))
    (hs:∀ i H,i < n→Pv i H→g (.int (lo+i)) (wipe σ vs) H fun σ2 H2=>wipe σ2 vs=wipe σ vs∧tt σ2 H2 fun b H3 =>
      if b=true then te σ2 H3 fun y H4=>∃ acc,H4 D=some (.lst acc)∧acc.length < sizeLine∧Pv (i+1) (upd H4 D (.lst (acc++[y]))) else Pv (i+1) H3) (hd:∀ H,Pv n H→Qd H) :
    ∃ W:Nat→Nat→Hp→Prop,(∃ m,W 0 m (upd H1 D (.lst [])))∧∀ i m H,W i m H →
      ((Itr lo n).stop i H∧Qd H)∨((Itr lo n).go i H∧∃ Nx:Hp→Prop,(∀ H',Nx H'→∃ m',m' < m∧W (i+1) m' H')∧∀ x H',(Itr lo n).yld i H x H'→g x (wipe σ vs) H' fun σ2 H2=>wipe σ2 vs=wipe σ vs∧tt σ2 H2 fun b H3 =>
        if b=true then te σ2 H3 fun y H4=>∃ acc,H4 D=some (.lst acc)∧acc.length < sizeLine∧Nx (upd H4 D (.lst (acc++[y]))) else Nx H3):=by
  refine ⟨fun i m H=>m=n - i∧i≤n∧Pv i H,⟨n,by simp,Nat.zero_le _,h0⟩,?_⟩
  rintro i m H ⟨rfl,hi,p⟩
  by_cases hlt:i < n
  · refine .inr ⟨hlt,Pv (i+1),fun H' p'=>⟨n - (i+1),by omega,rfl,hlt,p'⟩,fun x H' y=>?_⟩
    obtain ⟨e,y⟩:=y
    subst e y
    exact hs i _ hlt p
  · have e:i=n:=by omega
    subst e
    exact .inl ⟨Nat.le_refl _,hd H p⟩
theorem zFq {K:Fg}{a:Addr}{xs:List V}{g:TG}{tt:TT}{te:TE}{vs:List Nat}{σ:St}{H1:Hp}{D:Addr}{Qd:Hp→Prop} (Pv:Nat→Hp→Prop) (h0:Pv 0 (upd H1 D (.lst []))) (hl:∀ i H,i≤xs.length→Pv i H→SqL K H a xs)
    (hs:∀ i x H,xs[i]? = some x→Pv i H→g x (wipe σ vs) H fun σ2 H2=>wipe σ2 vs=wipe σ vs∧tt σ2 H2 fun b H3 =>
      if b=true then te σ2 H3 fun y H4=>∃ acc,H4 D=some (.lst acc)∧acc.length < sizeLine∧Pv (i+1) (upd H4 D (.lst (acc++[y]))) else Pv (i+1) H3) (hd:∀ H,Pv xs.length H→Qd H) :
    ∃ W:Nat→Nat→Hp→Prop,(∃ m,W 0 m (upd H1 D (.lst [])))∧∀ i m H,W i m H →
      ((Itl K a).stop i H∧Qd H)∨((Itl K a).go i H∧∃ Nx:Hp→Prop,(∀ H',Nx H'→∃ m',m' < m∧W (i+1) m' H')∧∀ x H',(Itl K a).yld i H x H'→g x (wipe σ vs) H' fun σ2 H2=>wipe σ2 vs=wipe σ vs∧tt σ2 H2 fun b H3 =>
        if b=true then te σ2 H3 fun y H4=>∃ acc,H4 D=some (.lst acc)∧acc.length < sizeLine∧Nx (upd H4 D (.lst (acc++[y]))) else Nx H3):=by
  refine ⟨fun i m H=>m=xs.length - i∧i≤xs.length∧Pv i H,⟨xs.length,by simp,Nat.zero_le _,h0⟩,?_⟩
  rintro i m H ⟨rfl,hi,p⟩
  have q:=hl i H hi p
  by_cases hlt:i < xs.length
  · refine .inr ⟨⟨xs,xs[i],q,by simp [hlt]⟩,Pv (i+1),fun H' p'=>⟨xs.length - (i+1),by omega,rfl,hlt,p'⟩,fun x H' y=>?_⟩
    obtain ⟨e,y⟩:=y
    subst e
    exact hs i x _ (y xs q) p
  · have e:i=xs.length:=by omega
    subst e
    exact .inl ⟨⟨xs,q,Nat.le_refl _⟩,hd H p⟩
theorem zCG {K:Fg}{a:Addr}{xs:List V}{g:TG}{tt:TT}{te:TE}{vs:List Nat}{σ:St}{H1:Hp}{D:Addr}{Qd:Hp→Prop} (Pv:Nat→Hp→Prop) (h0:Pv 0 (upd H1 D (.lst []))) (hl:∀ i H,i≤xs.length→Pv i H→SqT K H a xs)
    (hs:∀ i x H,xs[i]? = some x→Pv i H→g x (wipe σ vs) H fun σ2 H2=>wipe σ2 vs=wipe σ vs∧tt σ2 H2 fun b H3 =>
      if b=true then te σ2 H3 fun y H4=>∃ acc,H4 D=some (.lst acc)∧acc.length < sizeLine∧Pv (i+1) (upd H4 D (.lst (acc++[y]))) else Pv (i+1) H3) (hd:∀ H,Pv xs.length H→Qd H) :
    ∃ W:Nat→Nat→Hp→Prop,(∃ m,W 0 m (upd H1 D (.lst [])))∧∀ i m H,W i m H →
      ((Itt K a).stop i H∧Qd H)∨((Itt K a).go i H∧∃ Nx:Hp→Prop,(∀ H',Nx H'→∃ m',m' < m∧W (i+1) m' H')∧∀ x H',(Itt K a).yld i H x H'→g x (wipe σ vs) H' fun σ2 H2=>wipe σ2 vs=wipe σ vs∧tt σ2 H2 fun b H3 =>
        if b=true then te σ2 H3 fun y H4=>∃ acc,H4 D=some (.lst acc)∧acc.length < sizeLine∧Nx (upd H4 D (.lst (acc++[y]))) else Nx H3):=by
  refine ⟨fun i m H=>m=xs.length - i∧i≤xs.length∧Pv i H,⟨xs.length,by simp,Nat.zero_le _,h0⟩,?_⟩
  rintro i m H ⟨rfl,hi,p⟩
  have q:=hl i H hi p
  by_cases hlt:i < xs.length
  · refine .inr ⟨⟨xs,xs[i],q,by simp [hlt]⟩,Pv (i+1),fun H' p'=>⟨xs.length - (i+1),by omega,rfl,hlt,p'⟩,fun x H' y=>?_⟩
    obtain ⟨e,y⟩:=y
    subst e
    exact hs i x _ (y xs q) p
  · have e:i=xs.length:=by omega
    subst e
    exact .inl ⟨⟨xs,q,Nat.le_refl _⟩,hd H p⟩
def blkC (N:List Str) (sc scope:Scope) (own:List (Str×Nat)):Bool :=
  (match scope.kind with | .function=>true | _=>false) && (scope.names.all fun y=>decide (scope.names.lookup y.1=some y.2)) && (own.all fun p=>decide (N[p.2]? = some p.1)) &&
    (scope.names.all fun y=>match y.2 with
      | .free=>(match sc.names.lookup y.1 with | some .cell=>true | some .free=>true | _=>false)
      | .local=>decide (y.1∈own.map (·.1)) || decide (y.1∉N)
      | .cell=>decide (y.1∈own.map (·.1)) || decide (y.1∉N)
      | _=>true)
theorem zAp {N:List Str}{sc scope:Scope}{own:List (Str×Nat)} (h:blkC N sc scope own=true):BlkOk N sc scope own:=by
 unfold blkC at h
 simp only [Bool.and_eq_true,List.all_eq_true,decide_eq_true_eq] at h
 obtain ⟨⟨⟨h1,h2⟩,h3⟩,h4⟩:=h
 refine ⟨?_,h2,h3,fun y hy e=>?_,fun y hy e=>?_⟩
 ·split at h1
  ·assumption
  ·cases h1
 ·have q:=h4 y hy
  simp only [e] at q
  split at q <;> first | exact .inl (by assumption) | exact .inr (by assumption) | cases q
 ·have q:=h4 y hy
  rcases e with e | e <;> (simp only [e,Bool.or_eq_true,decide_eq_true_eq] at q; exact q)
end L2
namespace L2
open PySem PySem.Spec PyProof.Rows
section
variable {κ:Type} [DecidableEq κ]
def valV (kvs:List (κ×V)) (k:κ):Option V:=(kvs.find? fun kv=>decide (kv.1=k)).map (·.2)
def putK (kvs:List (κ×V)) (k:κ) (v:V):List (κ×V) :=
 if (kvs.any fun kv=>decide (kv.1=k))=true then kvs.map (fun kv=>if kv.1=k then (kv.1,v) else kv) else kvs++[(k,v)]
theorem zBF {p:κ×V}{r:List (κ×V)}{k:κ} (e:p.1=k):valV (p::r) k=some p.2:=by simp [valV,List.find?_cons,e]
theorem zBG {p:κ×V}{r:List (κ×V)}{k:κ} (e:¬ p.1=k):valV (p::r) k=valV r k:=by simp [valV,List.find?_cons,e]
theorem zDG (k:κ):∀ kvs:List (κ×V),(kvs.any fun kv=>decide (kv.1=k))=(valV kvs k).isSome
 | []=>rfl
 | p::r=>by
  rw [List.any_cons]
  by_cases e:p.1=k
  ·simp only [zBF e,decide_eq_true e,Bool.true_or,Option.isSome_some]
  ·rw [zBG e,decide_eq_false e,Bool.false_or]; exact zDG k r
theorem zF1 (k j:κ) (y:V):∀ kvs:List (κ×V),valV (kvs.map fun kv=>if kv.1=k then (kv.1,y) else kv) j=(valV kvs j).map fun x=>if j=k then y else x
 | []=>rfl
 | p::r=>by
  have ih:=zF1 k j y r
  rw [List.map_cons]
  by_cases h:p.1=k
  ·rw [if_pos h]
   by_cases e:p.1=j
   ·rw [zBF (p:=(p.1,y)) e,zBF e,Option.map_some,if_pos (e.symm.trans h)]
   ·rw [zBG (p:=(p.1,y)) e,zBG e,ih]
  ·rw [if_neg h]
   by_cases e:p.1=j
   ·rw [zBF (p:=p) e,zBF e,Option.map_some,if_neg (fun z=>h (e.trans z))]
   ·rw [zBG (p:=p) e,zBG e,ih]
theorem zEx (k j:κ) (y:V):∀ kvs:List (κ×V),valV kvs k=none→valV (kvs++[(k,y)]) j=if j=k then some y else valV kvs j
 | [],_=>by
  by_cases e:k=j
  ·rw [if_pos e.symm]; exact zBF (p:=(k,y)) e
  ·rw [if_neg (fun z=>e z.symm)]; exact zBG (p:=(k,y)) e
 | p::r,hn=>by
  rw [List.cons_append]
  have hk:¬ p.1=k:=fun z=>by rw [zBF z] at hn; cases hn
  rw [zBG hk] at hn
  have ih:=zEx k j y r hn
  by_cases e:p.1=j
  ·rw [zBF e,zBF e,if_neg (fun z=>hk (e.trans z))]
  ·rw [zBG e,zBG e,ih]
theorem zF0 (kvs:List (κ×V)) (k j:κ) (y:V):valV (putK kvs k y) j=if j=k then some y else valV kvs j:=by
 unfold putK
 by_cases a:(kvs.any fun kv=>decide (kv.1=k))=true
 ·rw [if_pos a,zF1]
  rw [zDG] at a
  by_cases e:j=k
  ·obtain ⟨x,hx⟩:=Option.isSome_iff_exists.mp a
   rw [if_pos e,e,hx,Option.map_some,if_pos rfl]
  ·rw [if_neg e]
   cases valV kvs j with
   | none=>rfl
   | some x=>rw [Option.map_some,if_neg e]
 ·rw [if_neg a]
  refine zEx k j y kvs ?_
  rw [zDG] at a
  cases q:valV kvs k with
  | none=>rfl
  | some x=>rw [q] at a; exact (a rfl).elim
theorem zBu (kvs:List (κ×V)) (k:κ) (v:V):(putK kvs k v).length≤kvs.length+1:=by
 unfold putK
 split
 ·rw [List.length_map]; omega
 ·rw [List.length_append,List.length_cons,List.length_nil]; omega
theorem RelO.isSome_eq {o:Option V}{u:Option Value} (r:RelO o u):o.isSome=u.isSome:=by
 cases o with
 | none=>cases u with
  | none=>rfl
  | some _=>exact (show False from r).elim
 | some _=>cases u with
  | none=>exact (show False from r).elim
  | some _=>rfl
theorem KV.val {kvs:List (κ×V)}{vs:List (κ×Value)} (r:KV kvs vs) (k:κ):RelO (valV kvs k) (valueAt vs k):=by
 unfold KV at r
 induction r with
 | nil=>exact True.intro
 | @cons p q ps qs h t ih =>
  obtain ⟨h1,h2⟩:=h
  by_cases e:p.1=k
  ·have e':q.1=k:=h1.symm.trans e
   have b:valueAt (q::qs) k=some q.2:=by simp [valueAt,List.find?_cons,e']
   rw [zBF e,b]; exact h2
  ·have e':¬ q.1=k:=fun z=>e (h1.trans z)
   have b:valueAt (q::qs) k=valueAt qs k:=by simp [valueAt,List.find?_cons,e']
   rw [zBG e,b]; exact ih
theorem KV.any {kvs:List (κ×V)}{vs:List (κ×Value)} (r:KV kvs vs) (k:κ):(kvs.any fun kv=>decide (kv.1=k))=vs.any fun kv=>decide (kv.1=k):=by
 unfold KV at r
 induction r with
 | nil=>rfl
 | cons h t ih=>rw [List.any_cons,List.any_cons,ih,h.1]
theorem KV.repl {kvs:List (κ×V)}{vs:List (κ×Value)} (r:KV kvs vs) (k:κ) {y:V}{u:Value} (ry:RelV y u) :
  KV (kvs.map fun kv=>if kv.1=k then (kv.1,y) else kv) (vs.map fun kv=>if kv.1=k then (kv.1,u) else kv):=by
 unfold KV at r ⊢
 induction r with
 | nil=>exact .nil
 | @cons p q ps qs h t ih =>
  rw [List.map_cons,List.map_cons]
  refine .cons ?_ ih
  obtain ⟨h1,h2⟩:=h
  by_cases e:p.1=k
  ·rw [if_pos e,if_pos (h1.symm.trans e)]; exact ⟨h1,ry⟩
  ·rw [if_neg e,if_neg (fun z=>e (h1.trans z))]; exact ⟨h1,h2⟩
theorem KV.put {kvs:List (κ×V)}{vs:List (κ×Value)} (r:KV kvs vs) (k:κ) {y:V}{u:Value} (ry:RelV y u):KV (putK kvs k y) (stored vs k u):=by
 unfold putK stored
 rw [r.any k]
 by_cases e:(vs.any fun kv=>decide (kv.1=k))=true
 ·rw [if_pos e,if_pos e]; exact r.repl k ry
 ·rw [if_neg e,if_neg e]; exact Paired.snoc r ⟨rfl,ry⟩
theorem KV.length {kvs:List (κ×V)}{vs:List (κ×Value)} (r:KV kvs vs):kvs.length=vs.length:=Paired.length r
end
theorem kV_is {P:Program}{w:World}{k:Key}{u:Value} (r:RelV (kV k) u):(zBN P w).is k u=true:=by
 cases k with
 | inl i=>obtain ⟨t,e⟩:=(show ∃ t,u=Value.int i t from r); subst e; exact zFn P w i t
 | inr x=>obtain ⟨t,e⟩:=(show ∃ t,u=Value.str x t from r); subst e; exact zFm P w x t
theorem zFH {P:Program}{w:World}:∀ {ks:List Key}{us:List Value},Vals (ks.map kV) us→ItemsAre (zBN P w) ks us
 | [],_,r=>by rw [List.map_nil] at r; cases r; exact .nil
 | k::ks,_,r=>by
  rw [List.map_cons] at r
  cases r with
  | cons h t=>exact .cons (kV_is h) (zFH t)
abbrev KT (H:Hp):List (List Key×V)→List (List Key×Addr×Value)→Prop:=Paired fun p q=>p.1=q.1∧H q.2.1=some (.tup (p.1.map kV))∧RelV p.2 q.2.2
theorem KT.val {H:Hp}{kvs:List (List Key×V)}{xs:List (List Key×Addr×Value)} (r:KT H kvs xs) (k:List Key):RelO (valV kvs k) ((atKey xs k).map (·.2)):=by
 induction r with
 | nil=>exact True.intro
 | @cons p q ps qs h t ih =>
  obtain ⟨h1,_,h2⟩:=h
  by_cases e:p.1=k
  ·have e':q.1=k:=h1.symm.trans e
   have b:atKey (q::qs) k=some q.2:=by simp [atKey,List.find?_cons,e']
   rw [zBF e,b]; exact h2
  ·have e':¬ q.1=k:=fun z=>e (h1.trans z)
   have b:atKey (q::qs) k=atKey qs k:=by simp [atKey,List.find?_cons,e']
   rw [zBG e,b]; exact ih
theorem KT.repl {H:Hp}{kvs:List (List Key×V)}{xs:List (List Key×Addr×Value)} (r:KT H kvs xs) (k:List Key) {y:V}{u:Value} (ry:RelV y u) :
  KT H (kvs.map fun kv=>if kv.1=k then (kv.1,y) else kv) (xs.map (putAt k u)):=by
 induction r with
 | nil=>exact .nil
 | @cons p q ps qs h t ih =>
  rw [List.map_cons,List.map_cons]
  refine .cons ?_ ih
  obtain ⟨h1,h2,h3⟩:=h
  unfold putAt
  by_cases e:p.1=k
  ·rw [if_pos e,if_pos (h1.symm.trans e)]; exact ⟨h1,h2,ry⟩
  ·rw [if_neg e,if_neg (fun z=>e (h1.trans z))]; exact ⟨h1,h2,h3⟩
theorem KT.put {H:Hp}{kvs:List (List Key×V)}{xs:List (List Key×Addr×Value)} (r:KT H kvs xs) (k:List Key) {b:Addr}{y:V}{u:Value} (hb:H b=some (.tup (k.map kV))) (ry:RelV y u) :
  KT H (putK kvs k y) (storedH xs k b u):=by
 have e:(kvs.any fun kv=>decide (kv.1=k))=(atKey xs k).isSome:=by
  rw [zDG,(r.val k).isSome_eq,Option.isSome_map]
 unfold putK storedH
 rw [e]
 by_cases q:(atKey xs k).isSome=true
 ·rw [if_pos q,if_pos q]; exact r.repl k ry
 ·rw [if_neg q,if_neg q]; exact Paired.snoc r ⟨rfl,hb,ry⟩
theorem KT.keeps {H H':Hp}{kvs:List (List Key×V)}{xs:List (List Key×Addr×Value)} (r:KT H kvs xs) (ht:∀ b ys,H b=some (.tup ys)→H' b=some (.tup ys)):KT H' kvs xs :=
 Paired.mapP r fun _ _ z=>⟨z.1,ht _ _ z.2.1,z.2.2⟩
section
variable {P:Program}{w:World}{H:Hp}{h:Heap}{a:Addr}
theorem rd_of {u:HO} (ok:HOk P w H h) (e:Rd H a u):ObjOk P w H h a u:=e.ok ok
theorem dk_rd {kvs:List (Key×V)} (ok:HOk P w H h) (e:Rd H a (.dK kvs)):kvs.length≤sizeLine∧(a == sysModules)=false∧∃ vs,KV kvs vs∧h.DictOf (zBN P w) a vs :=
 show ObjOk P w H h a (.dK kvs) from rd_of ok e
theorem dk_of {kvs:List (Key×V)} (ok:HOk P w H h) (e:H a=some (.dK kvs)):kvs.length≤sizeLine∧(a == sysModules)=false∧∃ vs,KV kvs vs∧h.DictOf (zBN P w) a vs:=dk_rd ok (.inl e)
theorem zGX {ks:List Key} (ok:HOk P w H h) (e:H a=some (.tup (ks.map kV))):(tupleKind (zBN P w)).is h ks a:=by
 obtain ⟨_,its,r,o,h1,h2,n,h3⟩:=(show ObjOk P w H h a (.tup (ks.map kV)) from ok a _ e)
 exact ⟨o,its.toArray,n,h1,h2,h3,by simpa using zFH r⟩
theorem dt_rd {kvs:List (List Key×V)} (ok:HOk P w H h) (e:Rd H a (.dT kvs)):kvs.length≤sizeLine∧(a == sysModules)=false ∧
  ∃ xs,KT H kvs xs∧h.DictOfH (tupleKind (zBN P w)) a xs:=by
 obtain ⟨z,y,xs,r,o,es,ep,h1,h2,h3,h4,h5⟩:=(show ObjOk P w H h a (.dT kvs) from rd_of ok e)
 refine ⟨z,y,xs,r,o,es,ep,h1,h2,h3,h4,fun x hx=>?_,h5⟩
 have all:∀ {l:List (List Key×V)}{m:List (List Key×Addr×Value)},KT H l m→∀ x∈m,(tupleKind (zBN P w)).is h x.1 x.2.1:=by
  intro l m q
  induction q with
  | nil=>intro x hx; exact nomatch hx
  | @cons p q ps qs hq t ih =>
   intro x hx
   rcases List.mem_cons.mp hx with e | hx
   ·subst e
    exact zGX ok (by rw [←hq.1]; exact hq.2.1)
   ·exact ih x hx
 exact all r x hx
theorem dt_of {kvs:List (List Key×V)} (ok:HOk P w H h) (e:H a=some (.dT kvs)):kvs.length≤sizeLine∧(a == sysModules)=false ∧
  ∃ xs,KT H kvs xs∧h.DictOfH (tupleKind (zBN P w)) a xs:=dt_rd ok (.inl e)
end
def DGet (H:Hp) (a:Addr) (y:V) (r:Option V):Prop :=
 (∃ kvs k,Rd H a (.dK kvs)∧y=kV k∧r=valV kvs k)∨∃ kvs k b,Rd H a (.dT kvs)∧y = .ref b∧H b=some (.tup (k.map kV))∧r=valV kvs k
def DPut (H:Hp) (a:Addr) (y v:V) (H':Hp):Prop :=
 (∃ kvs k,H a=some (.dK kvs)∧y=kV k∧kvs.length < sizeLine∧H' = upd H a (.dK (putK kvs k v))) ∨
 ∃ kvs k b,H a=some (.dT kvs)∧y = .ref b∧H b=some (.tup (k.map kV))∧kvs.length < sizeLine∧H' = upd H a (.dT (putK kvs k v))
theorem DGet.t {H:Hp}{a b:Addr}{kvs:List (List Key×V)}{k:List Key} (e:H a=some (.dT kvs)) (eb:H b=some (.tup (k.map kV))):DGet H a (.ref b) (valV kvs k):=.inr ⟨kvs,k,b,.inl e,rfl,eb,rfl⟩
theorem DPut.t {H:Hp}{a b:Addr}{kvs:List (List Key×V)}{k:List Key}{v:V} (e:H a=some (.dT kvs)) (eb:H b=some (.tup (k.map kV))) (hl:kvs.length < sizeLine) :
  DPut H a (.ref b) v (upd H a (.dT (putK kvs k v))):=.inr ⟨kvs,k,b,e,rfl,eb,hl,rfl⟩
section
variable {X:Cx}{pins:List (Addr×Obj)}{σ:St}{H:Hp}{s:Shared}{a:Addr}{y v:V}{u r:Value}{o:Option V}{A:Around}{E:Value→Shared→Prop}
theorem Inv.big (I:Inv X pins σ H s):sysModules < s.heap.objs.size:=by
 have h:mainGlobals < s.heap.objs.size:=(I.mod.glob.keeps I.bk).lt
 exact Nat.lt_trans (by decide) h
theorem d_getItem {Q:Value→Shared→Prop} (hu:A.units+1 < cLine) (I:Inv X pins σ H s) (g:DGet H a y (some v)) (ry:RelV y u) (h:∀ w' s',Inv X pins σ H s'→RelV v w'→Q w' s') :
  wpAny (model X.prog X.w) A (getItem (.ref a) u) Q E s:=by
 rcases g with ⟨kvs,k,e,ey,l⟩ | ⟨kvs,k,b,e,ey,eb,l⟩
 ·subst ey
  obtain ⟨z,hd,vs,rel,dd⟩:=dk_rd I.hok e
  obtain ⟨w',hw,rw'⟩:=RelO.some_of (v:=v) (o:=valueAt vs k) (by rw [l]; exact rel.val k)
  exact wpAny_getItem_of (kV_is ry) dd.mapOf hw (h w' _ (I.tok _) rw')
 ·subst ey
  cases (show u=Value.ref b from ry)
  obtain ⟨z,hd,xs,rel,dd⟩:=dt_rd I.hok e
  obtain ⟨w',hw,rw'⟩:=RelO.some_of (v:=v) (o:=(atKey xs k).map (·.2)) (by rw [l]; exact rel.val k)
  obtain ⟨p,hp,hp2⟩:=Option.map_eq_some_iff.mp hw
  refine wpAny_getItem_heap (tupleKind_room_in1 hu) (zGX I.hok eb) dd hp ?_
  rw [hp2]
  exact h w' _ (I.tok _) rw'
theorem d_in {Q:Value→Shared→Prop} (hu:A.units+1 < cLine) (I:Inv X pins σ H s) (g:DGet H a y o) (ry:RelV y u) (h:∀ s',Inv X pins σ H s'→Q (.bool o.isSome) s') :
  wpAny (model X.prog X.w) A (compareOp .In u (.ref a)) Q E s:=by
 rcases g with ⟨kvs,k,e,ey,l⟩ | ⟨kvs,k,b,e,ey,eb,l⟩
 ·subst ey
  obtain ⟨z,hd,vs,rel,dd⟩:=dk_rd I.hok e
  refine wpAny_in_of (kV_is ry) hd dd.mapOf ?_
  rw [←(rel.val k).isSome_eq,←l]
  exact h _ (I.tok _)
 ·subst ey
  cases (show u=Value.ref b from ry)
  obtain ⟨z,hd,xs,rel,dd⟩:=dt_rd I.hok e
  refine wpAny_in_heap (tupleKind_room_in1 hu) (zGX I.hok eb) hd dd ?_
  have q:=(rel.val k).isSome_eq
  rw [Option.isSome_map] at q
  rw [←q,←l]
  exact h _ (I.tok _)
theorem d_write {h':Heap}{t':Nat}{ob:HO} (I:Inv X pins σ H s) (mu:Mut (H a)) (hs:Heap.SameBut a s.heap h') (he:∃ q,h'.get? a=some q) (new:ObjOk X.prog X.w (upd H a ob) h' a ob) :
  Inv X pins σ (upd H a ob) { s with heap:=h',toks:=t' } :=
 I.write (x:=a) (e:=a) mu (.inl rfl) (fun b q hb z=>(hs.2 b hb).trans z) he new
theorem dk_new {P:Program}{w:World}{H':Hp}{h':Heap}{kvs:List (Key×V)}{vs:List (Key×Value)} (z:kvs.length≤sizeLine) (hd:(a == sysModules)=false) (rel:KV kvs vs) (dd:h'.DictOf (zBN P w) a vs) :
  ObjOk P w H' h' a (.dK kvs):=⟨z,hd,vs,rel,dd⟩
theorem d_setItem {H':Hp}{Q:Unit→Shared→Prop} (hu:A.units+1 < cLine) (I:Inv X pins σ H s) (g:DPut H a y v H') (ry:RelV y u) (rv:RelV v r) (h:∀ s',Inv X pins σ H' s'→Q () s') :
  wpAny (model X.prog X.w) A (setItem (.ref a) u r) Q E s:=by
 rcases g with ⟨kvs,k,e,ey,l,eH⟩ | ⟨kvs,k,b,e,ey,eb,l,eH⟩
 ·subst ey eH
  obtain ⟨z,hd,vs,rel,dd⟩:=dk_of I.hok e
  have hz:vs.length≤sizeLine:=by rw [←rel.length]; exact z
  have hl:(putK kvs k v).length≤sizeLine:=by have:=zBu kvs k v; omega
  refine wpAny_setItem_pairs (hsz:=hz) (kV_is ry) dd fun h' dd' hs=>h _ ?_
  have he:∃ q,h'.get? a=some q:=let ⟨q,_,_,hq,_⟩:=dd'; ⟨q,hq⟩
  exact d_write I (by rw [e]; exact True.intro) hs he (dk_new hl hd (rel.put k rv) dd')
 ·subst ey eH
  cases (show u=Value.ref b from ry)
  obtain ⟨z,hd,xs,rel,dd⟩:=dt_of I.hok e
  have hz:xs.length≤sizeLine:=by rw [←Paired.length rel]; exact z
  have hl:(putK kvs k v).length≤sizeLine:=by have:=zBu kvs k v; omega
  refine wpAny_setItem_heap (hsz:=hz) (tupleKind_room_in1 hu) (zGX I.hok eb) dd fun h' dd' hs=>h _ ?_
  obtain ⟨q,es,ep,hq,h2,h3,h4,_,h5⟩:=dd'
  refine d_write I (by rw [e]; exact True.intro) hs ⟨q,hq⟩ ⟨hl,hd,_,(rel.put k eb rv).keeps fun c ys ec=>?_,q,es,ep,hq,h2,h3,h4,h5⟩
  rw [zAG (zBA ec e (fun z=>nomatch z))]
  exact ec
end
def NoSl (i:Expr):Prop:=∀ ov iv,subscripted i false ov iv=operate [ov,iv] (getItem ov iv)
theorem subD_of {prog:Program}{w:World}{A:Around}{E:Value→Shared→Prop}{s:Shared}{env:Env}{value slice:Expr}{pos:Pos}{T id:String}{Q:Value→Shared→Prop}
  (hl:typeLookup (.type T) "__getitem__" = pure (some (.builtin id))) (hs:NoSl slice)
  (h:wpAny (model prog w) A (eval value env) (fun o s₁=>wpAny (model prog w) A (eval slice env) (fun i s₂=>s₂.TypeIs o T∧wpAny (model prog w) A (getItem o i) Q E s₂) E s₁) E s) :
  wpAny (model prog w) A (eval (.Subscript value slice pos) env) Q E s:=by
 refine Subscript_ (wpAny_mono h (fun o s₁ h₁=>wpAny_mono h₁ (fun i s₂ h₂=>?_) fun _ _ x=>x) fun _ _ x=>x)
 obtain ⟨hT,h₂⟩:=h₂
 unfold subscriptTail
 refine wpAny_bind ?_
 rw [getitemInPython_of_ne hT.not_modules]
 refine wpAny_bind (wpAny_specialOf hT hl ?_)
 have fin:wpAny (model prog w) A (subscripted slice false o i) (fun r s₃=>wpAny (model prog w) A (letTemporaryGo value o r >>= fun _=>pure r) Q E s₃) E s₂:=by
  rw [hs o i]
  exact wpAny_operating (wpAny_mono h₂ (fun r s₃ h₃=>wpAny_bind (wpAny_letTemporaryGo (wpAny_pure h₃))) fun _ _ x=>x)
 first
  | exact wpAny_pure (wpAny_bind fin)
  | exact wpAny_bind (wpAny_pure (wpAny_bind fin))
  | exact wpAny_bind fin
theorem zFu {X:Cx}{pins:List (Addr×Obj)}{σ:St}{H:Hp}{s:Shared}{a:Addr}{y:V}{o:Option V} (I:Inv X pins σ H s) (g:DGet H a y o):s.TypeIs (.ref a) "dict":=by
 rcases g with ⟨kvs,k,e,_,_⟩ | ⟨kvs,k,b,e,_,_,_⟩
 ·obtain ⟨_,_,vs,_,dd⟩:=dk_rd I.hok e
  exact dd.typeIs
 ·obtain ⟨_,_,xs,_,dd⟩:=dt_rd I.hok e
  exact dd.typeIs
def tDGet (td ty:TE):TE:=fun σ H Q=>td σ H fun x H1=>ty σ H1 fun y H2=>∃ a v,x = .ref a∧DGet H2 a y (some v)∧Q v H2
def tDIn (ty td:TE):TE:=fun σ H Q=>ty σ H fun y H1=>td σ H1 fun x H2=>∃ a o,x = .ref a∧DGet H2 a y o∧Q (.bl o.isSome) H2
def sDPut (td ty tv:TE):TS:=fun D σ H=>tv σ H fun v H1=>td σ H1 fun x H2=>ty σ H2 fun y H3=>∃ a H4,x = .ref a∧DPut H3 a y v H4∧D.nx σ H4
section
variable {X:Cx}{o i e value:Expr}{pos pos' tpos:Pos}{td ty tv:TE}
theorem pe_dget (hu:X.A.units+1 < cLine) (ho:PE X o td) (hi:PE X i ty) (hs:NoSl i):PE X (.Subscript o i pos) (tDGet td ty):=by
 intro pins s σ H Q I h
 refine subD_of PySem.F.slot_dict_getitem.lookup hs (thn (ho pins s σ H _ I h) fun u s1 ⟨x,H1,I1,rx,q1⟩=>thn (hi pins s1 σ H1 _ I1 q1) fun iv s2 ⟨y,H2,I2,ry,a,v,ex,g,q2⟩=>?_)
 subst ex
 obtain rfl:u=Value.ref a:=rx
 exact ⟨zFu I2 g,d_getItem hu I2 g ry fun w' s3 I3 rw'=>⟨v,H2,I3,rw',q2⟩⟩
theorem zGK (hu:X.A.units+1 < cLine) (hi:PE X i ty) (ho:PE X o td):PC X .In i o (tDIn ty td):=by
 intro pins s σ H Q I h
 refine thn (hi pins s σ H _ I h) fun iv s1 ⟨y,H1,I1,ry,q1⟩=>thn (ho pins s1 σ H1 _ I1 q1) fun u s2 ⟨x,H2,I2,rx,a,ov,ex,g,q2⟩=>?_
 subst ex
 obtain rfl:u=Value.ref a:=rx
 exact d_in hu I2 g ry fun s3 I3=>⟨.bl ov.isSome,H2,I3,rfl,q2⟩
theorem ps_dput (hu:X.A.units+1 < cLine) (ho:PE X o td) (hi:PE X i ty) (hv:PE X value tv) (hs:swapsWith value (some (.Subscript o i pos')) pos.line X.env=pure false) :
  PS X (.Assign [.Subscript o i pos'] value pos) (sDPut td ty tv):=by
 intro pins s σ H D I h
 refine wpAny_Assign_Subscript (thn (hv pins s σ H _ I h) fun r s1 ⟨v,H1,I1,rv,q1⟩=>thn (ho pins s1 σ H1 _ I1 q1) fun u s2 ⟨x,H2,I2,rx,q2⟩=>thn (hi pins s2 σ H2 _ I2 q2) fun iv s3 ⟨y,H3,I3,ry,a,H4,ex,g,q3⟩=>?_) hs
 subst ex
 obtain rfl:u=Value.ref a:=rx
 exact d_setItem hu I3 g ry rv fun s4 I4=>⟨σ,H4,I4,q3⟩
end
theorem dt_empty {P:Program}{w:World}{H:Hp} (h:Heap) (hb:sysModules < h.objs.size):ObjOk P w H (h.push { cls:=.type "dict",data:=.dict #[] }) h.objs.size (.dT []) :=
 ⟨Nat.zero_le _,beq_eq_false_iff_ne.mpr (Ne.symm (Nat.ne_of_lt hb)),[],.nil,_,#[],0,Heap.get?_push_size _ rfl,⟨rfl,rfl,rfl⟩,rfl,rfl,List.nodup_nil⟩
def tDNewT:TE:=fun _ H Q=>∀ p,H p=none→Q (.ref p) (upd H p (.dT []))
section
variable {X:Cx}{pos:Pos}
theorem zGI:PE X (.Dict [] [] pos) tDNewT:=fun pins s σ H Q I h =>
 wpAny_Dict_empty ⟨.ref s.heap.objs.size,_,I.laid (a:=s.heap.objs.size) (o:=.dT []) (t':=s.toks) (fun _ _ q=>Heap.get?_push_of_some _ q) (Nat.le_refl _) (dt_empty s.heap I.big),rfl,h _ (I.hok.fresh (Nat.le_refl _))⟩
end
end L2
namespace L2
open PySem PySem.Spec PyProof.Rows
theorem zDw:bootBuiltins "reversed" = some (.type "reversed"):=by decide +kernel
section
variable {X:Cx}{pins:List (Addr×Obj)}{σ:St}{H:Hp}{s:Shared}{h':Heap}
theorem Inv.turnedL {t':Nat}{ch:List Addr} (I:Inv X pins σ H s) (k:∀ b o,b∉ch→s.heap.get? b=some o→h'.get? b=some o) (hf:∀ b∈ch,FpOk X pins H b):Inv X pins σ H { s with heap:=h',toks:=t' }:=by
 have nit:∀ b u,H b=some u→b∉ch:=fun b u e z=>by
  have q:=(hf b z).1
  rw [q] at e; cases e
 refine I.step (g':=s.gens) (d':=s.drawn) (ch:=ch) (fun b hb=>⟨(hf b hb).2.2.2.1,(hf b hb).2.1,(hf b hb).2.2.2.2.1,(hf b hb).2.2.2.2.2⟩) (fun b o _ _ hc e _=>k b o hc e) (fun b o _ _ hc e _=>⟨o.slots,k b o hc e⟩)
  (fun _ _ _ _ n=>n) (fun b o hc e=>⟨o,k b o hc e⟩) (fun _ _ e=>e) (fun _ _ _ e=>e) (fun b ps e=>⟨#[],by rw [e]; simp⟩) (fun m hm=>?_) (fun b u e=>?_) I.bare
 ·obtain ⟨o,es,ep,ho,r⟩:=hm
  exact ⟨o,es,ep,k _ o (fun z=>(hf _ z).2.1 rfl) ho,r⟩
 ·refine (I.hok b u e).stay (fun c v hc q=>k c v ?_ q) (fun _ q=>q) fun _ _ q=>q
  rcases hc with z | z
  ·rw [z]; exact nit b u e
  ·exact nit c _ z
theorem Inv.turnedNew {t':Nat}{ch:List Addr}{T:Addr}{ob:HO} (I:Inv X pins σ H s) (k:∀ b o,b∉ch→s.heap.get? b=some o→h'.get? b=some o) (hf:∀ b∈ch,FpOk X pins H b) (hT:s.heap.objs.size≤T)
  (new:ObjOk X.prog X.w (upd H T ob) h' T ob):Inv X pins σ (upd H T ob) { s with heap:=h',toks:=t' }:=by
 have hn:H T=none:=I.hok.fresh hT
 have nit:∀ b u,H b=some u→b∉ch:=fun b u e z=>by
  have q:=(hf b z).1
  rw [q] at e; cases e
 refine I.step (g':=s.gens) (d':=s.drawn) (ch:=ch) (fun b hb=>⟨(hf b hb).2.2.2.1,(hf b hb).2.1,(hf b hb).2.2.2.2.1,(hf b hb).2.2.2.2.2⟩) (fun b o _ _ hc e _=>k b o hc e) (fun b o _ _ hc e _=>⟨o.slots,k b o hc e⟩)
  (fun b o _ e n=>?_) (fun b o hc e=>⟨o,k b o hc e⟩) (fun b xs e=>?_) (fun b o u e=>?_) (fun b ps e=>⟨#[],?_⟩) (fun m hm=>?_) (fun b u e=>?_) I.bare
 ·rw [zAG (Nat.ne_of_lt (Nat.lt_of_lt_of_le (Heap.lt_size e) hT))]; exact n
 ·rw [zAG (zAC e hn)]; exact e
 ·rw [zAG (zAC e hn)]; exact e
 ·rw [zAG (zAC e hn),e]; simp
 ·obtain ⟨o,es,ep,ho,r⟩:=hm
  exact ⟨o,es,ep,k _ o (fun z=>(hf _ z).2.1 rfl) ho,r⟩
 ·by_cases hb:b=T
  ·subst hb
   rw [zAB] at e
   cases e
   exact new
  ·rw [zAG hb] at e
   refine (I.hok b u e).stay (fun c v hc q=>k c v ?_ q) (fun c q=>by rw [zAG (zAC q hn)]; exact q) fun c xs q=>by rw [zAG (zAC q hn)]; exact q
   rcases hc with z | z
   ·rw [z]; exact nit b u e
   ·exact nit c _ z
end
section
variable {X:Cx}
theorem pi_one {tg:Expr}{pins:List (Addr×Obj)}{σ:St}{H:Hp}{s:Shared}{R:It→Hp→Prop}{J:It}{tn:Nat→Heap→Prop}{tk:Nat} (I:Inv X pins σ H s) (o:Obj)
  (T:Turn X.prog X.w X.K tg J [s.heap.objs.size] s.heap.objs.size tn) (st:tn 0 (s.heap.push o)) (q:R J H):PIE X pins σ tg R (.ref s.heap.objs.size) { s with heap:=s.heap.push o,toks:=tk }:=by
 refine ⟨s.heap.objs.size,[s.heap.objs.size],tn,J,H,rfl,I.kept fun b ob e=>Heap.get?_push_of_some _ e,T,st,fun b hb=>?_,q⟩
 have e:b=s.heap.objs.size:=by simpa using hb
 subst e
 exact I.fpOk (Nat.le_refl _) (I.hok.fresh (Nat.le_refl _))
end
def Itc (lo c:Int) (n:Nat):It:=⟨fun i _=>i < n,fun i H x H'=>H' = H∧x = .int (lo+(i:Nat) * c),fun i _=>n≤i⟩
theorem zFY {P:Program}{w:World}{K:Fg}{tg:Expr} (it:Addr) (lo c:Int) (n:Nat):Turn P w K tg (Itc lo c n) [it] it (fun i h=>IsRangeIter h it (lo+(i:Nat) * c) ((n:Int) - (i:Nat)) c) where
 mem:=by simp
 obj:=fun i h st b hb=>by
  have e:b=it:=by simpa using hb
  subst e
  exact ⟨_,st,fun v z=>nomatch z⟩
 keep:=fun i h h' st k=>k it (by simp) _ st
 item:=by
  intro X hP hw hK hc i pins s σ H E I hf st hg
  subst hP hw hK
  obtain ⟨f0,f1,f2,f3,f4,f5⟩:=hf it (by simp)
  have W:=Walks.range (prog:=X.prog) (w:=X.w) (I.ok.hd hc) it lo c n
  refine W.item i s _ _ hg st fun v h' tk hv st' kk=>?_
  obtain ⟨t,rfl⟩:=hv
  have I1:Inv X pins σ H { s with heap:=h',toks:=tk }:=I.turned (fun b o hb e=>kk b o (by simpa using hb) e) f0 f1 f3 f4 f5
  exact ⟨_,rfl,zFs (s:={ s with heap:=h',toks:=tk }) (n:="range_iterator") st' rfl rfl (by decide) ⟨.int (lo+(i:Nat) * c),H,I1,⟨t,rfl⟩,⟨rfl,rfl⟩,st',fun b hb=>(hf b hb).1⟩⟩
 done:=by
  intro X hP hw hK hc i pins s σ H E I hf st hg
  subst hP hw hK
  obtain ⟨f0,f1,f2,f3,f4,f5⟩:=hf it (by simp)
  exact wpAny_pyNext_range_end (I.ok.hd hc) st (by have:n≤i:=hg; omega) fun h' eb=>⟨rfl,I.turned (t':=s.toks) (fun b o hb e=>eb b o hb e) f0 f1 f3 f4 f5⟩
 self:=fun A i s Q E st h=>wpAny_pyIter_rangeiter st h
def RgC (i j c:Int) (n:Nat):Prop:=c≠0∧c.natAbs < 1073741824∧Builtin.Range.small i j c=true∧Builtin.Range.rangeSize i j c=n
theorem RgC.neg {i j:Int} (ha:-(2 ^ 62)≤i) (ha':i < 2 ^ 62) (hb:-(2 ^ 62)≤j) (hb':j < 2 ^ 62):RgC i j (-1) (i - j).toNat :=
 ⟨by decide,by decide,PySem.W.small_down ha ha' hb hb',PySem.W.rangeSize_downNat i j⟩
def iRng3 (ta:TA):TI:=fun σ H R=>ta σ H fun vs H1=>∃ (i j c:Int) (n:Nat),vs=[.int i,.int j,.int c]∧RgC i j c n∧R (Itc i c n) H1
section
variable {X:Cx}{tg:Expr}
theorem zE8 {a b c:Expr}{ta:TA}{p pos:Pos} (hg:Gl X "range") (hm:X.mg "range" = none) (ha:PA X [a,b,c] ta)
  (hs:starEach [a,b,c] X.env=(false,eval a X.env)::starEach [b,c] X.env:=by rfl) (hpl:(backTo pos (starEach [b,c] X.env)).any (·.1)=false:=by rfl) :
  PI X tg (.Call (.Name "range" p) [a,b,c] [] pos) (iRng3 ta):=by
 intro pins s σ H R I h
 refine Call_ (zDg I hg hm boot_range (PyProof.Rows.callWith_type1 (thn (ha pos pins s σ H _ I h) fun us s1 ⟨vs,H1,I1,r1,q1⟩=>?_) hs hpl))
 obtain ⟨i,j,k,n,e,⟨c0,c1,c2,c3⟩,q⟩:=q1
 subst e
 cases r1 with
 | cons r rr =>
  cases rr with
  | cons r' rr =>
   cases rr with
   | cons r'' rr =>
    cases rr
    obtain ⟨t,rfl⟩:=r
    obtain ⟨t',rfl⟩:=r'
    obtain ⟨t'',rfl⟩:=r''
    refine call_range_3 c0 ?_ (.inl (PyProof.noPylong_small c1))
    refine wpAny_pyIter_range (IsRange.new ..) c2 ?_
    have I2:Inv X pins σ H1 { s1 with heap:=s1.heap.push { cls:=.type "range",data:=.fields #[.int i t,.int j t',.int k t''] } }:=I1.kept (t':=s1.toks) fun b o e=>Heap.get?_push_of_some _ e
    refine pi_one (tk:=s1.toks) I2 _ (zFY _ i k n) ?_ q
    have e1:i+((0:Nat):Int) * k=i:=by simp
    have e2:(n:Int) - ((0:Nat):Int)=Builtin.Range.rangeSize i j k:=by rw [c3]; simp
    show IsRangeIter _ _ (i+((0:Nat):Int) * k) ((n:Int) - ((0:Nat):Int)) k
    rw [e1,e2]
    exact Heap.get?_push_size _ rfl
end
theorem zEC {lo c:Int}{n:Nat}{g:TG}{tb:TS}{D:Ends}{σ:St}{H:Hp} (Pv:Nat→St→Hp→Prop) (h0:Pv 0 σ H)
  (hs:∀ i σ H,i < n→Pv i σ H→g (.int (lo+(i:Nat) * c)) σ H fun σ2 H2=>tb { D with nx:=Pv (i+1),ct:=Pv (i+1),bk:=D.nx } σ2 H2) (hd:∀ σ H,Pv n σ H→D.nx σ H) :
  ∃ W:Nat→Nat→St→Hp→Prop,(∃ m,W 0 m σ H)∧∀ i m σ H,W i m σ H →
   ((Itc lo c n).stop i H∧D.nx σ H)∨((Itc lo c n).go i H∧∃ N:St→Hp→Prop,(∀ σ' H',N σ' H'→∃ m',m' < m∧W (i+1) m' σ' H')∧∀ x H',(Itc lo c n).yld i H x H'→g x σ H' fun σ2 H2=>tb { D with nx:=N,ct:=N,bk:=D.nx } σ2 H2):=by
 refine ⟨fun i m σ H=>m=n - i∧i≤n∧Pv i σ H,⟨n,by simp,Nat.zero_le _,h0⟩,?_⟩
 rintro i m σ H ⟨rfl,hi,p⟩
 by_cases hlt:i < n
 ·refine .inr ⟨hlt,Pv (i+1),fun σ' H' p'=>⟨n - (i+1),by omega,rfl,hlt,p'⟩,fun x H' y=>?_⟩
  obtain ⟨e,y⟩:=y
  subst e y
  exact hs i σ _ hlt p
 ·have e:i=n:=by omega
  subst e
  exact .inl ⟨Nat.le_refl _,hd σ H p⟩
def Itv (K:Fg) (a:Addr) (n:Nat):It :=
 ⟨fun i H=>i < n∧∃ (xs:List V) (x:V),SqL K H a xs∧xs[n - 1 - i]? = some x,fun i H x H'=>H' = H∧∀ xs,SqL K H a xs→xs[n - 1 - i]? = some x,fun i _=>n≤i⟩
theorem turn_rev {P:Program}{w:World}{K:Fg}{tg:Expr} (a it:Addr) (n:Nat):Turn P w K tg (Itv K a n) [it] it (fun i h=>i≤n∧h.IsRevIter it a ((n:Int) - 1 - (i:Nat))) where
 mem:=by simp
 obj:=fun i h st b hb=>by
  have e:b=it:=by simpa using hb
  subst e
  obtain ⟨_,o,e,c,d⟩:=st
  exact ⟨o,e,fun v z=>by rw [d] at z; cases z⟩
 keep:=fun i h h' st k=>⟨st.1,st.2.at fun o e=>k it (by simp) o e⟩
 item:=by
  intro X hP hw hK hc i pins s σ H E I hf st hg
  subst hP hw hK
  obtain ⟨hin,xs,x,hq,hx⟩:=hg
  obtain ⟨its,rv,p,hz⟩:=I.list hq
  obtain ⟨u,hu,ru⟩:=rv.get hx
  obtain ⟨f0,f1,f2,f3,f4,f5⟩:=hf it (by simp)
  obtain ⟨_,hit⟩:=st
  have e1:(n:Int) - 1 - ((i:Nat):Int)=((n - 1 - i:Nat):Int):=by omega
  rw [e1] at hit
  refine wpAny_pyNext_rev_item hit p.isList (x:=u) (by simpa using hu) fun h' st' sb=>?_
  have e2:((n - 1 - i:Nat):Int) - 1=(n:Int) - 1 - ((i+1:Nat):Int):=by omega
  rw [e2] at st'
  have I1:Inv X pins σ H { s with heap:=h' }:=I.turned (t':=s.toks) (fun b o hb e=>(sb.2 b hb).trans e) f0 f1 f3 f4 f5
  obtain ⟨o,e,c,d⟩:=id st'
  exact ⟨u,rfl,zFs (s:={ s with heap:=h' }) e c d (by decide) ⟨x,H,I1,ru,⟨rfl,fun ys hy=>by rw [I.list_inj hy hq]; exact hx⟩,⟨hin,st'⟩,fun b hb=>(hf b hb).1⟩⟩
 done:=by
  intro X hP hw hK hc i pins s σ H E I hf st hg
  subst hP hw hK
  obtain ⟨f0,f1,f2,f3,f4,f5⟩:=hf it (by simp)
  obtain ⟨hin,hit⟩:=st
  have hge:n≤i:=hg
  have e1:(n:Int) - 1 - ((i:Nat):Int) = -1:=by omega
  rw [e1] at hit
  exact wpAny_pyNext_rev_end (I.ok.hd hc) hit fun h' eb=>⟨rfl,I.turned (t':=s.toks) (fun b o hb e=>eb b o hb e) f0 f1 f3 f4 f5⟩
 self:=fun A i s Q E st h=>wpAny_pyIter_revIter st.2 h
def iRev (K:Fg) (ta:TA):TI:=fun σ H R=>ta σ H fun vs H1=>∃ (a:Addr) (xs:List V),vs=[.ref a]∧SqL K H1 a xs∧R (Itv K a xs.length) H1
section
variable {X:Cx}{tg:Expr}
theorem zFi {e:Expr}{ta:TA}{p pos:Pos} (hg:Gl X "reversed") (hm:X.mg "reversed" = none) (ha:PA X [e] ta) (hs:starEach [e] X.env=[(false,eval e X.env)]:=by rfl):PI X tg (.Call (.Name "reversed" p) [e] [] pos) (iRev X.K ta):=by
 intro pins s σ H R I h
 refine Call_ (zDg I hg hm zDw (PyProof.Rows.callWith_type1 (thn (ha pos pins s σ H _ I h) fun us s1 ⟨vs,H1,I1,r1,q1⟩=>?_) hs rfl))
 obtain ⟨a,xs,e,hq,q⟩:=q1
 subst e
 cases r1 with
 | cons r rr =>
  cases rr
  cases r
  obtain ⟨its,rv,p',hz⟩:=I1.list hq
  have hl:=rv.length
  have e1:((its.toArray.size:Nat):Int) - 1=(xs.length:Int) - 1 - ((0:Nat):Int):=by simp only [List.size_toArray]; omega
  refine call_reversed_list p'.isList (wpAny_pyIter_revIter (l:=a) (i:=((its.toArray.size:Nat):Int) - 1) ⟨_,Heap.get?_push_size _ rfl,rfl,rfl⟩ ?_)
  refine pi_one (tk:=s1.toks) I1 _ (turn_rev a _ xs.length) ⟨Nat.zero_le _,?_⟩ q
  rw [←e1]
  exact ⟨_,Heap.get?_push_size _ rfl,rfl,rfl⟩
end
theorem zD1 {α β:Type}{G:α→β→Prop}{l₁:List α}{l₂:List β} (h:Paired G l₁ l₂):∀ {i:Nat}{a:α},l₁[i]? = some a→∃ b,l₂[i]? = some b∧G a b:=by
 induction h with
 | nil=>intro i a e; simp at e
 | @cons a b l₁ l₂ r t ih =>
  intro i a' e
  cases i with
  | zero =>
   simp only [List.getElem?_cons_zero,Option.some.injEq] at e
   subst e
   exact ⟨b,rfl,r⟩
  | succ j =>
   simp only [List.getElem?_cons_succ] at e ⊢
   exact ih e
theorem boot_zip5:bootBuiltins "zip" = some (.type "zip"):=by decide +kernel
end L2
namespace L2
open PySem PySem.Spec PyProof.Rows
def zAK (s:Stmt) (j:Nat):Stmt:=match s with
 | .ClassDef _ _ _ body _ _ _ _ _ _ _=>body.getD j (.Pass ⟨0,0,0,0⟩)
 | _=>.Pass ⟨0,0,0,0⟩
def zDk (s:Stmt):Arguments:=match s with
 | .FunctionDef _ a _ _ _ _ _ _ _ _=>a
 | _=>{ posonlyargs:=[],args:=[],vararg:=none,kwonlyargs:=[],kw_defaults:=[],kwarg:=none,defaults:=[] }
def zCQ (s:Stmt):List Stmt:=match s with
 | .FunctionDef _ _ b _ _ _ _ _ _ _=>b
 | _=>[]
def zAH (s:Stmt):Scope:=match s with
 | .FunctionDef _ _ _ _ _ _ sc _ _ _=>sc
 | _=>{ kind:=.function,names:=[],isGenerator:=false,isCoroutine:=false }
abbrev CX0:CXT:=fun _ _ _ _ _ _=>False
abbrev E0:XK:=fun _ _ _=>False
theorem zAU {X:Cx}:zBX CX0 X E0:=fun _ _ _ _ _ _ _ h=>h.elim
structure Fun (K:Fg) (x qual:Str) (st:Stmt) (f:Addr) (fd:FuncData):Prop where
 ex:∃ (oc:Value) (od:Option Addr) (kV doc pm:Value) (an:Option Addr) (cdv ct:Value) (osl:Array (Option Value)),
  fd=PySem.W.fnOf x qual (zDk st) (zCQ st) (zAH st) .none kV doc pm an cdv ct∧K.lookup f=some ⟨oc,od,.func fd,osl⟩∧PySem.W.codeIn K cdv qual=true
 kp:PySem.W.keepIn K (.ref f)=true
section
variable {P:Program}{w:World}{K:Fg}{mg:MG}{base:Heap}
theorem Fun.ok {x qual:Str}{st:Stmt}{f:Addr}{fd:FuncData}{N ps:List Str}{k:Nat}{sp:Sp} (F:Fun K x qual st f fd) (S:FnScope N ps (zAH st)) (len:∀ vs H Q E,sp vs H Q E→vs.length=ps.length)
    (hbody:∀ (cdv:Value) (A:Around) (outer:List Env) (s:Shared) (H:Hp) (vs:List V) (Q:VK) (E:XK),Room k (A.deeper (envOfC qual (zAH st) s.heap.objs.size f cdv))→sp vs H Q E →
      ∃ t,PSs (cxOf CX0 P w K mg base N qual (zAH st) f cdv A outer s H E).nox (zCQ st) t∧t { nx:=fun _ H'=>Q .non H',rt:=Q } (start N vs) H):FnOk P w K mg base CX0 (k+1) f fd ps sp:=by
  obtain ⟨oc,od,kV,doc,pm,an,cdv,ct,osl,rfl,lk,hcd⟩:=F.ex
  refine fn_of lk hcd S len fun A outer s H vs Q E hr hsp=>?_
  obtain ⟨t,h,q⟩:=hbody cdv A outer s H vs Q E hr hsp
  exact ⟨t,h.nox,q⟩
theorem Fun.binds {x qual:Str}{st:Stmt}{f:Addr}{fd:FuncData}{ps:List Str} (F:Fun K x qual st f fd)
  (h:∀ (kV doc pm:Value) (an:Option Addr) (cdv ct:Value) (us:List Value),us.length=ps.length→bindArgs (PySem.W.fnOf x qual (zDk st) (zCQ st) (zAH st) .none kV doc pm an cdv ct) ⟨us,[]⟩=pure (ps.zip us)):Binds K fd ps []:=by
 obtain ⟨oc,od,kV,doc,pm,an,cdv,ct,osl,rfl,lk,hcd⟩:=F.ex
 exact .all (h kV doc pm an cdv ct)
theorem fun_mk {x qual:Str}{st:Stmt}{f:Addr}{oc:Value}{od an:Option Addr}{osl:Array (Option Value)}{kV doc pm cdv ct:Value} (l:K.lookup f=some ⟨oc,od,.func (PySem.W.fnOf x qual (zDk st) (zCQ st) (zAH st) .none kV doc pm an cdv ct),osl⟩)
  (c:PySem.W.codeIn K cdv qual=true) (k:PySem.W.keepIn K (.ref f)=true):Fun K x qual st f (PySem.W.fnOf x qual (zDk st) (zCQ st) (zAH st) .none kV doc pm an cdv ct):=⟨⟨oc,od,kV,doc,pm,an,cdv,ct,osl,rfl,l,c⟩,k⟩
end
theorem hu_of {A:Around}{k:Nat} (hr:Room k A):A.units+1 < cLine:=Nat.lt_of_le_of_lt (Nat.add_le_add_left (by decide:1≤64) _) hr.units
section
variable {X:Cx}
theorem pv (i:Nat) {x:Str}{pos:Pos} (hN:X.N[i]? = some x:=by rfl) (hv:Vis X.env.scope x:=by first | exact Or.inl rfl | exact Or.inr (Or.inl rfl) | exact Or.inr (Or.inr rfl)) (hd:(x == ("__debug__":Str))=false:=by decide)
  (hcd:(x == ("__classdict__":Str))=false:=by decide):PE X (.Name x pos) (tVar i):=pe_var hN hv hd hcd
end
theorem iteF {A B:Prop} (h:B):if false=true then A else B:=by
 rw [if_neg Bool.false_ne_true]
 exact h
theorem iteT {A B:Prop} (h:A):if true=true then A else B:=by
 rw [if_pos rfl]
 exact h
def Same (H H':Hp):Prop:=∀ b o,H b=some o→H' b=some o
theorem Same.refl (H:Hp):Same H H:=fun _ _ h=>h
theorem Same.trans {H H1 H2:Hp} (a:Same H H1) (b:Same H1 H2):Same H H2:=fun c o h=>b c o (a c o h)
theorem Same.free {H H':Hp} (e:Same H H') {l:Addr} (h:H' l=Option.none):H l=Option.none:=by
 cases q:H l with
 | none=>rfl
 | some o =>
  rw [e l o q] at h
  cases h
theorem Same.seq {K:Fg}{H H':Hp}{a:Addr}{xs:List V} (e:Same H H') (h:SqL K H a xs):SqL K H' a xs:=by
 rcases h with (h | ⟨o,h⟩) | h
 ·exact .inl (.inl (e _ _ h))
 ·exact .inl (.inr ⟨o,e _ _ h⟩)
 ·exact .inr h
theorem at_of {xs:List V}{z:Int}{j:Nat}{v:V} (e:z=(j:Int)) (h:xs[j]? = some v):atI xs z=some v:=by
 rw [e]
 exact zAO h
theorem nd_ix {α:Type}{l:List α} (hN:l.Nodup) {i j:Nat}{x:α} (a:l[i]? = some x) (b:l[j]? = some x):i=j:=by
 obtain ⟨h1,e1⟩:=List.getElem?_eq_some_iff.mp a
 obtain ⟨h2,e2⟩:=List.getElem?_eq_some_iff.mp b
 exact (List.getElem_inj hN).mp (e1.trans e2.symm)
end L2
namespace L2
open PySem PySem.Spec PyProof.Rows
abbrev excBm:List Value:=[.type "Exception",.type "BaseException",.type "object"]
theorem hide {P:Prop} (h:∀ G:Prop,(P→G)→G):P:=h P id
structure ExcC (K:Fg) (mg:MG) (x:Str) (C:Addr):Prop where
 at_:mg x=some (.ref C)
 ex:PySem.W.excIn K C excBm "Exception.__new__" = true
theorem ExcC.own {K:Fg}{mg:MG}{x:Str}{C:Addr}{h:Heap} (c:ExcC K mg x C) (kin:K.In h):OwnCls x C excBm "Exception.__new__" mg h:=by
 refine ⟨c.at_,?_⟩
 have r:=c.ex
 unfold PySem.W.excIn at r
 split at r
 ·rename_i d1 cdat slt hlk
  split at r
  ·rename_i c2 tl z0 z1 z2 z3 nid z5 hmro hslots
   simp only [Bool.and_eq_true,beq_iff_eq,Bool.not_eq_true'] at r
   obtain ⟨⟨⟨⟨⟨e1,e2⟩,hdl⟩,htl⟩,hnsok⟩,hini⟩:=r
   subst e1
   subst e2
   obtain ⟨n1,n2,n3,n4,n5,n6,n7,n8,n9,n10,n11⟩:=cdat
   dsimp only at hmro hdl hnsok hini
   subst hmro
   subst hdl
   have hs2:slt = #[z0,z1,z2,z3,some (.builtin "Exception.__new__"),z5]:=by
    obtain ⟨ll⟩:=slt
    simp only at hslots
    rw [hslots]
   subst hs2
   exact ⟨tl,n4,n1,n5,n2,n6,n7,n8,n9,n10,d1,z0,z1,z2,z3,z5,_,kin _ _ hlk,.of_isNs (PySem.W.isNs_of_in kin hnsok),PySem.W.nsMap_none_of_in kin hnsok hini,PySem.W.tail_of_in kin htl⟩
  ·cases r
 ·cases r
theorem ObjOk.there {P:Program}{w:World}{H:Hp}{h:Heap}{a:Addr}{o:HO} (x:ObjOk P w H h a o):∃ u,h.get? a=some u:=by
 cases o with
 | lst xs=>obtain ⟨_,_,_,_,e⟩:=x; exact ⟨_,e⟩
 | tup xs=>obtain ⟨_,_,_,ob,e,_⟩:=x; exact ⟨_,e⟩
 | dK kvs=>obtain ⟨_,_,_,_,o,_,_,e,_⟩:=x; exact ⟨_,e⟩
 | dT kvs=>obtain ⟨_,_,_,_,o,_,_,e,_⟩:=x; exact ⟨_,e⟩
 | set S n=>obtain ⟨o,_,_,_,e,_⟩:=x; exact ⟨_,e⟩
 | ins C dx fs=>obtain ⟨_,_,_,e,_⟩:=x; exact ⟨_,e⟩
 | own y=>obtain ⟨_,e⟩:=x; exact ⟨_,e⟩
 | xd fs=>obtain ⟨_,⟨_,_,_,e,_⟩,_⟩:=x; exact ⟨_,e⟩
 | rng lo hi=>obtain ⟨_,_,_,e⟩:=x; exact ⟨_,e⟩
 | frz ob u=>obtain ⟨e,_⟩:=x; exact ⟨_,e⟩
 | tbl ps=>exact ⟨_,(show h.get? a=some _ from x)⟩
 | met f y=>exact ⟨_,(show h.get? a=some _ from x)⟩
 | ext φ=>obtain ⟨_,⟨_,e⟩,_⟩:=x; exact ⟨_,e⟩
def CXE (P:Program) (w:World):CXT:=fun outer H s E e s' =>
 ∃ (ea C:Addr) (a0:Value) (B:Heap) (H':Hp),e = .ref ea∧Heap.FlyingW B outer ea (.ref C) a0 s'.heap ∧
  (∀ b o,s.heap.get? b=some o→H b=none→b∉frs outer→B.get? b=some o) ∧
  (∀ b o,s.heap.get? b=some o→b∉frs outer→∃ ob,B.get? b=some ob) ∧
  (∀ b o,H' b=some o→∃ ob,B.get? b=some ob) ∧
  s'.os=s.os∧AllBare s'.gens∧Un (frs outer) [] H H' s.heap s'.heap∧HOk P w H' s'.heap∧E (.ref C) none H'
section
variable {X:Cx}{pins:List (Addr×Obj)}{σ:St}{H:Hp}{s:Shared}
theorem zGc {P:Program}{w:World}{H:Hp}{B h h':Heap} (ok:HOk P w H h) (k:B.StaysIn h) (k':B.StaysIn h') (tr:∀ b o,H b=some o→∃ ob,B.get? b=some ob):HOk P w H h':=fun a o e =>
  (ok a o e).stay (fun b u hb q=>by
    have:∃ ob,B.get? b=some ob:=by
      rcases hb with z | z
      · exact tr b o (z ▸ e)
      · exact tr b _ z
    obtain ⟨ob,z⟩:=this
    have z1:=k b ob z
    rw [q] at z1
    cases z1
    exact k' b u z) (fun _ q=>q) fun _ _ q=>q
theorem fly_out {E:XK}{B h2:Heap}{ea C:Addr}{a0:Value}{s2:Shared} (I:Inv X pins σ H s) (hx:X.ex=[]) (fl:Heap.FlyingW B X.outer ea (.ref C) a0 h2) (kb:B.StaysIn s.heap) (sm:s.heap.UpToSlots h2)
  (all:∀ b o,X.s_0.heap.get? b=some o→b∉X.fs→∃ ob,B.get? b=some ob) (tr:∀ b o,H b=some o→∃ ob,B.get? b=some ob) (ho:s2.os=s.os) (hg:AllBare s2.gens) (hE:E (.ref C) none H) :
  CXE X.prog X.w X.outer X.H_0 X.s_0 E (.ref ea) { s2 with heap:=h2 }:=by
 have ub:=I.base
 rw [hx] at ub
 have ex_:∀ b o,X.s_0.heap.get? b=some o→b∉frs X.outer→∃ ob,B.get? b=some ob:=all
 have kp:∀ b o,X.s_0.heap.get? b=some o→X.H_0 b=none→b∉frs X.outer→B.get? b=some o:=fun b o e n hb=>by
  have e1:=ub.keep b o e n hb (by simp)
  obtain ⟨ob,z⟩:=ex_ b o e hb
  have z1:=kb b ob z
  rw [e1] at z1
  cases z1
  exact z
 have sl:∀ b o,X.s_0.heap.get? b=some o→X.H_0 b=none→b∈frs X.outer→∃ q,h2.get? b=some { o with slots:=q }:=fun b o e n hb=>by
  obtain ⟨q,e1⟩:=ub.slot b o e n hb (by simp)
  obtain ⟨_,o3,ho3,nf⟩:=I.ok.funs.mem hb
  rw [e] at ho3
  cases ho3
  obtain ⟨q2,e2⟩:=sm b _ e1 nf
  exact ⟨q2,e2⟩
 refine ⟨ea,C,a0,B,H,rfl,fl,kp,ex_,tr,ho.trans I.os,hg,⟨fun b o e n hb _=>fl.1 b o (kp b o e n hb),fun b o e n hb _=>sl b o e n hb,fun b o e n _=>ub.free b o e n (by simp),fun b o e _=>?_,ub.tups,ub.frzs,ub.tbls⟩,zGc I.hok kb fl.1 tr,hE⟩
 by_cases hb:b∈frs X.outer
 ·obtain ⟨q,z⟩:=sl b o e (I.ok.frf b hb) hb
  exact ⟨_,z⟩
 ·obtain ⟨ob,z⟩:=ex_ b o e hb
  exact ⟨ob,fl.1 b ob z⟩
end
structure XBody (X:Cx) (E:XK):Prop where
 ex:X.ex=[]
 stk:X.stack=X.env::X.outer
 frm:X.env.frame=some X.env.locals
 xe:∀ e s',wpAny (model X.prog X.w) X.A (leaving X.env e) (fun _ s''=>CXE X.prog X.w X.outer X.H_0 X.s_0 E e s'') (fun e' s''=>CXE X.prog X.w X.outer X.H_0 X.s_0 E e' s'') s'→X.xe e s'
 po:PassesOwn (model X.prog X.w) X.A X.env X.xe
theorem xbody {P:Program}{w:World}{K:Fg}{mg:MG}{base:Heap}{N:List Str}{qual:Str}{scope:Scope}{f:Addr}{cd:Value}{A:Around}{outer:List Env}{s:Shared}{H:Hp}{E:XK} :
  XBody (cxOf (CXE P w) P w K mg base N qual scope f cd A outer s H E) E:=⟨rfl,rfl,rfl,fun _ _ h=>h,PassesOwn.leaving⟩
theorem zBQ {X:Cx}{E:XK} (b:XBody X E):zBX (CXE X.prog X.w) X E:=by
 intro pins σ H s e s' I h
 obtain ⟨ea,C,a0,B,H',rfl,fl,kp,all,tr,ho,hg,u,ok,hE⟩:=h
 have I2:Inv X pins σ H' s':=I.call' (ch:=[]) ho u ok hg (fun _ z=>nomatch z)
 refine b.xe _ _ ?_
 have fl2:=fl
 rw [b.stk] at fl2
 refine wpAny_leaves_onW (I.ok.frames.trans (by rw [b.stk])) b.frm fl2 fun h2 f2 sm=>?_
 refine fly_out I2 b.ex f2 fl.1 sm (fun c o e hc=>?_) tr rfl hg hE
 have ub:=I.base
 rw [b.ex] at ub
 obtain ⟨o',e1⟩:=ub.there c o e (by simp)
 exact all c o' e1 fun hm=>(List.mem_cons.mp (I.stkSub c hm)).elim (fun z=>Nat.ne_of_lt (Nat.lt_of_lt_of_le (Heap.lt_size e) I.ok.above) z) hc
theorem zBZ {X:Cx}{E:XK}{x:Str}{C:Addr}{np cpos pos:Pos} (b:XBody X E) (c:ExcC X.K X.mg x C) (hc:X.calm=true) (hg:Gl X x:=by rfl) (hd:(x == ("__debug__":Str))=false:=by decide) :
  PS X (.Raise (some (.Call (.Name x np) [] [] cpos)) none pos) (fun _ _ H=>E (.ref C) none H):=by
 intro pins s σ H D I h
 have O:=c.own I.kIn
 obtain ⟨tl,N,nm,q,bs,hdct,sn,sub,ab,col,dd,k0,k1,k2,k3,k5,mN,hC,hN,hni,T⟩:=O.obj
 refine wpAny_Raise_call_subT (C:=C) (nm:=nm) (q:=q) (N:=N) (bs:=bs) (bm:=tl) (hdct:=hdct) (sn:=sn) (sub:=sub) (ab:=ab) (col:=col) (dd:=dd) (k0:=k0) (k1:=k1) (k2:=k2) (k3:=k3) (k5:=k5)
  PySem.F.excBase_Exception (mN:=mN) (T.hasType PySem.F.excBase_Exception.hasBase) (I.ok.hd hc) rfl hni (zCP I hg c.at_ ⟨rfl,?_⟩ hd)
 refine evalArgs_empty ⟨rfl,Nat.zero_le _,hC,hN,T,fun h' e mk=>b.xe _ _ ?_⟩
 have hfr:X.A.frames=some (X.env::X.outer):=I.ok.frames.trans (by rw [b.stk])
 have FF:s.heap.FunFrames X.base (X.env::X.outer):=by
  have z:=I.stack
  rw [b.stk] at z
  exact z
 refine wpAny_leaves_madeW (base:=PySem.W.hideAll s.heap (frs X.stack)) (h:=s.heap) hfr b.frm (fun c o z=>PySem.W.of_hideAll _ z)
  (PySem.W.funFrames_hide FF fun env he a ha=>?_) mk fun h2 t f2 _ _ sm=>?_
 ·unfold frs
  rw [b.stk]
  exact List.mem_filterMap.mpr ⟨env,he,ha⟩
 ·have notfr:∀ c o,H c=some o→c∉frs X.stack:=fun c o z hm=>by
   rcases List.mem_cons.mp (I.stkSub c hm) with y | y
   ·rw [y,I.free] at z
    cases z
   ·obtain ⟨_,o',ho',_⟩:=I.ok.funs.mem y
    have ub:=I.base
    rw [b.ex] at ub
    rw [ub.free c o' ho' (I.ok.frf c y) (by simp)] at z
    cases z
  refine fly_out I b.ex f2 (fun c o z=>PySem.W.of_hideAll _ z) ((Heap.UpToSlots.of_keeps mk.keeps).trans sm) (fun c o z hc'=>?_) (fun c o z=>?_) rfl I.bare h
  ·have ub:=I.base
   rw [b.ex] at ub
   obtain ⟨o',e1⟩:=ub.there c o z (by simp)
   exact ⟨o',PySem.W.hideAll_get _ e1 fun hm=>(List.mem_cons.mp (I.stkSub c hm)).elim (fun y=>Nat.ne_of_lt (Nat.lt_of_lt_of_le (Heap.lt_size z) I.ok.above) y) hc'⟩
  ·obtain ⟨o',e1⟩:=ObjOk.there (I.hok c o z)
   exact ⟨o',PySem.W.hideAll_get _ e1 (notfr c o z)⟩
abbrev Cx.inX (X:Cx) (e:Value):Cx:={ X with A:=X.A.mark (some e),calm:=false }
theorem Cx.Ok.inX {X:Cx} (ok:X.Ok) (e:Value):(X.inX e).Ok :=
 ⟨ok.mod,ok.kind,ok.glob,ok.blt,ok.above,ok.inj,ok.has,ok.cab,fun h=>Bool.noConfusion h,ok.frames,ok.stk,ok.exf,ok.bs,ok.bsz,ok.noex,ok.exfs,ok.funs,ok.frf⟩
theorem Inv.inX {X:Cx}{pins:List (Addr×Obj)}{σ:St}{H:Hp}{s:Shared} (I:Inv X pins σ H s) (e:Value):Inv (X.inX e) pins σ H s:=⟨I.ok.inX e,I.os,I.bare,I.base,I.loc,I.cell,I.free,I.freeC,I.pin,I.hok,I.len⟩
theorem Inv.outX {X:Cx}{pins:List (Addr×Obj)}{σ:St}{H:Hp}{s:Shared}{e:Value} (ok:X.Ok) (I:Inv (X.inX e) pins σ H s):Inv X pins σ H s:=⟨ok,I.os,I.bare,I.base,I.loc,I.cell,I.free,I.freeC,I.pin,I.hok,I.len⟩
theorem SP.outX {X:Cx}{pins:List (Addr×Obj)}{e:Value}{D:Ends}{f:Flow}{s':Shared} (ok:X.Ok) (h:SP (X.inX e) pins D f s'):SP X pins D f s':=by
 cases f with
 | next=>obtain ⟨σ',H',I,q⟩:=h; exact ⟨σ',H',I.outX ok,q⟩
 | brk=>obtain ⟨σ',H',I,q⟩:=h; exact ⟨σ',H',I.outX ok,q⟩
 | cont=>obtain ⟨σ',H',I,q⟩:=h; exact ⟨σ',H',I.outX ok,q⟩
 | ret u=>obtain ⟨v,σ',H',I,r,q⟩:=h; exact ⟨v,σ',H',I.outX ok,r,q⟩
abbrev Cx.tryX (X:Cx) (pn:List (Addr×Obj)) (E:Value→Shared→Prop):Cx:={ X with pn:=pn,xe:=E }
theorem Inv.tryX {X:Cx}{pins:List (Addr×Obj)}{σ:St}{H:Hp}{s:Shared} (I:Inv X pins σ H s) (E:Value→Shared→Prop):Inv (X.tryX (X.pn++pins) E) [] σ H s :=
 ⟨⟨I.ok.mod,I.ok.kind,I.ok.glob,I.ok.blt,I.ok.above,I.ok.inj,I.ok.has,I.ok.cab,I.ok.hd,I.ok.frames,I.ok.stk,I.ok.exf,I.ok.bs,I.ok.bsz,I.ok.noex,I.ok.exfs,I.ok.funs,I.ok.frf⟩,I.os,I.bare,I.base,I.loc,I.cell,I.free,I.freeC,
  fun p hp=>I.pin p (by simpa using hp),I.hok,I.len⟩
theorem Inv.untryX {X:Cx}{pins pins':List (Addr×Obj)}{σ:St}{H:Hp}{s:Shared}{E:Value→Shared→Prop} (ok:X.Ok) (I:Inv (X.tryX (X.pn++pins) E) pins' σ H s):Inv X pins σ H s :=
 ⟨ok,I.os,I.bare,I.base,I.loc,I.cell,I.free,I.freeC,fun p hp=>I.pin p (List.mem_append_left _ hp),I.hok,I.len⟩
theorem SP.untryX {X:Cx}{pins pins':List (Addr×Obj)}{E:Value→Shared→Prop}{D:Ends}{f:Flow}{s':Shared} (ok:X.Ok) (h:SP (X.tryX (X.pn++pins) E) pins' D f s'):SP X pins D f s':=by
 cases f with
 | next=>obtain ⟨σ',H',I,q⟩:=h; exact ⟨σ',H',I.untryX ok,q⟩
 | brk=>obtain ⟨σ',H',I,q⟩:=h; exact ⟨σ',H',I.untryX ok,q⟩
 | cont=>obtain ⟨σ',H',I,q⟩:=h; exact ⟨σ',H',I.untryX ok,q⟩
 | ret u=>obtain ⟨v,σ',H',I,r,q⟩:=h; exact ⟨v,σ',H',I.untryX ok,r,q⟩
structure Clause where
 x:Str
 C:Addr
 np:Pos
 b0:Stmt
 rest:List Stmt
 pos:Pos
 t:TS
def Clause.h (c:Clause):ExceptHandler:=.ExceptHandler (some (.Name c.x c.np)) none (c.b0::c.rest) c.pos
theorem zB0 {M:Model}{A:Around}{E:Value→Shared→Prop}{K:Fg}{mg:MG}{x:Str}{C C2:Addr}{s:Shared}{e:Addr}{oe:Obj}{Q:Bool→Shared→Prop}{b:Bool} (kin:K.In s.heap) (c:ExcC K mg x C2)
  (he:s.heap.get? e=some oe) (hcls:oe.cls = .ref C) (ne:PySem.W.mroIn K C (.ref C2)=some b) (hq:Q b s):wpAny M A (excMatches (.ref e) (.ref C2)) Q E s:=by
 obtain ⟨tl,N,nm,q,bs,hdct,sn,sub,ab,col,dd,k0,k1,k2,k3,k5,mN,hC,hN,hni,T⟩:=(c.own kin).obj
 have hbase:tl.contains (.type "BaseException")=true:=T.hasType PySem.F.excBase_Exception.hasBase
 have hcB:(Value.ref C2::tl).contains (.type "BaseException")=true:=by rw [List.contains_cons,hbase,Bool.or_true]
 have f:=tc_notTuple
 have lk:=PySem.W.looks_mroIn (M:=M) kin ne
 obtain ⟨hp,g,d,tk,os⟩:=s
 unfold excMatches
 repeat (first | (with_reducible refine wpAny_loadPart_at he ?_; rw [hcls]) | with_reducible refine wpAny_loadPart_at hC ?_ | (with_reducible refine wpAny_isSubtype_exc hC ?_; first | rw [hcB]) | wp_step)
 refine PySem.W.Looks.here lk ?_
 cases b <;> (wp_walk; exact hq)
theorem Inv.over {X:Cx}{pins:List (Addr×Obj)}{σ:St}{H:Hp}{s:Shared}{B h2:Heap} (I:Inv X pins σ H s) (hx:X.ex=[]) (kb:B.StaysIn s.heap) (kb2:B.StaysIn h2) (sm:s.heap.UpToSlots h2)
  (all:∀ b o,X.s_0.heap.get? b=some o→b∉X.fs→∃ ob,B.get? b=some ob) (tr:∀ b o,H b=some o→∃ ob,B.get? b=some ob) (hpn:∀ p∈X.pn++pins,B.get? p.1=some p.2) :
  Inv X pins σ H { s with heap:=h2 }:=by
 have ub:=I.base
 have cellK:∀ c v,s.heap.IsCell c v→h2.IsCell c v:=fun c v ⟨o,ho,hd⟩=>by
  obtain ⟨q,e⟩:=sm c o ho fun vs z=>by rw [hd] at z; cases z
  exact ⟨_,e,hd⟩
 have kp:∀ b o,X.s_0.heap.get? b=some o→X.H_0 b=none→b∉X.fs→h2.get? b=some o:=fun b o e n hb=>by
  have e1:=ub.keep b o e n hb (by rw [hx]; simp)
  obtain ⟨ob,z⟩:=all b o e hb
  have z1:=kb b ob z
  rw [e1] at z1
  cases z1
  exact kb2 b o z
 have sl:∀ b o,X.s_0.heap.get? b=some o→X.H_0 b=none→b∈X.fs→∃ q,h2.get? b=some { o with slots:=q }:=fun b o e n hb=>by
  obtain ⟨q,e1⟩:=ub.slot b o e n hb (by rw [hx]; simp)
  obtain ⟨_,o3,ho3,nf⟩:=I.ok.funs.mem hb
  rw [e] at ho3
  cases ho3
  obtain ⟨q2,e2⟩:=sm b _ e1 nf
  exact ⟨q2,e2⟩
 refine ⟨I.ok,I.os,I.bare,⟨fun b o e n hb _=>kp b o e n hb,fun b o e n hb _=>sl b o e n hb,ub.free,fun b o e _=>?_,ub.tups,ub.frzs,ub.tbls⟩,?_,fun x c e=>?_,I.free,I.freeC,fun p hp=>?_,zGc I.hok kb kb2 tr,I.len⟩
 ·by_cases hb:b∈X.fs
  ·obtain ⟨q,z⟩:=sl b o e (I.ok.frf b hb) hb
   exact ⟨_,z⟩
  ·obtain ⟨ob,z⟩:=all b o e hb
   exact ⟨ob,kb2 b ob z⟩
 ·obtain ⟨m,hn,hl⟩:=I.loc
  refine ⟨m,sm.ns hn,fun i x v e1 e2 e3=>?_⟩
  obtain ⟨u,r,l⟩:=hl i x v e1 e2 e3
  refine ⟨u,r,?_⟩
  rcases l with l | ⟨k,c,e,z⟩
  ·exact .inl l
  ·exact .inr ⟨k,c,e,cellK c _ z⟩
 ·obtain ⟨v,z⟩:=I.cell x c e
  exact ⟨v,cellK c v z⟩
 ·obtain ⟨_,n,ne,nf,d⟩:=I.pin p hp
  exact ⟨kb2 _ _ (hpn p hp),n,ne,nf,d⟩
theorem zDE {X:Cx}{pins:List (Addr×Obj)}{σ:St}{H:Hp}{B:Heap}{ea C:Addr}{a0:Value}{D:Ends} (hx:X.ex=[]) (post:List Clause) (c:Clause) (hxe:X.xe=fun _ _=>False)
  (all:∀ b o,X.s_0.heap.get? b=some o→b∉X.fs→∃ ob,B.get? b=some ob) (tr:∀ b o,H b=some o→∃ ob,B.get? b=some ob) (hpn:∀ p∈X.pn++pins,B.get? p.1=some p.2)
  (hit:PySem.W.mroIn X.K C (.ref c.C)=some true) (hq:c.t D σ H) (hs:PSs (X.inX (.ref ea)) (c.b0::c.rest) c.t):∀ (pre:List Clause) (s:Shared),
  (∀ d∈pre++c::post,ExcC X.K X.mg d.x d.C∧Gl X d.x∧(d.x == ("__debug__":Str))=false)→(∀ d∈pre,PySem.W.mroIn X.K C (.ref d.C)=some false)→Inv X pins σ H s→Heap.FlyingW B X.stack ea (.ref C) a0 s.heap →
  wpAny (model X.prog X.w) X.A (handleBy (.ref ea) X.env ((pre++c::post).map Clause.h)) (SP X pins D) X.xe s
 | [],s,hd,_,I,fl=>by
  obtain ⟨hc,hg,hdb⟩:=hd c (by simp)
  obtain ⟨ob,hob,hobc⟩:=fl.there
  refine wpAny_handleBy_cons (codeAny_handlers_test (zCP (I.inX (.ref ea)) hg hc.at_ ?_ hdb)) (by intro q; cases q)
  refine zB0 I.kIn hc hob hobc hit ?_
  refine codeAny_handlers_suite ?_
  refine lands_againW fl fun h2 f2 sm=>?_
  have I2:=(I.over hx fl.1 f2.1 sm all tr hpn).inX (.ref ea)
  have w0:=hs pins { s with heap:=h2 } σ H D I2 hq
  refine wpAny_mono w0 (fun f s3 q=>q.outX I.ok) fun e s3 q=>?_
  have q':X.xe e s3:=q
  rw [hxe] at q'
  exact q'.elim
 | d::pre,s,hd,hn,I,fl=>by
  obtain ⟨hc,hg,hdb⟩:=hd d (by simp)
  obtain ⟨ob,hob,hobc⟩:=fl.there
  refine wpAny_handleBy_cons (codeAny_handlers_test (zCP (I.inX (.ref ea)) hg hc.at_ ?_ hdb)) (by intro q; cases q)
  refine zB0 I.kIn hc hob hobc (hn d (by simp)) ?_
  exact zDE hx post c hxe all tr hpn hit hq hs pre s (fun d' h'=>hd d' (List.mem_cons_of_mem _ h')) (fun d' h'=>hn d' (List.mem_cons_of_mem _ h')) I fl
theorem ps_try {X:Cx}{EE:XK}{e:Expr}{te:TE}{c0:Clause}{cs:List Clause}{rpos pos:Pos} (hx:X.ex=[]) (hstk:X.stack=X.env::X.outer) (hfrm:X.env.frame=some X.env.locals) (hxe:X.xe=fun _ _=>False)
  (hc:∀ d∈c0::cs,ExcC X.K X.mg d.x d.C∧Gl X d.x∧(d.x == ("__debug__":Str))=false) (hs:∀ d∈c0::cs,∀ ea,PSs (X.inX (.ref ea)) (d.b0::d.rest) d.t)
  (he:∀ (pn:List (Addr×Obj)) (E:Value→Shared→Prop),zBX (CXE X.prog X.w) (X.tryX pn E) EE→PE (X.tryX pn E) e te) :
  PS X (.Try [.Return (some e) rpos] (c0.h::cs.map Clause.h) [] [] pos) (fun D σ H=>te σ H D.rt∧∀ C H',EE (.ref C) none H'→∃ pre c post,c0::cs=pre++c::post∧(∀ d∈pre,PySem.W.mroIn X.K C (.ref d.C)=some false)∧PySem.W.mroIn X.K C (.ref c.C)=some true∧∀ σ',c.t D σ' H'):=by
 intro pins s σ H D I h
 obtain ⟨h1,h2⟩:=h
 refine wpAny_Try_except ?_
 let E2:Value→Shared→Prop:=fun e s₁=>wpAny (model X.prog X.w) X.A (noteFrame e X.env) (fun _ s₂=>wpAny (model X.prog X.w) X.A (setFlight e none) (fun _ s₃=>wpAny (model X.prog X.w) X.A (handleBy e X.env (c0.h::cs.map Clause.h)) (SP X pins D) X.xe s₃) X.xe s₂) X.xe s₁
 have ps:zBX (CXE X.prog X.w) (X.tryX (X.pn++pins) E2) EE:=by
  intro pins' σ' H1 s1 e1 s2 I1 hx1
  obtain ⟨ea,C,a0,B,H',rfl,fl,kp,all,tr,ho,hg,u,ok,hE⟩:=hx1
  have I2:Inv (X.tryX (X.pn++pins) E2) pins' σ' H' s2:=I1.call' (ch:=[]) ho u ok hg (fun _ z=>nomatch z)
  have I3:Inv X pins σ' H' s2:=I2.untryX I.ok
  obtain ⟨pre,c,post,ec,hn,hit,hq⟩:=h2 C H' hE
  have ub:Un X.fs X.ex X.H_0 H1 X.s_0.heap s1.heap:=I1.base
  have notin:∀ b,b < X.s_0.heap.objs.size→b∉X.fs→b∉frs X.stack:=fun b lt hb hm=>(List.mem_cons.mp (I.stkSub b hm)).elim (fun z=>Nat.ne_of_lt (Nat.lt_of_lt_of_le lt I.ok.above) z) hb
  have all2:∀ b o,X.s_0.heap.get? b=some o→b∉X.fs→∃ ob,B.get? b=some ob:=fun b o e hb=>by
   obtain ⟨o',e1⟩:=ub.there b o e (by rw [hx]; simp)
   exact all b o' e1 (notin b (Heap.lt_size e) hb)
  have pn2:∀ p∈X.pn++pins,B.get? p.1=some p.2:=fun p hp=>by
   obtain ⟨e1,n,ne,nf,d⟩:=I1.pin p (List.mem_append_left _ hp)
   exact kp p.1 p.2 e1 n fun hm=>(List.mem_cons.mp (I.stkSub _ hm)).elim ne nf
  have fl2:=fl
  have fl2:Heap.FlyingW B X.stack ea (.ref C) a0 s2.heap:=fl
  rw [hstk] at fl2
  show E2 _ _
  refine wpAny_looks_onW (I.ok.frames.trans (by rw [hstk])) hfrm fl2 fun h4 f4 sm4=>?_
  refine wpAny_landsW f4 fun h5 f5 sm5=>?_
  have I5:=I3.over hx fl.1 f5.1 (sm4.trans sm5) all2 tr pn2
  rw [←hstk] at f5
  have ee:c0.h::cs.map Clause.h=(pre++c::post).map Clause.h:=by rw [←ec]; rfl
  rw [ee]
  exact zDE hx post c hxe all2 tr pn2 hit (hq σ') (hs c (by rw [ec]; simp) ea) pre _ (fun d hd=>hc d (by rw [ec]; exact hd)) hn I5 f5
 have pb:=he _ E2 ps
 have pr:PSs (X.tryX (X.pn++pins) E2) [.Return (some e) rpos] (tRet te):=zAF (zAQ pb)
 refine wpAny_mono (pr [] s σ H D (I.tryX E2) h1) (fun f s1 q=>?_) fun e1 s1 q=>q
 have q2:=q.untryX I.ok
 cases f with
 | next=>exact wpAny_execs_nil q2
 | brk=>exact q2
 | cont=>exact q2
 | ret u=>exact q2
end L2
namespace L2
open PySem PySem.Spec PyProof.Rows
theorem zG6 (l:Addr) (its:Array Value) (n:Nat) (b:Addr) (its2:Array Value) (n2:Nat) (dd:Option Addr) (sl:Array (Option Value)) (k0:¬(!its.isEmpty && Builtin.List.listTooLong (its.size+its2.size))=true) (k1:its.size≤sizeLine) (k2:its.size+its2.size≤sizeLine+1) :
  Meets (Builtin.«list.extend» ⟨[.ref l,.ref b],[]⟩) (fun _ R s=>s.heap.get? l=some { cls:=.type "list",dict:=none,data:=.seq its n,slots:=#[] }∧s.heap.get? b=some { cls:=.type "tuple",dict:=dd,data:=.seq its2 n2,slots:=sl }∧R (.ok (.ret Value.none)) { s with heap:=s.heap.update l (Obj.mapSeq fun x=>x++its2),toks:=s.toks }) :=
 .of_wp fun prog w A R s h=>by
  obtain ⟨hp,g,d,tk,os⟩:=s
  obtain ⟨e1,e2,h⟩:=h
  have f1:=AutoSeq1.idx_int
  have f2:=AutoSeq1.sub_tuple_tuple
  have f3:=AutoSeq1.sub_list_list
  have f4:=AutoSeq1.sub_tuple_list
  have f5:=AutoSeq1.sub_list_tuple
  have z:(its++its2).size≤sizeLine+1:=by rw [Array.size_append]; exact k2
  wp_walk using (wpAny_updateSeq e1 rfl (hz:=k1) (_hz':=z)),AutoSeq1.wpAny_loadPart' e1,AutoSeq1.wpAny_loadPart' e2
  exact ⟨_,rfl,h⟩
section
variable {X:Cx}
def rExtendT (K:Fg):V→List V→Hp→VK→Prop:=fun x vs H Q=>∃ l b xs zs,x = .ref l∧vs=[.ref b]∧H l=some (.lst xs)∧SqT K H b zs∧xs.length+zs.length≤sizeLine∧Q .non (upd H l (.lst (xs++zs)))
theorem zCs:MtM X "list.extend" (rExtendT X.K):=by
 intro pins s σ H x vs v us Q I rx rv h
 obtain ⟨l,b,xs,zs,rfl,rfl,hH,hB,hz,q⟩:=h
 cases rx
 obtain ⟨u,rfl,ru⟩:=rv.one
 cases ru
 obtain ⟨z,its,n,r,hl,e⟩:=I.lstM hH
 obtain ⟨its2,r2,⟨⟨c2,d2,t2,sl2⟩,e2,hc2,n2,hd2⟩,z2⟩:=I.tuple hB
 simp only at hc2 hd2
 subst hc2
 subst hd2
 have hl2:=r2.length
 have hsz:its.toArray.size+its2.toArray.size≤sizeLine:=by rw [List.size_toArray,List.size_toArray]; omega
 have hlong:¬ (!its.toArray.isEmpty && Builtin.List.listTooLong (its.toArray.size+its2.toArray.size))=true:=by
  rw [zEg hsz,Bool.and_false]
  exact Bool.false_ne_true
 refine call_meets F.slot_list_extend ⟨_,e,rfl⟩ F.entry_list_extend (F.args_list_extend_2 _ _)
  (zG6 l its.toArray n b its2.toArray n2 d2 sl2 hlong (by rw [List.size_toArray]; omega) (by omega)) ⟨e,e2,?_⟩
 refine ⟨.non,_,I.lset (its':=its++its2) hH e (by simp) (r.append r2) ?_,rfl,q⟩
 rw [List.length_append]
 omega
def rInsert:V→List V→Hp→VK→Prop:=fun x vs H Q=>∃ (l:Addr) (xs:List V) (i:Nat) (y:V),x = .ref l∧vs=[.int (i:Nat),y]∧H l=some (.lst xs)∧i≤xs.length∧xs.length < sizeLine∧Q .non (upd H l (.lst (xs.take i++y::xs.drop i)))
theorem mt_insert:MtM X "list.insert" rInsert:=by
 intro pins s σ H x vs v us Q I rx rv h
 obtain ⟨l,xs,i,y,rfl,rfl,hH,hi,hz,q⟩:=h
 cases rx
 obtain ⟨u,uy,rfl,⟨t,rfl⟩,ry⟩:=rv.two
 obtain ⟨z,its,n,r,hl,e⟩:=I.lstM hH
 have sl:=sizeLine_eq
 have p63:(2 ^ 63:Int)=9223372036854775808:=by decide
 have hj0:(0:Int)≤(i:Int):=by omega
 have hj1:(i:Int).toNat=i:=by omega
 have hj2:(i:Int) < 9223372036854775808:=by omega
 generalize ((i:Nat):Int)=j at hj0 hj1 hj2 ⊢
 have fits:Builtin.List.listFitsIndex j=true:=by
  unfold Builtin.List.listFitsIndex
  rw [p63,Bool.and_eq_true]
  exact ⟨decide_eq_true (by omega),decide_eq_true (by omega)⟩
 have fits2:¬(!Builtin.List.listFitsIndex j)=true:=by
  rw [fits]
  exact Bool.false_ne_true
 have hsz:its.toArray.size≤sizeLine:=by rw [List.size_toArray]; omega
 have M:=AutoSeq1.list_insert_list_int_val_1 l its.toArray n j t uy fits2 hsz
 refine call_meets F.slot_list_insert ⟨_,e,rfl⟩ F.entry_list_insert (F.args_list_insert_3 _ _ _) M ⟨e,?_⟩
 ·refine ⟨.non,_,I.lset (its':=its.take i++uy::its.drop i) hH e ?_ ((r.take i).append (.cons ry (r.drop i))) ?_,rfl,q⟩
  ·have k0:¬ (j < 0):=by omega
   have k1:min j.toNat its.toArray.size=i:=by simp; omega
   simp only [if_neg k0,k1]
   apply Array.ext'
   simp
   exact List.take_of_length_le (by rw [List.length_drop]; omega)
  ·rw [List.length_append,List.length_take,List.length_cons,List.length_drop]
   omega
theorem Dp.list_reads {pins:List (Addr×Obj)}{σ:St}{H:Hp}{s:Shared}{a:Addr}{xs:List V}{ds:List PyData} (I:Inv X pins σ H s) (h:SqL X.K H a xs) (hd:DpAll X.K H xs ds):∃ as,Reads s.heap (.ref a) (.list ds) as :=
 Dp.reads I (.list ds) (.ref a) (.ref a) (.lst h hd) rfl
def rNotInD (K:Fg):R2:=fun x y H Q=>∃ (p:Addr) (xs:List V) (d:PyData) (ds:List PyData),y = .ref p∧SqL K H p xs∧DpAll K H xs ds∧Dp K H x d∧SeqAt.shaped (.list ds)=true∧SeqAt.shaped d=true∧(∀ e∈ds,SeqAt.noMix e d=true)∧Q (.bl (!decide (countIn d ds≠0))) H
theorem zFC (hu:X.A.units+65 < cLine):OpR X (compareOp .NotIn) (rNotInD X.K):=by
 intro pins s σ H x y v u Q I rx ry h
 obtain ⟨p,xs,d,ds,rfl,hq,ha,hd,s1,s2,mx,q⟩:=h
 cases ry
 obtain ⟨as,r1⟩:=Dp.list_reads I hq ha
 obtain ⟨bs,r2⟩:=Dp.reads I d x v hd rx
 exact notIn_list_dataH r1 r2 s1 s2 hu mx ⟨.bl _,H,I,rfl,q⟩
def rIndexD (K:Fg):V→List V→Hp→VK→Prop:=fun x xs H Q=>∃ (a:Addr) (ys:List V) (y:V) (j:Nat) (d:PyData) (ds:List PyData),x=V.ref a∧xs=[y]∧SqL K H a ys∧DpAll K H ys ds∧Dp K H y d ∧
 (∀ e∈ds,SeqAt.shaped e=true)∧SeqAt.shaped d=true∧ys.Nodup∧(∃ a',ys[j]? = some (.ref a'))∧(∀ (m:Nat) e,ds[m]? = some e→PyData.eqv e d=decide (m=j))∧Q (.int (j:Nat)) H
theorem DpAll.get {K:Fg}{H:Hp}:∀ {vs:List V}{ds:List PyData}{m:Nat}{v:V},DpAll K H vs ds→vs[m]? = some v→∃ d,ds[m]? = some d∧Dp K H v d
 | _,_,_,_,.nil,e=>by simp at e
 | _,_,0,_,.cons h _,e=>by simp at e; subst e; exact ⟨_,rfl,h⟩
 | _,_,m+1,v,.cons _ t,e=>by
  obtain ⟨d,h1,h2⟩:=DpAll.get (m:=m) (v:=v) t (by simpa using e)
  exact ⟨d,by simpa using h1,h2⟩
theorem ref_of {a:Addr}{v:V} (r:RelV v (.ref a)):v = .ref a:=by
 cases v with
 | ref b=>cases r; rfl
 | non=>cases r
 | bl b=>cases r
 | int i=>obtain ⟨t,e⟩:=r; cases e
 | str i=>obtain ⟨t,e⟩:=r; cases e
 | byt i=>obtain ⟨t,e⟩:=r; cases e
 | flt i=>obtain ⟨t,e⟩:=r; cases e
 | ty i=>cases r
theorem mt_indexD (hu:X.A.in1.units+64 < cLine):MtR X "list.index" (rIndexD X.K):=by
 intro pins s σ H x xs v us Q I rx rxs h
 obtain ⟨a,ys,y,j,d,ds,rfl,rfl,hs,ha,hd,sh,s2,nd,⟨a',hz⟩,heq,q⟩:=h
 cases rx
 obtain ⟨uy,rfl,ry⟩:=rxs.one
 obtain ⟨its,rv,⟨⟨cls,dd,data,sl⟩,n,ho,hc,hdn,hd2⟩,hlen⟩:=I.list hs
 simp only at hc hd2
 subst hc
 subst hd2
 obtain ⟨u,hu',ru⟩:=rv.get hz
 cases ru
 obtain ⟨hjl,hje⟩:=List.getElem?_eq_some_iff.mp hu'
 have hvl:=rv.length
 have hj:j < its.toArray.size:=by simpa using hjl
 have hsl:=sizeLine_eq
 have key:∀ m u2,its[m]? = some u2→decide (u2=Value.ref a')=decide (m=j):=fun m u2 e=>by
  by_cases hm:m=j
  ·subst hm
   rw [hu'] at e
   cases e
   simp
  ·rw [decide_eq_false hm]
   refine decide_eq_false fun q2=>hm ?_
   subst q2
   have lm:m < ys.length:=by rw [hvl]; exact (List.getElem?_eq_some_iff.mp e).1
   obtain ⟨u3,e3,r3⟩:=rv.get (List.getElem?_eq_getElem lm)
   rw [e] at e3
   cases e3
   have e4:=ref_of r3
   exact nd_ix nd (show ys[m]? = some (.ref a') by rw [List.getElem?_eq_getElem lm,e4]) hz
 refine call_meets PySem.F.slot_list_index ⟨_,ho,rfl⟩ PySem.F.entry_list_index (PySem.F.args_list_index_2 _ _)
  (SeqAt.list_indexAt a its.toArray n dd sl uy (fun u2=>decide (u2=Value.ref a')) j hj (by omega) ?_ ?_) ⟨ho,fun u2 hu2=>?_,?_⟩
 ·have e1:its.toArray[j]=Value.ref a':=by simpa using hje
  rw [e1]
  exact decide_eq_true rfl
 ·intro m hm hmj
  have hml:m < its.length:=by simpa using hm
  have e1:its.toArray[m]=its[m]:=by simp
  rw [e1,key m its[m] (List.getElem?_eq_getElem hml)]
  exact decide_eq_false (Nat.ne_of_lt hmj)
 ·have hu3:u2∈its:=by simpa using hu2
  obtain ⟨m,hm,em⟩:=List.getElem_of_mem hu3
  have e1:its[m]? = some u2:=by rw [List.getElem?_eq_getElem hm,em]
  have lm:m < ys.length:=by omega
  obtain ⟨dm,hdm,hdp⟩:=ha.get (List.getElem?_eq_getElem lm)
  obtain ⟨u3,e3,r3⟩:=rv.get (List.getElem?_eq_getElem lm)
  rw [e1] at e3
  cases e3
  obtain ⟨as,q1⟩:=Dp.reads I dm _ u2 hdp r3
  obtain ⟨bs,q2⟩:=Dp.reads I d y uy hd ry
  have E1:=PySem.W.keq_at (A:=X.A) q1 q2 (sh dm (List.mem_of_getElem? hdm)) s2 hu
  rw [heq m dm hdm,←key m u2 e1] at E1
  exact E1
 ·exact ⟨.int (j:Nat),H,I.tok _,⟨_,rfl⟩,q⟩
theorem args_min3 (a b c:Value):argsOk "min" ⟨[a,b,c],[]⟩:=by unfold argsOk; kernel_rfl
theorem min3_walk {prog:Program}{w:World}{A:Around}{E:Value→Shared→Prop}{s:Shared}{a b c:Value}{Q:Value→Shared→Prop}
    (h:wpAny (model prog w) A.in1 (pyIter (.ref s.heap.objs.size)) (fun it s₂=>∃ I fp wr n P St bt,it = .ref I∧Walks prog w A.in1 I fp wr n P St∧St 0 s₂.heap∧(∀ b∈fp,b < s₂.heap.objs.size)∧0 < n∧CmpOf prog w A.in1 .Lt P bt ∧
      ∀ v h' tk,P (argBest bt (n - 1)) v→(∀ b o,b∉wr→s₂.heap.get? b=some o→h'.get? b=some o)→Q v { s₂ with heap:=h',toks:=tk }) E
      { s with heap:=s.heap.push { cls:=.type "tuple",data:=.seq #[a,b,c] } }) :
    wpAny (model prog w) A (call (.builtin "min") [a,b,c]) Q E s:=by
  have nm:(toString "min"++toString ".loop":String) = "min.loop":=by decide
  refine call_function_tree F.kind_min F.plain_min F.entry_min (args_min3 a b c) ?_
  show wpAny _ A.in1 (Builtin.Builtins.bindParams "min" ["key","default"] 0 ⟨[],[]⟩ >>= _) _ _ s
  refine wpAny_bind (wpAny_of_eq (a:=[none,none]) rfl ?_)
  show wpAny _ A.in1 (newTuple [a,b,c] >>= _) _ _ s
  refine wpAny_bind (wpAny_newObj_type ?_)
  refine wpAny_bind (wpAny_mono h (fun it s2 z=>?_) fun _ _ e=>e)
  obtain ⟨I,fp,wr,n,P,St,bt,rfl,W,st,lt,hn,cmp,hQ⟩:=z
  refine wpAny_bind (wpAny_newObj_type ?_)
  have nin:s2.heap.objs.size∉fp:=fun hm=>Nat.lt_irrefl _ (lt _ hm)
  rw [nm]
  refine wpAny_pure ⟨plainId_quiet F.plain_min_loop _,codeAny_min_loop_first W bt cmp s2.heap.objs.size nin hn (W.frame _ _ _ st fun b _ o e=>Heap.get?_push_of_some _ e) (Heap.get?_push_size _ rfl) fun v h' tk hP hk=>?_⟩
  exact hQ v h' tk hP fun b o hbw e=>hk b o hbw (Nat.ne_of_lt (Heap.lt_size e)) (Heap.get?_push_of_some _ e)
theorem min3_ints {prog:Program}{w:World}{A:Around}{E:Value→Shared→Prop}{s:Shared}{a b c:Int}{t u r:Tok}{Q:Value→Shared→Prop} (hh:A.handled=none)
  (h:∀ h' tk k,(∀ c o,s.heap.get? c=some o→h'.get? c=some o)→Q (.int (min a (min b c)) k) { s with heap:=h',toks:=tk }) :
  wpAny (model prog w) A (call (.builtin "min") [.int a t,.int b u,.int c r]) Q E s:=by
 have hT:(s.heap.push { cls:=.type "tuple",data:=.seq #[.int a t,.int b u,.int c r] }).IsTuple s.heap.objs.size (intItems #[(a,t),(b,u),(c,r)]):=⟨_,Heap.get?_push_size _ rfl,rfl,0,by simp [intItems]⟩
 refine min3_walk (wpAny_pyIter_tuple hT ?_)
 have hsz:(s.heap.push { cls:=.type "tuple",data:=.seq #[.int a t,.int b u,.int c r] }).objs.size=s.heap.objs.size+1:=Heap.size_push ..
 refine ⟨_,[_,s.heap.objs.size],[_],_,_,_,_,rfl,Walks.tuple (A:=A.in1) hh _ s.heap.objs.size (by rw [hsz]; exact Nat.ne_of_lt (Nat.lt_succ_self _)) (intItems #[(a,t),(b,u),(c,r)]),
  ⟨⟨_,Heap.get?_push_size _ rfl,rfl,rfl⟩,hT.push _⟩,fun x hx=>?_,by simp [intItems],CmpOf.ints_lt (numAt #[(a,t),(b,u),(c,r)]) (fun _ _=>intItems_at),fun v h' tk hP hk=>?_⟩
 ·show x < ((s.heap.push _).push _).objs.size
  rw [Heap.size_push,hsz]
  have hx2:x=s.heap.objs.size+1∨x=s.heap.objs.size:=by
   rw [hsz] at hx
   simpa using hx
  rcases hx2 with z | z
  ·rw [z]
   exact Nat.lt_succ_self _
  ·rw [z]
   exact Nat.lt_succ_of_lt (Nat.lt_succ_self _)
 ·have hold:∀ c o,s.heap.get? c=some o→h'.get? c=some o:=fun x o e=>by
   refine hk x o (fun hm=>?_) (Heap.get?_push_of_some _ (Heap.get?_push_of_some _ e))
   have lt:=Heap.lt_size e
   rw [hsz] at hm
   have hm2:x=s.heap.objs.size+1:=by simpa using hm
   rw [hm2] at lt
   exact absurd lt (Nat.not_lt.mpr (Nat.le_succ _))
  have n3:(intItems #[(a,t),(b,u),(c,r)]).size - 1=2:=by simp [intItems]
  rw [n3] at hP
  have hv:∃ k,v=Value.int (min a (min b c)) k:=by
   by_cases h1:b < a
   ·by_cases h2:c < b
    ·have e:argBest (fun i j=>decide (numAt #[(a,t),(b,u),(c,r)] i < numAt #[(a,t),(b,u),(c,r)] j)) 2=2:=by simp [argBest,numAt,h1,h2]
     rw [e] at hP
     refine ⟨r,?_⟩
     have e2:min a (min b c)=c:=by omega
     rw [e2]
     simpa [intItems] using hP.symm
    ·have e:argBest (fun i j=>decide (numAt #[(a,t),(b,u),(c,r)] i < numAt #[(a,t),(b,u),(c,r)] j)) 2=1:=by simp [argBest,numAt,h1,h2]
     rw [e] at hP
     refine ⟨u,?_⟩
     have e2:min a (min b c)=b:=by omega
     rw [e2]
     simpa [intItems] using hP.symm
   ·by_cases h2:c < a
    ·have e:argBest (fun i j=>decide (numAt #[(a,t),(b,u),(c,r)] i < numAt #[(a,t),(b,u),(c,r)] j)) 2=2:=by simp [argBest,numAt,h1,h2]
     rw [e] at hP
     refine ⟨r,?_⟩
     have e2:min a (min b c)=c:=by omega
     rw [e2]
     simpa [intItems] using hP.symm
    ·have e:argBest (fun i j=>decide (numAt #[(a,t),(b,u),(c,r)] i < numAt #[(a,t),(b,u),(c,r)] j)) 2=0:=by simp [argBest,numAt,h1,h2]
     rw [e] at hP
     refine ⟨t,?_⟩
     have e2:min a (min b c)=a:=by omega
     rw [e2]
     simpa [intItems] using hP.symm
  obtain ⟨k,rfl⟩:=hv
  exact h h' tk k hold
theorem call_min3 (hc:X.calm=true):zDs X (.builtin "min") (fun xs H Q=>∃ i j k,xs=[.int i,.int j,.int k]∧Q (.int (min i (min j k))) H):=by
 intro pins s σ H xs us Q I r h
 obtain ⟨i,j,k,rfl,q⟩:=h
 cases r with
 | cons r1 r =>
  cases r with
  | cons r2 r =>
   cases r with
   | cons r3 r =>
    cases r
    obtain ⟨t1,rfl⟩:=r1
    obtain ⟨t2,rfl⟩:=r2
    obtain ⟨t3,rfl⟩:=r3
    exact min3_ints (I.ok.hd hc) fun h' tk k' kp=>⟨.int _,H,I.kept kp,⟨k',rfl⟩,q⟩
end
end L2
namespace L2
open PySem PySem.Spec PyProof.Rows
section
variable {prog:Program}{w:World}{A:Around}{E:Value→Shared→Prop}{s:Shared}
theorem zCN {it t:Addr}{i:Nat}{its:Array Value}{x:Value}{Q:Value→Shared→Prop} (st:s.heap.IsTupleIter it t i) (ht:s.heap.IsTuple t its) (hx:its[i]? = some x)
  (k:∀ h',h'.IsTupleIter it t (i+1)→Heap.SameBut it s.heap h'→Q x { s with heap:=h' }):wpAny (model prog w) A (Builtin.SmallTypes.nextOf (.ref it)) Q E s:=by
 obtain ⟨oi,ei,ci,di⟩:=id st
 obtain ⟨ot,et,_,nt,dt⟩:=ht
 unfold Builtin.SmallTypes.nextOf
 refine wpAny_bind (wpAny_callSpecial?_slot (name:=Str.ofString "__next__") st.typeIs F.slot_tuple_iterator_next
  (wpAny_call_entry F.slot_tuple_iterator_next st.typeIs F.entry_tuple_iterator_next ?_ (F.args_tuple_iterator_next_1 _)))
 show wpAny _ _ (field (.ref it) 0 >>= _) _ _ s
 refine wpAny_bind (wpAny_field ei di (x:=.ref t) rfl ?_)
 show wpAny _ _ (if (Value.ref t == Value.none)=true then _ else _) _ _ s
 rw [if_neg (show ¬ ((Value.ref t == Value.none)=true) from Bool.false_ne_true)]
 show wpAny _ _ (field (.ref it) 1 >>= _) _ _ s
 refine wpAny_bind (wpAny_field ei di (x:=.int i 0) rfl ?_)
 show wpAny _ _ (seqItems? (.ref t) >>= _) _ _ s
 refine wpAny_bind (wpAny_seqItems et dt ?_)
 simp only [Int.toNat_natCast,hx]
 refine wpAny_bind (wpAny_setField ei di (by simp) (wpAny_pure ⟨x,rfl,wpAny_pure (k _ ?_ (Heap.SameBut.update ..))⟩))
 exact ⟨_,Heap.get?_update_self _ ei (Obj.isFreed_of_fields (Obj.data_mapFields di _)),(Obj.cls_mapFields ..).trans ci,by
  rw [Obj.data_mapFields di]; simp [rawInt]⟩
theorem zCp {it t:Addr}{i:Nat}{its:Array Value}{Q:Value→Shared→Prop} (hh:A.handled=none) (st:s.heap.IsTupleIter it t i) (ht:s.heap.IsTuple t its) (hx:its[i]? = none)
  (k:∀ h' e,Heap.ExtBut it s.heap h'→(∃ o,h'.get? e=some o∧o.cls = .type "StopIteration")→E (.ref e) { s with heap:=h' }):wpAny (model prog w) A (Builtin.SmallTypes.nextOf (.ref it)) Q E s:=by
 obtain ⟨oi,ei,ci,di⟩:=id st
 obtain ⟨ot,et,_,nt,dt⟩:=ht
 unfold Builtin.SmallTypes.nextOf
 refine wpAny_bind (wpAny_callSpecial?_slot (name:=Str.ofString "__next__") st.typeIs F.slot_tuple_iterator_next
  (wpAny_call_entry F.slot_tuple_iterator_next st.typeIs F.entry_tuple_iterator_next ?_ (F.args_tuple_iterator_next_1 _)))
 show wpAny _ _ (field (.ref it) 0 >>= _) _ _ s
 refine wpAny_bind (wpAny_field ei di (x:=.ref t) rfl ?_)
 show wpAny _ _ (if (Value.ref t == Value.none)=true then _ else _) _ _ s
 rw [if_neg (show ¬ ((Value.ref t == Value.none)=true) from Bool.false_ne_true)]
 show wpAny _ _ (field (.ref it) 1 >>= _) _ _ s
 refine wpAny_bind (wpAny_field ei di (x:=.int i 0) rfl ?_)
 show wpAny _ _ (seqItems? (.ref t) >>= _) _ _ s
 refine wpAny_bind (wpAny_seqItems et dt ?_)
 simp only [Int.toNat_natCast,hx]
 refine wpAny_bind (wpAny_rule (wpAny_bind (wpAny_setField ei di (by simp) ?_)))
 first | refine wpAny_bind (wpAny_letGo ?_) | skip
 show wpAny _ _ (newExc (.type "StopIteration") [] >>= _) _ _ _
 refine wpAny_bind ?_
 simp only [newExc,newTuple]
 refine wpAny_bind (wpAny_newObj_type ?_ (by size_fits))
 refine wpAny_bind (m:=firstArgMember _ _) (wpAny_of_eq (a:=Value.none) (by first | rfl | (simp only [firstArgMember]; rfl)) ?_)
 refine wpAny_newObj_type ?_ (by size_fits)
 simp only [raiseNew]
 refine wpAny_bind (wpAny_handled ?_)
 first | rw [show A.in1.handled=none from hh] | rw [hh]
 refine wpAny_bind (wpAny_pure (wpAny_throw ?_))
 exact k _ _ (((Heap.SameBut.update ..).extBut.push _).push _) ⟨_,Heap.get?_push_size _ rfl,rfl⟩
end
theorem draws_tup {prog:Program}{w:World}{A:Around} (hh:A.handled=none) (it t:Addr) (hne:t≠it) (its:Array Value) :
  Draws prog w A it [it,t] its.size (fun i v=>its[i]? = some v) (fun i h=>h.IsTupleIter it t i∧h.IsTuple t its) where
 live:=fun _ _ st=>let ⟨o,ho,_⟩:=st.1; ⟨o,ho⟩
 frame:=fun _ _ _ st hk=>⟨(let ⟨o,ho,r⟩:=st.1; ⟨o,hk it (by simp) o ho,r⟩),(let ⟨o,ho,r⟩:=st.2; ⟨o,hk t (by simp) o ho,r⟩)⟩
 item:=fun i s Q E hi st hQ=>by
  refine zCN st.1 st.2 (x:=its[i]) (by simp [hi]) fun h' st' sb=>?_
  exact hQ _ h' s.toks (by simp [hi]) ⟨st',st.2.extBut sb.extBut hne⟩ sb
 done:=fun s Q E st hE=>zCp hh st.1 st.2 (by simp) hE
theorem zFp (l:Addr) (its:Array Value) (n:Nat) (dd:Option Addr) (sl:Array (Option Value)) :
  Meets (Builtin.«enumerate.__new__» ⟨[.type "enumerate",.ref l],[]⟩) (fun _ R s=>s.heap.get? l=some { cls:=.type "tuple",dict:=dd,data:=.seq its n,slots:=sl } ∧
   R (.ok (.ret (.ref (s.heap.push { cls:=.type "tuple_iterator",data:=.fields #[.ref l,.int 0 0] }).objs.size)))
    { s with heap:=(s.heap.push { cls:=.type "tuple_iterator",data:=.fields #[.ref l,.int 0 0] }).push { cls:=.type "enumerate",data:=.fields #[.none,.bool false,.ref s.heap.objs.size,rawInt 0,.none,.none] } }) :=
 .of_wp fun prog w A R s h=>by
  obtain ⟨hp,g,d,tk,os⟩:=s
  obtain ⟨e1,h⟩:=h
  have f0:=sub_enumerate
  have hL:Heap.IsTuple (Shared.heap ⟨hp,g,d,tk,os⟩) l its:=⟨_,e1,rfl,n,rfl⟩
  wp_walk using AutoSeq1.wpAny_loadPart' e1
  refine wpAny_stack_any fun st=>wpAny_pure ?_
  split
  ·rename_i c _ _ _ _ _
   cases (c == Value.type "enumerate")
   ·wp_walk using AutoSeq1.wpAny_loadPart' e1,wpAny_pyIter_tuple hL
    exact ⟨_,rfl,h⟩
   ·wp_walk using AutoSeq1.wpAny_loadPart' e1,wpAny_pyIter_tuple hL
    exact ⟨_,rfl,h⟩
  ·wp_walk using AutoSeq1.wpAny_loadPart' e1,wpAny_pyIter_tuple hL
   exact ⟨_,rfl,h⟩
theorem zHG {prog:Program}{w:World}{A:Around}{E:Value→Shared→Prop}{s:Shared}{l:Addr}{its:Array Value}{Q:Value→Shared→Prop} (hL:s.heap.IsTuple l its)
    (h:∀ h',IsEnum h' (s.heap.objs.size+1) s.heap.objs.size 0 .none→h'.IsTupleIter s.heap.objs.size l 0→h'.objs.size=s.heap.objs.size+2 →
      (∀ b o,s.heap.get? b=some o→h'.get? b=some o)→Q (.ref (s.heap.objs.size+1)) { s with heap:=h' }) :
    wpAny (model prog w) A (call (.type "enumerate") [.ref l]) Q E s:=by
  obtain ⟨⟨c,dct,dt,sl⟩,e1,hc,n,hd⟩:=hL
  replace hc:c = .type "tuple":=hc
  replace hd:dt = .seq its n:=hd
  subst hc hd
  refine callType_new F.called_enumerate (by decide) (F.typeCall_enumerate_1 _) (F.newCall_enumerate_1 _) (fun obj=>F.args_object_init_2 obj _) F.entry_enumerate_new
    (zFp l its n dct sl) ⟨e1,?_⟩
  have hz:(s.heap.push { cls:=.type "tuple_iterator",data:=.fields #[.ref l,.int 0 0] }).objs.size=s.heap.objs.size+1:=Heap.size_push ..
  show _∧_
  rw [hz]
  have he:IsEnum ((s.heap.push { cls:=.type "tuple_iterator",data:=.fields #[.ref l,.int 0 0] }).push
      { cls:=.type "enumerate",data:=.fields #[.none,.bool false,.ref s.heap.objs.size,rawInt 0,.none,.none] }) (s.heap.objs.size+1) s.heap.objs.size 0 .none:=by
    have z:=Heap.get?_push_size (s.heap.push { cls:=.type "tuple_iterator",data:=.fields #[.ref l,.int 0 0] })
      (o:={ cls:=.type "enumerate",data:=.fields #[.none,.bool false,.ref s.heap.objs.size,rawInt 0,.none,.none] }) rfl
    rw [hz] at z
    exact z
  refine ⟨⟨_,he,rfl⟩,h _ he ⟨_,Heap.get?_push_of_some _ (Heap.get?_push_size _ rfl),rfl,rfl⟩ (by rw [Heap.size_push,hz]) fun b o x=>Heap.get?_push_of_some _ (Heap.get?_push_of_some _ x)⟩
def Itet (K:Fg) (a:Addr):It :=
 ⟨fun i H=>∃ (xs:List V) (x:V),SqT K H a xs∧xs[i]? = some x,fun i H v H'=>∃ T x,v = .ref T∧H T=none∧H' = upd H T (.tup [.int (i:Nat),x])∧∀ xs,SqT K H a xs→xs[i]? = some x,fun i H=>∃ xs:List V,SqT K H a xs∧xs.length≤i⟩
theorem zGw {P:Program}{w:World}{K:Fg}{elts:List Expr}{kk:Nat}{tpos:Pos} (a e it:Addr) (hae:a≠e) (hai:a≠it) :
  Turn P w K (.Tuple elts kk tpos) (Itet K a) [e,it] e (fun i h=>(∃ old,IsEnum h e it ((i:Nat):Int) old)∧h.IsTupleIter it a i∧e≠it) where
 mem:=by simp
 obj:=fun i h st b hb=>by
  obtain ⟨⟨old,he⟩,⟨o,ho,hc,hd⟩,_⟩:=st
  have e':b=e∨b=it:=by simpa using hb
  rcases e' with z | z
  ·rw [z]; exact ⟨_,he,fun v q=>nomatch q⟩
  ·rw [z]; exact ⟨o,ho,fun v q=>by rw [hd] at q; cases q⟩
 keep:=fun i h h' st k=>let ⟨⟨old,he⟩,⟨o,ho,r⟩,hne⟩:=st; ⟨⟨old,k e (by simp) _ he⟩,⟨o,k it (by simp) o ho,r⟩,hne⟩
 item:=by
  intro X hP hw hK hc i pins s σ H E I hf st hg
  subst hP hw hK
  obtain ⟨⟨old,he⟩,hit,hne⟩:=st
  obtain ⟨xs,x,hq,hx⟩:=hg
  obtain ⟨its,rv,p,hz⟩:=I.tuple hq
  obtain ⟨u,hu,ru⟩:=rv.get hx
  have hel:e < s.heap.objs.size:=Heap.lt_size he
  have hil:it < s.heap.objs.size:=by obtain ⟨_,q,_⟩:=hit; exact Heap.lt_size q
  have hui:its.toArray[i]? = some u:=by simpa using hu
  have hlt:i < its.toArray.size:=(Array.getElem?_eq_some_iff.mp hui).1
  have D:=draws_tup (prog:=X.prog) (w:=X.w) (A:=X.A.in1) (I.ok.hd hc) it a hai its.toArray
  refine wpAny_pyNext_enum_itemD D he ⟨hit,p⟩ hlt hne (by simp [hne,Ne.symm hae]) fun y h' tk hP ho st' hT hsz hk=>?_
  have ey:y=u:=by
   have hP':its.toArray[i]? = some y:=hP
   rw [hui] at hP'
   exact (Option.some.inj hP').symm
  subst ey
  refine ⟨_,rfl,wpAny_letOwnedTupleGo_enum (s:={ s with heap:=h',toks:=tk+1 }) ho fun h'' he' sb=>?_⟩
  have hT2:h''.get? s.heap.objs.size=some { cls:=.type "tuple",data:=.seq #[.int i tk,y] }:=(sb.2 _ (Nat.ne_of_gt hel)).trans hT
  have new:ObjOk X.prog X.w (upd H s.heap.objs.size (.tup [.int (i:Nat),x])) h'' s.heap.objs.size (.tup [.int (i:Nat),x]) :=
   ⟨by show 2≤sizeLine; decide,[.int i tk,y],.cons ⟨_,rfl⟩ (.cons ru .nil),⟨_,hT2,rfl,_,rfl⟩⟩
  have I1:Inv X pins σ (upd H s.heap.objs.size (.tup [.int (i:Nat),x])) { s with heap:=h'',toks:=tk+1 } :=
   I.turnedNew (ch:=[e,it]) (fun b ob hb q=>(sb.2 b (fun z=>hb (by simp [z]))).trans (hk b ob (fun z=>hb (by simp [z])) (fun z=>hb (by simp [z])) q)) hf (Nat.le_refl _) new
  refine ⟨.ref s.heap.objs.size,_,I1,rfl,⟨_,x,rfl,I.hok.fresh (Nat.le_refl _),rfl,fun ys hy=>by rw [I.tuple_inj hy hq]; exact hx⟩,⟨⟨y,?_⟩,?_,hne⟩,fun b hb=>?_⟩
  ·have e1:((i+1:Nat):Int)=(i:Int)+1:=by omega
   rw [e1]; exact he'
  ·obtain ⟨o,q,r⟩:=st'.1
   exact ⟨o,(sb.2 it (Ne.symm hne)).trans q,r⟩
  ·have hb':b < s.heap.objs.size:=by
    have e':b=e∨b=it:=by simpa using hb
    rcases e' with z | z
    ·rw [z]; exact hel
    ·rw [z]; exact hil
   rw [zAG (Nat.ne_of_lt hb')]
   exact (hf b hb).1
 done:=by
  intro X hP hw hK hc i pins s σ H E I hf st hg
  subst hP hw hK
  obtain ⟨⟨old,he⟩,hit,hne⟩:=st
  obtain ⟨xs,hq,hx⟩:=hg
  obtain ⟨its,rv,p,hz⟩:=I.tuple hq
  obtain ⟨f0,f1,f2,f3,f4,f5⟩:=hf it (by simp)
  have hl:=rv.length
  have hT:s.TypeIs (.ref e) "enumerate":=⟨_,he,rfl⟩
  unfold pyNext
  refine wpAny_bind (wpAny_attempt (wpAny_callSpecial?_slot (name:=Str.ofString "__next__") hT F.slot_enumerate_next
   (wpAny_call_entry F.slot_enumerate_next hT F.entry_enumerate_next ?_ (F.args_enumerate_next_1 _))))
  show wpAny _ _ (field (.ref e) 2 >>= _) _ _ _
  refine wpAny_bind (wpAny_field he rfl (x:=.ref it) rfl ?_)
  refine wpAny_bind (zCp (A:=X.A.in1) (I.ok.hd hc) hit (show s.heap.IsTuple a its.toArray from p) (by simp; omega) fun h' x eb hx'=>?_)
  obtain ⟨o,ho,hcl⟩:=hx'
  refine wpAny_bind (wpAny_isInstance (T:="StopIteration") (b:=true) ⟨o,ho,hcl⟩ isSubtype_stop ?_)
  exact wpAny_pure ⟨rfl,I.turned (t':=s.toks) (fun b o hb q=>eb b o hb q) f0 f1 f3 f4 f5⟩
 self:=fun A i s Q E st h=>let ⟨⟨_,he⟩,_⟩:=st; wpAny_pyIter_enum he h
def iEnumT (K:Fg) (ta:TA):TI:=fun σ H R=>ta σ H fun vs H1=>∃ a xs,vs=[.ref a]∧SqT K H1 a xs∧R (Itet K a) H1
theorem zCc {X:Cx}{e:Expr}{ta:TA}{p pos tpos:Pos}{elts:List Expr}{kk:Nat} (hg:Gl X "enumerate") (hm:X.mg "enumerate" = none) (ha:PA X [e] ta) (hs:starEach [e] X.env=[(false,eval e X.env)]:=by rfl) :
  PI X (.Tuple elts kk tpos) (.Call (.Name "enumerate" p) [e] [] pos) (iEnumT X.K ta):=by
 intro pins s σ H R I h
 refine Call_ (zDg I hg hm boot_enumerate (PyProof.Rows.callWith_type1 (thn (ha pos pins s σ H _ I h) fun us s1 ⟨vs,H1,I1,r1,q1⟩=>?_) hs rfl))
 obtain ⟨a,xs,ex,hq,q⟩:=q1
 subst ex
 obtain ⟨u,rfl,r⟩:=zGs r1
 cases r
 obtain ⟨its,rv,p',hz⟩:=I1.tuple hq
 have la:a < s1.heap.objs.size:=p'.lt
 refine zHG (show s1.heap.IsTuple a its.toArray from p') fun h' he hit hsz hk=>wpAny_pyIter_enum he ?_
 have I2:Inv X pins σ H1 { s1 with heap:=h' }:=I1.kept (t':=s1.toks) hk
 refine ⟨s1.heap.objs.size+1,[s1.heap.objs.size+1,s1.heap.objs.size],_,_,H1,rfl,I2,zGw a (s1.heap.objs.size+1) s1.heap.objs.size (Nat.ne_of_lt (Nat.lt_succ_of_lt la)) (Nat.ne_of_lt la),⟨⟨.none,he⟩,hit,Nat.succ_ne_self _⟩,fun b hb=>?_,q⟩
 have e':b=s1.heap.objs.size+1∨b=s1.heap.objs.size:=by simpa using hb
 have hle:s1.heap.objs.size≤b:=by
  rcases e' with z | z
  ·rw [z]; exact Nat.le_add_right _ _
  ·rw [z]; exact Nat.le_refl _
 exact I1.fpOk hle (I1.hok.fresh hle)
theorem zCh {K:Fg}{a:Addr}{xs:List V}{g:TG}{tb:TS}{D:Ends}{σ:St}{H:Hp} (Pv:Nat→St→Hp→Prop) (h0:Pv 0 σ H) (hl:∀ i σ H,i≤xs.length→Pv i σ H→SqT K H a xs)
  (hs:∀ i x σ H T,xs[i]? = some x→Pv i σ H→H T=none→g (.ref T) σ (upd H T (.tup [.int (i:Nat),x])) fun σ2 H2=>tb { D with nx:=Pv (i+1),ct:=Pv (i+1),bk:=D.nx } σ2 H2) (hd:∀ σ H,Pv xs.length σ H→D.nx σ H) :
  ∃ W:Nat→Nat→St→Hp→Prop,(∃ m,W 0 m σ H)∧∀ i m σ H,W i m σ H →
   ((Itet K a).stop i H∧D.nx σ H)∨((Itet K a).go i H∧∃ N:St→Hp→Prop,(∀ σ' H',N σ' H'→∃ m',m' < m∧W (i+1) m' σ' H')∧∀ x H',(Itet K a).yld i H x H'→g x σ H' fun σ2 H2=>tb { D with nx:=N,ct:=N,bk:=D.nx } σ2 H2):=by
 refine ⟨fun i m σ H=>i≤xs.length∧m=xs.length - i∧Pv i σ H,⟨_,Nat.zero_le _,rfl,h0⟩,fun i m σ H ⟨hi,hm,hp⟩=>?_⟩
 have hq:=hl i σ H hi hp
 by_cases he:i=xs.length
 ·subst he
  exact .inl ⟨⟨xs,hq,Nat.le_refl _⟩,hd σ H hp⟩
 ·have hlt:i < xs.length:=Nat.lt_of_le_of_ne hi he
  refine .inr ⟨⟨xs,xs[i],hq,List.getElem?_eq_getElem hlt⟩,Pv (i+1),fun σ' H' n=>⟨xs.length - (i+1),by omega,hlt,rfl,n⟩,fun x H' ⟨T,y,hv,hn,hH,hy⟩=>?_⟩
  subst hv
  subst hH
  exact hs i y σ H T (hy xs hq) hp hn
end L2
namespace L2
open PySem PySem.Spec PyProof.Rows
theorem lc_enumT {K:Fg}{a:Addr}{xs:List V}{g:TG}{tt:TT}{te:TE}{vs:List Nat}{σ:St}{H1:Hp}{D:Addr}{Qd:Hp→Prop} (Pv:Nat→Hp→Prop) (h0:Pv 0 (upd H1 D (.lst []))) (hl:∀ i H,i≤xs.length→Pv i H→SqT K H a xs)
    (hs:∀ i x H T,xs[i]? = some x→Pv i H→H T=none→g (.ref T) (wipe σ vs) (upd H T (.tup [.int (i:Nat),x])) fun σ2 H2=>wipe σ2 vs=wipe σ vs∧tt σ2 H2 fun b H3 =>
      if b=true then te σ2 H3 fun y H4=>∃ acc,H4 D=some (.lst acc)∧acc.length < sizeLine∧Pv (i+1) (upd H4 D (.lst (acc++[y]))) else Pv (i+1) H3) (hd:∀ H,Pv xs.length H→Qd H) :
    ∃ W:Nat→Nat→Hp→Prop,(∃ m,W 0 m (upd H1 D (.lst [])))∧∀ i m H,W i m H →
      ((Itet K a).stop i H∧Qd H)∨((Itet K a).go i H∧∃ Nx:Hp→Prop,(∀ H',Nx H'→∃ m',m' < m∧W (i+1) m' H')∧∀ x H',(Itet K a).yld i H x H'→g x (wipe σ vs) H' fun σ2 H2=>wipe σ2 vs=wipe σ vs∧tt σ2 H2 fun b H3 =>
        if b=true then te σ2 H3 fun y H4=>∃ acc,H4 D=some (.lst acc)∧acc.length < sizeLine∧Nx (upd H4 D (.lst (acc++[y]))) else Nx H3):=by
  refine ⟨fun i m H=>m=xs.length - i∧i≤xs.length∧Pv i H,⟨xs.length,by simp,Nat.zero_le _,h0⟩,?_⟩
  rintro i m H ⟨rfl,hi,p⟩
  have q:=hl i H hi p
  by_cases hlt:i < xs.length
  · refine .inr ⟨⟨xs,xs[i],q,by simp [hlt]⟩,Pv (i+1),fun H' p'=>⟨xs.length - (i+1),by omega,rfl,hlt,p'⟩,fun x H' ⟨T,y,hv,hn,hH,hy⟩=>?_⟩
    subst hv
    subst hH
    exact hs i y H T (hy xs q) p hn
  · have e:i=xs.length:=by omega
    subst e
    exact .inl ⟨⟨xs,q,Nat.le_refl _⟩,hd H p⟩
section
variable {prog:Program}{w:World}{A:Around}{E:Value→Shared→Prop}{s:Shared}
theorem zGq {z TI TO i1 i2 l1 l2:Addr}{k1 k2:Nat}{xs ys:Array Value}{x y a b:Value}{Q:Value→Shared→Prop} (D:ZipApart z TI TO i1 i2 l1 l2)
    (hz:IsZip s.heap z TI TO .none) (hTI:IsPair s.heap TI (.ref i1) (.ref i2)) (hTO:IsPair s.heap TO a b)
    (h1:s.heap.IsTupleIter i1 l1 k1) (h2:s.heap.IsListIter i2 l2 k2) (hl1:s.heap.IsTuple l1 xs) (hl2:s.heap.IsList l2 ys) (hx:xs[k1]? = some x) (hy:ys[k2]? = some y)
    (hQ:∀ h',IsZip h' z TI TO (rawInt s.heap.objs.size)→IsPair h' TO x y→h'.IsTupleIter i1 l1 (k1+1)→h'.IsListIter i2 l2 (k2+1)→IsPair h' s.heap.objs.size x y→h'.objs.size=s.heap.objs.size+1 →
      (∀ c o,c≠z→c≠TO→c≠i1→c≠i2→s.heap.get? c=some o→h'.get? c=some o)→Q (.ref s.heap.objs.size) { s with heap:=h' }) :
    wpAny (model prog w) A (Builtin.«zip.__next__» ⟨[.ref z],[]⟩) (fun fin s'=>∃ v,fin = .done (.ret v)∧Q v s') E s:=by
  show wpAny _ _ (field (.ref z) 2 >>= _) _ _ _
  refine wpAny_bind (wpAny_field hz rfl (x:=.bool false) rfl ?_)
  show wpAny _ _ (field (.ref z) 3 >>= _) _ _ _
  refine wpAny_bind (wpAny_field hz rfl (x:=.ref TI) rfl ?_)
  refine wpAny_bind (wpAny_seqItems hTI rfl ?_)
  show wpAny _ _ (Builtin.SmallTypes.ownedTupleIsFree (.ref z) >>= _) _ _ _
  refine wpAny_bind ?_
  unfold Builtin.SmallTypes.ownedTupleIsFree
  refine wpAny_bind (wpAny_field hz rfl (x:=.none) rfl (wpAny_pure ?_))
  simp only [if_true]
  refine wpAny_bind (wpAny_rule ?_)
  refine wpAny_bind (wpAny_field hz rfl (x:=.ref TO) rfl ?_)
  refine wpAny_bind (wpAny_setField_rec hz (by simp) fun g1 z1 b1=>?_)
  replace z1:IsZip g1 z TI TO .ellipsis:=z1
  refine wpAny_bind ?_
  simp only [List.zipIdx_cons,List.zipIdx_nil,List.forIn_cons,List.forIn_nil]
  refine wpAny_bind (wpAny_bind (wpAny_onRaise ?_))
  show wpAny _ _ (Builtin.SmallTypes.nextOf (.ref i1) >>= _) _ _ _
  refine wpAny_bind (zCN (h1.extBut b1.extBut D.i1z) (hl1.extBut b1.extBut D.l1z) hx fun g2 p2 b2=>wpAny_pure ?_)
  have t2:IsPair g2 TO a b:=b2.extBut _ _ D.TOi1 (b1.extBut _ _ D.TOz hTO)
  refine wpAny_bind (wpAny_seqItems t2 rfl ?_)
  refine wpAny_bind (wpAny_updateSeq_pair t2 fun g3 t3 b3=>?_)
  replace t3:IsPair g3 TO x b:=t3
  refine wpAny_bind (wpAny_letGo (wpAny_pure ?_))
  refine wpAny_bind (wpAny_bind (wpAny_onRaise ?_))
  show wpAny _ _ (Builtin.SmallTypes.nextOf (.ref i2) >>= _) _ _ _
  refine wpAny_bind (wpAny_nextOf_list_item (((h2.extBut b1.extBut D.i2z).extBut b2.extBut D.i12.symm).extBut b3.extBut D.TOi2.symm)
    (((hl2.extBut b1.extBut D.l2z).extBut b2.extBut D.l2i1).extBut b3.extBut D.l2TO) hy fun g4 p4 b4=>wpAny_pure ?_)
  have t4:IsPair g4 TO x b:=b4.extBut _ _ D.TOi2 t3
  refine wpAny_bind (wpAny_seqItems t4 rfl ?_)
  refine wpAny_bind (wpAny_updateSeq_pair t4 fun g5 t5 b5=>?_)
  replace t5:IsPair g5 TO x y:=t5
  refine wpAny_bind (wpAny_letGo (wpAny_pure (wpAny_pure ?_)))
  refine wpAny_bind (wpAny_seqItems t5 rfl ?_)
  refine wpAny_bind (wpAny_newTuple ?_)
  have sz:g5.objs.size=s.heap.objs.size:=by rw [b5.1,b4.1,b3.1,b2.1,b1.1]
  have z5:IsZip g5 z TI TO .ellipsis:=b5.extBut _ _ D.TOz.symm (b4.extBut _ _ D.i2z.symm (b3.extBut _ _ D.TOz.symm (b2.extBut _ _ D.i1z.symm z1)))
  have k5:∀ c o,c≠z→c≠TO→c≠i1→c≠i2→s.heap.get? c=some o→g5.get? c=some o:=fun c o c1 c2 c3 c4 e =>
    b5.extBut _ _ c2 (b4.extBut _ _ c4 (b3.extBut _ _ c2 (b2.extBut _ _ c3 (b1.extBut _ _ c1 e))))
  have p5:g5.IsTupleIter i1 l1 (k1+1):=((p2.extBut b3.extBut D.TOi1.symm).extBut b4.extBut D.i12).extBut b5.extBut D.TOi1.symm
  have q5:g5.IsListIter i2 l2 (k2+1):=p4.extBut b5.extBut D.TOi2.symm
  have zl:z < g5.objs.size:=Heap.lt_size z5
  show wpAny _ _ (Builtin.SmallTypes.ownedTupleHandOut (.ref z) (.ref g5.objs.size) >>= _) _ _ _
  refine wpAny_bind ?_
  unfold Builtin.SmallTypes.ownedTupleHandOut
  have z6:IsZip (g5.push { cls:=.type "tuple",data:=.seq #[x,y] }) z TI TO .ellipsis:=Heap.get?_push_of_some _ z5
  refine wpAny_bind (wpAny_setField_rec z6 (by simp) fun g7 z7 b7=>?_)
  replace z7:IsZip g7 z TI TO (rawInt g5.objs.size):=z7
  refine wpAny_setField_rec z7 (by simp) fun g8 z8 b8=>?_
  replace z8:IsZip g8 z TI TO (rawInt g5.objs.size):=z8
  have up:∀ c o,c≠z→g5.get? c=some o→g8.get? c=some o:=fun c o c1 e=>b8.extBut _ _ c1 (b7.extBut _ _ c1 (Heap.get?_push_of_some _ e))
  have t8:IsPair g8 g5.objs.size x y:=b8.extBut _ _ (Nat.ne_of_gt zl) (b7.extBut _ _ (Nat.ne_of_gt zl) (Heap.get?_push_size _ rfl))
  have s8:g8.objs.size=g5.objs.size+1:=by rw [b8.1,b7.1,Heap.size_push]
  rw [sz] at z8 t8 s8
  refine wpAny_pure ⟨_,rfl,?_⟩
  show Q (.ref g5.objs.size) _
  rw [sz]
  exact hQ g8 z8 (up _ _ D.TOz t5) (let ⟨o,e,r⟩:=p5; ⟨o,up _ o D.i1z e,r⟩) (q5.at fun o e=>up _ o D.i2z e) t8 s8 fun c o c1 c2 c3 c4 e=>up c o c1 (k5 c o c1 c2 c3 c4 e)
theorem zHH {z TI TO i1 i2 l1 l2:Addr}{k1 k2:Nat}{xs ys:Array Value}{a b:Value}{Q:Fin→Shared→Prop} (hh:A.handled=none) (D:ZipApart z TI TO i1 i2 l1 l2)
  (hz:IsZip s.heap z TI TO .none) (hTI:IsPair s.heap TI (.ref i1) (.ref i2)) (hTO:IsPair s.heap TO a b)
  (h1:s.heap.IsTupleIter i1 l1 k1) (h2:s.heap.IsListIter i2 l2 k2) (hl1:s.heap.IsTuple l1 xs) (hl2:s.heap.IsList l2 ys) (hend:xs[k1]? = none∨ys[k2]? = none)
  (hE:∀ h' e,(∀ c o,c≠z→c≠TO→c≠i1→c≠i2→s.heap.get? c=some o→h'.get? c=some o)→(∃ o,h'.get? e=some o∧o.cls = .type "StopIteration")→E (.ref e) { s with heap:=h' }) :
  wpAny (model prog w) A (Builtin.«zip.__next__» ⟨[.ref z],[]⟩) Q E s:=by
 show wpAny _ _ (field (.ref z) 2 >>= _) _ _ _
 refine wpAny_bind (wpAny_field hz rfl (x:=.bool false) rfl ?_)
 show wpAny _ _ (field (.ref z) 3 >>= _) _ _ _
 refine wpAny_bind (wpAny_field hz rfl (x:=.ref TI) rfl ?_)
 refine wpAny_bind (wpAny_seqItems hTI rfl ?_)
 show wpAny _ _ (Builtin.SmallTypes.ownedTupleIsFree (.ref z) >>= _) _ _ _
 refine wpAny_bind ?_
 unfold Builtin.SmallTypes.ownedTupleIsFree
 refine wpAny_bind (wpAny_field hz rfl (x:=.none) rfl (wpAny_pure ?_))
 simp only [if_true]
 refine wpAny_bind (wpAny_rule ?_)
 refine wpAny_bind (wpAny_field hz rfl (x:=.ref TO) rfl ?_)
 refine wpAny_bind (wpAny_setField_rec hz (by simp) fun g1 z1 b1=>?_)
 replace z1:IsZip g1 z TI TO .ellipsis:=z1
 refine wpAny_bind ?_
 simp only [List.zipIdx_cons,List.zipIdx_nil,List.forIn_cons,List.forIn_nil]
 refine wpAny_bind (wpAny_bind (wpAny_onRaise ?_))
 show wpAny _ _ (Builtin.SmallTypes.nextOf (.ref i1) >>= _) _ _ _
 cases hx:xs[k1]? with
 | none =>
  refine wpAny_bind (zCp hh (h1.extBut b1.extBut D.i1z) (hl1.extBut b1.extBut D.l1z) hx fun g2 e b2 he=>?_)
  obtain ⟨oe,hoe,hce⟩:=he
  have z2:IsZip g2 z TI TO .ellipsis:=b2 _ _ D.i1z.symm z1
  have ez:e≠z:=fun x=>by subst x; rw [z2] at hoe; cases hoe; simp at hce
  refine wpAny_setField_rec z2 (by simp) fun g3 _ b3=>hE g3 e (fun c o c1 _ c3 _ x=>b3.extBut _ _ c1 (b2 _ _ c3 (b1.extBut _ _ c1 x))) ⟨oe,b3.extBut _ _ ez hoe,hce⟩
 | some x =>
  have hy:ys[k2]? = none:=by
   rcases hend with h | h
   ·rw [hx] at h; cases h
   ·exact h
  refine wpAny_bind (zCN (h1.extBut b1.extBut D.i1z) (hl1.extBut b1.extBut D.l1z) hx fun g2 p2 b2=>wpAny_pure ?_)
  have t2:IsPair g2 TO a b:=b2.extBut _ _ D.TOi1 (b1.extBut _ _ D.TOz hTO)
  refine wpAny_bind (wpAny_seqItems t2 rfl ?_)
  refine wpAny_bind (wpAny_updateSeq_pair t2 fun g3 t3 b3=>?_)
  refine wpAny_bind (wpAny_letGo (wpAny_pure ?_))
  refine wpAny_bind (wpAny_bind (wpAny_onRaise ?_))
  show wpAny _ _ (Builtin.SmallTypes.nextOf (.ref i2) >>= _) _ _ _
  refine wpAny_bind (wpAny_nextOf_list_end hh (((h2.extBut b1.extBut D.i2z).extBut b2.extBut D.i12.symm).extBut b3.extBut D.TOi2.symm)
   (((hl2.extBut b1.extBut D.l2z).extBut b2.extBut D.l2i1).extBut b3.extBut D.l2TO) hy fun g4 e b4 he=>?_)
  obtain ⟨oe,hoe,hce⟩:=he
  have z4:IsZip g4 z TI TO .ellipsis:=b4 _ _ D.i2z.symm (b3.extBut _ _ D.TOz.symm (b2.extBut _ _ D.i1z.symm z1))
  have ez:e≠z:=fun x=>by subst x; rw [z4] at hoe; cases hoe; simp at hce
  refine wpAny_setField_rec z4 (by simp) fun g5 _ b5=>hE g5 e (fun c o c1 c2 c3 c4 x=>b5.extBut _ _ c1 (b4 _ _ c4 (b3.extBut _ _ c2 (b2.extBut _ _ c3 (b1.extBut _ _ c1 x))))) ⟨oe,b5.extBut _ _ ez hoe,hce⟩
abbrev zg1 (h:Heap) (l1:Addr):Heap:=h.push { cls:=.type "tuple_iterator",data:=.fields #[.ref l1,.int 0 0] }
abbrev zg2 (h:Heap) (l1 l2:Addr):Heap:=(zg1 h l1).push { cls:=.type "list_iterator",data:=.fields #[.ref l2,.int 0 0] }
abbrev zg3 (h:Heap) (l1 l2:Addr):Heap:=(zg2 h l1 l2).push { cls:=.type "tuple",data:=.seq #[.ref h.objs.size,.ref (zg1 h l1).objs.size] }
abbrev zg4 (h:Heap) (l1 l2:Addr):Heap:=(zg3 h l1 l2).push { cls:=.type "tuple",data:=.seq #[.none,.none] }
abbrev zg5 (h:Heap) (l1 l2:Addr):Heap:=(zg4 h l1 l2).push { cls:=.type "zip",data:=.fields #[.none,.bool false,.bool false,.ref (zg2 h l1 l2).objs.size,.ref (zg3 h l1 l2).objs.size] }
theorem zFo (l1 l2:Addr) (xs ys:Array Value) :
  Meets (Builtin.«zip.__new__» ⟨[.type "zip",.ref l1,.ref l2],[]⟩) (fun _ R s=>s.heap.IsTuple l1 xs∧s.heap.IsList l2 ys∧R (.ok (.ret (.ref (zg4 s.heap l1 l2).objs.size))) { s with heap:=zg5 s.heap l1 l2 }) :=
 .of_wp fun prog w A R s h=>by
  obtain ⟨hp,g,d,tk,os⟩:=s
  obtain ⟨e1,e2,h⟩:=h
  have f0:=sub_zip
  have L1:Heap.IsTuple (Shared.heap ⟨hp,g,d,tk,os⟩) l1 xs:=e1
  have L2':Heap.IsList (Shared.heap ⟨hp.push { cls:=.type "tuple_iterator",data:=.fields #[.ref l1,.int 0 0] },g,d,tk,os⟩) l2 ys:=Heap.IsList.push e2 _
  wp_walk using wpAny_pyIter_tuple L1,wpAny_pyIter_list L2'
  exact ⟨_,rfl,h⟩
theorem zHF {l1 l2:Addr}{xs ys:Array Value}{Q:Value→Shared→Prop} (e1:s.heap.IsTuple l1 xs) (e2:s.heap.IsList l2 ys)
    (h:∀ h',IsZip h' (s.heap.objs.size+4) (s.heap.objs.size+2) (s.heap.objs.size+3) .none→IsPair h' (s.heap.objs.size+2) (.ref s.heap.objs.size) (.ref (s.heap.objs.size+1)) →
      IsPair h' (s.heap.objs.size+3) .none .none→h'.IsTupleIter s.heap.objs.size l1 0→h'.IsListIter (s.heap.objs.size+1) l2 0 →
      (∀ c o,s.heap.get? c=some o→h'.get? c=some o)→Q (.ref (s.heap.objs.size+4)) { s with heap:=h' }) :
    wpAny (model prog w) A (call (.type "zip") [.ref l1,.ref l2]) Q E s:=by
  refine callType_new F.called_zip (by decide) (F.typeCall_zip_2 _ _) (F.newCall_zip_2 _ _) (fun obj=>F.args_object_init_3 obj _ _) F.entry_zip_new
    (zFo l1 l2 xs ys) ⟨e1,e2,?_⟩
  have n1:(zg1 s.heap l1).objs.size=s.heap.objs.size+1:=Heap.size_push ..
  have n2:(zg2 s.heap l1 l2).objs.size=s.heap.objs.size+2:=by rw [Heap.size_push,n1]
  have n3:(zg3 s.heap l1 l2).objs.size=s.heap.objs.size+3:=by rw [Heap.size_push,n2]
  have n4:(zg4 s.heap l1 l2).objs.size=s.heap.objs.size+4:=by rw [Heap.size_push,n3]
  have a5:(zg5 s.heap l1 l2).get? (zg4 s.heap l1 l2).objs.size=some _:=Heap.get?_push_size _ rfl
  have a4:(zg5 s.heap l1 l2).get? (zg3 s.heap l1 l2).objs.size=some _:=Heap.get?_push_of_some _ (Heap.get?_push_size _ rfl)
  have a3:(zg5 s.heap l1 l2).get? (zg2 s.heap l1 l2).objs.size=some _:=Heap.get?_push_of_some _ (Heap.get?_push_of_some _ (Heap.get?_push_size _ rfl))
  have a2:(zg5 s.heap l1 l2).get? (zg1 s.heap l1).objs.size=some _:=Heap.get?_push_of_some _ (Heap.get?_push_of_some _ (Heap.get?_push_of_some _ (Heap.get?_push_size _ rfl)))
  have a1:(zg5 s.heap l1 l2).get? s.heap.objs.size=some _:=Heap.get?_push_of_some _ (Heap.get?_push_of_some _ (Heap.get?_push_of_some _ (Heap.get?_push_of_some _ (Heap.get?_push_size _ rfl))))
  show _∧_
  rw [n2,n3,n4] at a5
  rw [n1,n2] at a3
  rw [n3] at a4
  rw [n1] at a2
  rw [n4]
  exact ⟨⟨_,a5,rfl⟩,h _ a5 a3 a4 ⟨_,a1,rfl,rfl⟩ ⟨_,a2,rfl,rfl⟩ fun c o e=>Heap.get?_push_of_some _ (Heap.get?_push_of_some _ (Heap.get?_push_of_some _ (Heap.get?_push_of_some _ (Heap.get?_push_of_some _ e))))⟩
end
def Itzt (K:Fg) (a b:Addr):It :=
 ⟨fun i H=>∃ (xs ys:List V) (x y:V),SqT K H a xs∧SqL K H b ys∧xs[i]? = some x∧ys[i]? = some y,
  fun i H v H'=>∃ T x y,v = .ref T∧H T=none∧H' = upd H T (.tup [x,y])∧(∀ xs,SqT K H a xs→xs[i]? = some x)∧∀ ys,SqL K H b ys→ys[i]? = some y,
  fun i H=>∃ xs ys:List V,SqT K H a xs∧SqL K H b ys∧(xs.length≤i∨ys.length≤i)⟩
theorem zGt {P:Program}{w:World}{K:Fg}{elts:List Expr}{kk:Nat}{tpos:Pos}{a b z TI TO i1 i2:Addr} (D:ZipApart z TI TO i1 i2 a b) :
    Turn P w K (.Tuple elts kk tpos) (Itzt K a b) [z,TI,TO,i1,i2] z (fun i h=>IsZip h z TI TO .none∧IsPair h TI (.ref i1) (.ref i2)∧(∃ x y,IsPair h TO x y)∧h.IsTupleIter i1 a i∧h.IsListIter i2 b i) where
  mem:=by simp
  obj:=fun i h st c hc=>by
    obtain ⟨hz,hTI,⟨x,y,hTO⟩,⟨o1,e1,_,d1⟩,⟨o2,e2,_,d2⟩⟩:=st
    have e':c=z∨c=TI∨c=TO∨c=i1∨c=i2:=by simpa using hc
    rcases e' with q | q | q | q | q
    · rw [q]; exact ⟨_,hz,fun v q=>nomatch q⟩
    · rw [q]; exact ⟨_,hTI,fun v q=>nomatch q⟩
    · rw [q]; exact ⟨_,hTO,fun v q=>nomatch q⟩
    · rw [q]; exact ⟨o1,e1,fun v q=>by rw [d1] at q; cases q⟩
    · rw [q]; exact ⟨o2,e2,fun v q=>by rw [d2] at q; cases q⟩
  keep:=fun i h h' st k=>by
    obtain ⟨hz,hTI,⟨x,y,hTO⟩,⟨o1,e1,r1⟩,h2⟩:=st
    exact ⟨k z (by simp) _ hz,k TI (by simp) _ hTI,⟨x,y,k TO (by simp) _ hTO⟩,⟨o1,k i1 (by simp) o1 e1,r1⟩,h2.at fun o q=>k i2 (by simp) o q⟩
  item:=by
    intro X hP hw hK hc i pins s σ H E I hf st hg
    subst hP hw hK
    obtain ⟨hz,hTI,⟨x0,y0,hTO⟩,h1,h2⟩:=st
    obtain ⟨xs,ys,x,y,hqx,hqy,hx,hy⟩:=hg
    obtain ⟨its,rv,p,_⟩:=I.tuple hqx
    obtain ⟨its2,rv2,p2,_⟩:=I.list hqy
    obtain ⟨u,hu,ru⟩:=rv.get hx
    obtain ⟨u2,hu2,ru2⟩:=rv2.get hy
    have hzl:z < s.heap.objs.size:=Heap.lt_size hz
    have hT:s.TypeIs (.ref z) "zip":=⟨_,hz,rfl⟩
    unfold pyNext
    refine wpAny_bind (wpAny_attempt (wpAny_callSpecial?_slot (name:=Str.ofString "__next__") hT F.slot_zip_next
      (wpAny_call_entry F.slot_zip_next hT F.entry_zip_next
        (zGq D hz hTI hTO h1 h2 (show s.heap.IsTuple a its.toArray from p) p2.isList (x:=u) (y:=u2) (by simpa using hu) (by simpa using hu2) fun h' z' TO' h1' h2' hT' hsz hk=>?_) (F.args_zip_next_1 _))))
    refine wpAny_pure ⟨_,rfl,wpAny_letOwnedTupleGo_zip (s:={ s with heap:=h' }) z' fun h'' z'' sb=>?_⟩
    have hT2:h''.get? s.heap.objs.size=some { cls:=.type "tuple",data:=.seq #[u,u2] }:=(sb.2 _ (Nat.ne_of_gt hzl)).trans hT'
    have new:ObjOk X.prog X.w (upd H s.heap.objs.size (.tup [x,y])) h'' s.heap.objs.size (.tup [x,y]) :=
      ⟨by show 2≤sizeLine; decide,[u,u2],.cons ru (.cons ru2 .nil),⟨_,hT2,rfl,_,rfl⟩⟩
    have I1:Inv X pins σ (upd H s.heap.objs.size (.tup [x,y])) { s with heap:=h'' } :=
      I.turnedNew (t':=s.toks) (ch:=[z,TI,TO,i1,i2]) (fun c o hb q=>(sb.2 c (fun q'=>hb (by simp [q']))).trans (hk c o (fun q'=>hb (by simp [q'])) (fun q'=>hb (by simp [q'])) (fun q'=>hb (by simp [q'])) (fun q'=>hb (by simp [q'])) q)) hf (Nat.le_refl _) new
    refine ⟨.ref s.heap.objs.size,_,I1,rfl,⟨_,x,y,rfl,I.hok.fresh (Nat.le_refl _),rfl,fun l hl=>by rw [I.tuple_inj hl hqx]; exact hx,fun l hl=>by rw [I.list_inj hl hqy]; exact hy⟩,⟨z'',?_,⟨u,u2,?_⟩,?_,?_⟩,fun c hcm=>?_⟩
    · exact (sb.2 _ D.TIz).trans (hk _ _ D.TIz D.TITO D.TIi1 D.TIi2 hTI)
    · exact (sb.2 _ D.TOz).trans TO'
    · obtain ⟨o,q,r⟩:=h1'
      exact ⟨o,(sb.2 _ D.i1z).trans q,r⟩
    · exact h2'.at fun o q=>(sb.2 _ D.i2z).trans q
    · have hlt:c < s.heap.objs.size:=by
        have e':c=z∨c=TI∨c=TO∨c=i1∨c=i2:=by simpa using hcm
        rcases e' with q | q | q | q | q
        · rw [q]; exact hzl
        · rw [q]; exact Heap.lt_size hTI
        · rw [q]; exact Heap.lt_size hTO
        · rw [q]; obtain ⟨_,e1,_⟩:=h1; exact Heap.lt_size e1
        · rw [q]; obtain ⟨_,e2,_⟩:=h2; exact Heap.lt_size e2
      rw [zAG (Nat.ne_of_lt hlt)]
      exact (hf c hcm).1
  done:=by
    intro X hP hw hK hc i pins s σ H E I hf st hg
    subst hP hw hK
    obtain ⟨hz,hTI,⟨x0,y0,hTO⟩,h1,h2⟩:=st
    obtain ⟨xs,ys,hqx,hqy,hend⟩:=hg
    obtain ⟨its,rv,p,_⟩:=I.tuple hqx
    obtain ⟨its2,rv2,p2,_⟩:=I.list hqy
    have l1:=rv.length
    have l2:=rv2.length
    have he:its.toArray[i]? = none∨its2.toArray[i]? = none:=by
      rcases hend with q | q
      · exact .inl (by simp; omega)
      · exact .inr (by simp; omega)
    have hT:s.TypeIs (.ref z) "zip":=⟨_,hz,rfl⟩
    unfold pyNext
    refine wpAny_bind (wpAny_attempt (wpAny_callSpecial?_slot (name:=Str.ofString "__next__") hT F.slot_zip_next
      (wpAny_call_entry F.slot_zip_next hT F.entry_zip_next (zHH (A:=X.A.in1) (I.ok.hd hc) D hz hTI hTO h1 h2 (show s.heap.IsTuple a its.toArray from p) p2.isList he fun h' e hk he'=>?_) (F.args_zip_next_1 _))))
    obtain ⟨o,ho,hcl⟩:=he'
    refine wpAny_bind (wpAny_isInstance (T:="StopIteration") (b:=true) ⟨o,ho,hcl⟩ isSubtype_stop ?_)
    exact wpAny_pure ⟨rfl,I.turnedL (t':=s.toks) (ch:=[z,TI,TO,i1,i2]) (fun c o hb q =>
      hk c o (fun q'=>hb (by simp [q'])) (fun q'=>hb (by simp [q'])) (fun q'=>hb (by simp [q'])) (fun q'=>hb (by simp [q'])) q) hf⟩
  self:=fun A i s Q E st h=>wpAny_pyIter_zip st.1 h
def iZipTL (K:Fg) (ta:TA):TI:=fun σ H R=>ta σ H fun vs H1=>∃ a b xs ys,vs=[.ref a,.ref b]∧SqT K H1 a xs∧SqL K H1 b ys∧R (Itzt K a b) H1
theorem pi_zipTL {X:Cx}{e e2:Expr}{ta:TA}{p pos tpos:Pos}{elts:List Expr}{kk:Nat} (hg:Gl X "zip") (hm:X.mg "zip" = none) (ha:PA X [e,e2] ta)
  (hs:starEach [e,e2] X.env=(false,eval e X.env)::starEach [e2] X.env:=by rfl) (hpl:(backTo pos (starEach [e2] X.env)).any (·.1)=false:=by rfl) :
  PI X (.Tuple elts kk tpos) (.Call (.Name "zip" p) [e,e2] [] pos) (iZipTL X.K ta):=by
 intro pins s σ H R I h
 refine Call_ (zDg I hg hm boot_zip5 (PyProof.Rows.callWith_type1 (thn (ha pos pins s σ H _ I h) fun us s1 ⟨vs,H1,I1,r1,q1⟩=>?_) hs hpl))
 obtain ⟨a,b,xs,ys,ex,hqx,hqy,q⟩:=q1
 subst ex
 obtain ⟨u,u',rfl,r,r'⟩:=vals2 r1
 cases r
 cases r'
 obtain ⟨its,rv,p1,_⟩:=I1.tuple hqx
 obtain ⟨its2,rv2,p2,_⟩:=I1.list hqy
 have la:a < s1.heap.objs.size:=p1.lt
 have lb:b < s1.heap.objs.size:=p2.lt
 refine zHF (show s1.heap.IsTuple a its.toArray from p1) p2.isList fun h' hz hTI hTO h1 h2 hk=>wpAny_pyIter_zip hz ?_
 have I2:Inv X pins σ H1 { s1 with heap:=h' }:=I1.kept (t':=s1.toks) hk
 refine ⟨s1.heap.objs.size+4,[s1.heap.objs.size+4,s1.heap.objs.size+2,s1.heap.objs.size+3,s1.heap.objs.size,s1.heap.objs.size+1],_,_,H1,rfl,I2,zGt (PySem.W.ktu_apart s1.heap.objs.size a b la lb),⟨hz,hTI,⟨_,_,hTO⟩,h1,h2⟩,fun c hcm=>?_,q⟩
 have e':c=s1.heap.objs.size+4∨c=s1.heap.objs.size+2∨c=s1.heap.objs.size+3∨c=s1.heap.objs.size∨c=s1.heap.objs.size+1:=by simpa using hcm
 have hle:s1.heap.objs.size≤c:=by
  rcases e' with z | z | z | z | z
  ·rw [z]; exact Nat.le_add_right _ _
  ·rw [z]; exact Nat.le_add_right _ _
  ·rw [z]; exact Nat.le_add_right _ _
  ·rw [z]; exact Nat.le_refl _
  ·rw [z]; exact Nat.le_add_right _ _
 exact I1.fpOk hle (I1.hok.fresh hle)
theorem for_zipTL {K:Fg}{a b:Addr}{xs ys:List V}{g:TG}{tb:TS}{D:Ends}{σ:St}{H:Hp} (Pv:Nat→St→Hp→Prop) (hlen:xs.length=ys.length) (h0:Pv 0 σ H) (hl:∀ i σ H,i≤xs.length→Pv i σ H→SqT K H a xs∧SqL K H b ys)
  (hs:∀ i x y σ H T,xs[i]? = some x→ys[i]? = some y→Pv i σ H→H T=none→g (.ref T) σ (upd H T (.tup [x,y])) fun σ2 H2=>tb { D with nx:=Pv (i+1),ct:=Pv (i+1),bk:=D.nx } σ2 H2) (hd:∀ σ H,Pv xs.length σ H→D.nx σ H) :
  ∃ W:Nat→Nat→St→Hp→Prop,(∃ m,W 0 m σ H)∧∀ i m σ H,W i m σ H →
   ((Itzt K a b).stop i H∧D.nx σ H)∨((Itzt K a b).go i H∧∃ N:St→Hp→Prop,(∀ σ' H',N σ' H'→∃ m',m' < m∧W (i+1) m' σ' H')∧∀ x H',(Itzt K a b).yld i H x H'→g x σ H' fun σ2 H2=>tb { D with nx:=N,ct:=N,bk:=D.nx } σ2 H2):=by
 refine ⟨fun i m σ H=>i≤xs.length∧m=xs.length - i∧Pv i σ H,⟨_,Nat.zero_le _,rfl,h0⟩,fun i m σ H ⟨hi,hm,hp⟩=>?_⟩
 obtain ⟨hq,hq2⟩:=hl i σ H hi hp
 by_cases he:i=xs.length
 ·subst he
  exact .inl ⟨⟨xs,ys,hq,hq2,.inl (Nat.le_refl _)⟩,hd σ H hp⟩
 ·have hlt:i < xs.length:=Nat.lt_of_le_of_ne hi he
  have hlt2:i < ys.length:=by omega
  refine .inr ⟨⟨xs,ys,xs[i],ys[i],hq,hq2,List.getElem?_eq_getElem hlt,List.getElem?_eq_getElem hlt2⟩,Pv (i+1),fun σ' H' n=>⟨xs.length - (i+1),by omega,hlt,rfl,n⟩,fun x H' ⟨T,y,y2,hv,hn,hH,hy,hy2⟩=>?_⟩
  subst hv
  subst hH
  exact hs i y y2 σ H T (hy xs hq) (hy2 ys hq2) hp hn
end L2
namespace L2S
open PySem PySem.SetTable
def adv (mask:Nat) (p:Probe):Probe :=
 if p.more > 0 then { p with j:=p.j+1,more:=p.more - 1 } else
 { p with j:=(leap mask p.i p.perturb).1,more:=runEnd mask (leap mask p.i p.perturb).1 - (leap mask p.i p.perturb).1,i:=(leap mask p.i p.perturb).1,perturb:=(leap mask p.i p.perturb).2 }
theorem adv_eq (t:SetTable) (p:Probe):t.advance p=adv t.mask p:=by
 unfold advance adv
 split <;> rfl
def sq (mask:Nat) (p:Probe):Nat→Probe
 | 0=>p
 | k+1=>sq mask (adv mask p) k
theorem zFd (mask:Nat):∀ (k:Nat) (p:Probe),sq mask p (k+1)=adv mask (sq mask p k)
 | 0,p=>rfl
 | k+1,p=>zFd mask k (adv mask p)
theorem zF4 (mask:Nat) (p:Probe):∀ (m k:Nat),sq mask p (m+k)=sq mask (sq mask p m) k
 | 0,k=>by rw [Nat.zero_add]; rfl
 | m+1,k=>by
  rw [show m+1+k=(m+k)+1 by omega]
  show sq mask (adv mask p) (m+k)=_
  rw [zF4 mask (adv mask p) m k]
  rfl
def st0 (mask:Nat) (h:Int):Probe:={ j:=bits h % (mask+1),more:=runEnd mask (bits h % (mask+1)) - bits h % (mask+1),i:=bits h % (mask+1),perturb:=bits h,dummy:=none }
def J (mask:Nat) (h:Int) (k:Nat):Nat:=(sq mask (st0 mask h) k).j
theorem adv_dummy (mask:Nat) (p:Probe):(adv mask p).dummy=p.dummy:=by unfold adv; split <;> rfl
theorem zF3 (mask:Nat):∀ (k:Nat) (p:Probe),(sq mask p k).dummy=p.dummy
 | 0,p=>rfl
 | k+1,p=>by
  show (sq mask (adv mask p) k).dummy=_
  rw [zF3 mask k,adv_dummy]
def run (mask i pe:Nat) (d:Option Nat):Probe:={ j:=i,more:=runEnd mask i - i,i,perturb:=pe,dummy:=d }
theorem zHP (mask i pe:Nat) (d:Option Nat):∀ (r j m:Nat),m=r→sq mask { j:=j,more:=m,i,perturb:=pe,dummy:=d } (r+1)=run mask (leap mask i pe).1 (leap mask i pe).2 d
 | 0,j,m,h=>by
  subst h
  rfl
 | r+1,j,m,h=>by
  subst h
  show sq mask (adv mask { j:=j,more:=r+1,i,perturb:=pe,dummy:=d }) (r+1)=_
  exact zHP mask i pe d r (j+1) r rfl
def lp (mask:Nat):Nat→Nat→Nat→Nat×Nat
 | 0,i,pe=>(i,pe)
 | n+1,i,pe=>lp mask n (leap mask i pe).1 (leap mask i pe).2
theorem runEnd_le (mask i:Nat):runEnd mask i - i≤9:=by
 unfold runEnd
 split <;> omega
theorem lp_at (mask:Nat) (d:Option Nat):∀ (n i pe:Nat),∃ k,k≤10 * n∧sq mask (run mask i pe d) k=run mask (lp mask n i pe).1 (lp mask n i pe).2 d
 | 0,i,pe=>⟨0,Nat.le_refl _,rfl⟩
 | n+1,i,pe=>by
  obtain ⟨k,hk,e⟩:=lp_at mask d n (leap mask i pe).1 (leap mask i pe).2
  have e1:=zHP mask i pe d (runEnd mask i - i) i _ rfl
  refine ⟨(runEnd mask i - i+1)+k,?_,?_⟩
  ·have:=runEnd_le mask i
   omega
  ·rw [zF4]
   have e2:sq mask (run mask i pe d) (runEnd mask i - i+1)=run mask (leap mask i pe).1 (leap mask i pe).2 d:=e1
   rw [e2,e]
   rfl
theorem lp_add (mask:Nat):∀ (m n i pe:Nat),lp mask (m+n) i pe=lp mask n (lp mask m i pe).1 (lp mask m i pe).2
 | 0,n,i,pe=>by rw [Nat.zero_add]; rfl
 | m+1,n,i,pe=>by
  rw [show m+1+n=(m+n)+1 by omega]
  show lp mask (m+n) _ _=_
  rw [lp_add mask m n]
  rfl
theorem lp_pe (mask:Nat):∀ (n i pe:Nat),(lp mask n i pe).2=pe / 32 ^ n
 | 0,i,pe=>by simp [lp]
 | n+1,i,pe=>by
  show (lp mask n _ (pe / 32)).2=_
  rw [lp_pe mask n,Nat.div_div_eq_div_mul,Nat.pow_succ,Nat.mul_comm]
theorem lp_lt (mask:Nat):∀ (n i pe:Nat),i≤mask→(lp mask n i pe).1≤mask
 | 0,i,pe,h=>h
 | n+1,i,pe,h=>lp_lt mask n _ _ (by
  show (i * 5+1+pe / 32) % (mask+1)≤mask
  have:=Nat.mod_lt (i * 5+1+pe / 32) (show 0 < mask+1 by omega)
  omega)
theorem cov7:∀ i≤7,∀ s≤7,∃ n≤7,(lp 7 n i 0).1=s:=by decide
theorem cov31:∀ i≤31,∀ s≤31,∃ n≤31,(lp 31 n i 0).1=s:=by decide +kernel
theorem cover {mask:Nat} (hm:mask=7∨mask=31) (h:Int) {s:Nat} (hs:s≤mask):∃ k,k≤10 * (mask+13)∧J mask h k=s:=by
 have hb:bits h < 2 ^ 64:=by
  unfold bits
  have h1:=Int.emod_lt_of_pos h (show (0:Int) < 2 ^ 64 by decide)
  have h2:=Int.emod_nonneg h (show (2 ^ 64:Int)≠0 by decide)
  have e:((2 ^ 64:Nat):Int)=(2 ^ 64:Int):=by decide
  omega
 have hi0:bits h % (mask+1)≤mask:=by
  have:=Nat.mod_lt (bits h) (show 0 < mask+1 by omega)
  omega
 have h13:(lp mask 13 (bits h % (mask+1)) (bits h)).2=0:=by
  rw [lp_pe]
  refine Nat.div_eq_of_lt (Nat.lt_of_lt_of_le hb ?_)
  decide
 have hi13:=lp_lt mask 13 (bits h % (mask+1)) (bits h) hi0
 obtain ⟨n,hn,e⟩:∃ n,n≤mask∧(lp mask n (lp mask 13 (bits h % (mask+1)) (bits h)).1 0).1=s:=by
  rcases hm with rfl | rfl
  ·exact cov7 _ hi13 s hs
  ·exact cov31 _ hi13 s hs
 obtain ⟨k,hk,ek⟩:=lp_at mask none (13+n) (bits h % (mask+1)) (bits h)
 refine ⟨k,by omega,?_⟩
 have e0:st0 mask h=run mask (bits h % (mask+1)) (bits h) none:=rfl
 unfold J
 rw [e0,ek,lp_add,h13]
 exact e
theorem zEr {xs:Array Nat}{j:Nat} (srt:∀ i k,i < k→k < xs.size→xs.getD i 0 < xs.getD k 0):∀ (f lo hi:Nat),hi - lo≤f→lo≤hi→hi≤xs.size→(∀ i,i < lo→xs.getD i 0 < j)→(∀ i,hi≤i→i < xs.size→j≤xs.getD i 0) →
  below.go xs j f lo hi≤xs.size∧(∀ i,i < below.go xs j f lo hi→xs.getD i 0 < j)∧∀ i,below.go xs j f lo hi≤i→i < xs.size→j≤xs.getD i 0
 | 0,lo,hi,h1,h2,h3,h4,h5=>by
  have e:lo=hi:=by omega
  subst e
  exact ⟨h3,h4,h5⟩
 | f+1,lo,hi,h1,h2,h3,h4,h5=>by
  unfold below.go
  by_cases h:lo < hi
  ·rw [if_pos h]
   have em:xs.getD ((lo+hi) / 2) j=xs.getD ((lo+hi) / 2) 0:=by
    have hlt:(lo+hi) / 2 < xs.size:=by omega
    simp [Array.getD,hlt]
   simp only [em]
   by_cases hc:xs.getD ((lo+hi) / 2) 0 < j
   ·rw [if_pos hc]
    refine zEr srt f _ hi (by omega) (by omega) h3 (fun i hi2=>?_) h5
    by_cases hi3:i=(lo+hi) / 2
    ·rw [hi3]; exact hc
    ·exact Nat.lt_trans (srt i ((lo+hi) / 2) (by omega) (by omega)) hc
   ·rw [if_neg hc]
    refine zEr srt f lo _ (by omega) (by omega) (by omega) h4 (fun i hi2 hi3=>?_)
    by_cases hi4:i=(lo+hi) / 2
    ·rw [hi4]; omega
    ·have:=srt ((lo+hi) / 2) i (by omega) hi3
     omega
  ·rw [if_neg h]
   have e:lo=hi:=by omega
   subst e
   exact ⟨h3,h4,h5⟩
def Srt (l:List Nat):Prop:=l.Pairwise (· < ·)
theorem zET {xs:Array Nat} (h:Srt xs.toList):∀ i k,i < k→k < xs.size→xs.getD i 0 < xs.getD k 0:=fun i k hik hk=>by
 have h2:=List.pairwise_iff_getElem.mp h i k (by simpa using Nat.lt_trans hik hk) (by simpa using hk) hik
 have hi:i < xs.size:=Nat.lt_trans hik hk
 simp only [Array.getD,hi,hk,dif_pos]
 simpa using h2
theorem zDM {xs:Array Nat} (h:Srt xs.toList) (j:Nat):below xs j≤xs.size∧(∀ i,i < below xs j→xs.getD i 0 < j)∧∀ i,below xs j≤i→i < xs.size→j≤xs.getD i 0 :=
 zEr (zET h) xs.size 0 xs.size (by omega) (Nat.zero_le _) (Nat.le_refl _) (fun i hi=>by omega) (fun i h1 h2=>by omega)
theorem zDq {xs:Array Nat} (h:Srt xs.toList) (j:Nat):(xs[below xs j]? == some j)=true↔j∈xs.toList:=by
 obtain ⟨h1,h2,h3⟩:=zDM h j
 constructor
 ·intro e
  have e:=eq_of_beq e
  exact Array.mem_toList_iff.mpr (Array.mem_of_getElem? e)
 ·intro hm
  obtain ⟨i,hi,e⟩:=List.getElem_of_mem hm
  have hi':i < xs.size:=by simpa using hi
  have e2:xs.getD i 0=j:=by simp [Array.getD,hi']; simpa using e
  have hb:below xs j≤i:=Nat.le_of_not_lt fun z=>by
   have:=h2 i z
   omega
  have hlt:below xs j < xs.size:=by omega
  have hge:=h3 _ (Nat.le_refl _) hlt
  have heq:below xs j=i:=by
   by_cases hne:below xs j=i
   ·exact hne
   ·have:=zET h (below xs j) i (by omega) hi'
    omega
  rw [heq,Array.getElem?_eq_getElem hi']
  have e3:xs[i]=j:=by simpa using e
  rw [e3]
  exact beq_self_eq_true _
theorem zGn {xs:Array Nat} (h:Srt xs.toList) {j:Nat} (hm:j∈xs.toList):xs[below xs j]? = some j:=eq_of_beq ((zDq h j).mpr hm)
theorem has_nil (j:Nat):has #[] j=false:=by unfold has; rfl
theorem zDT {t:SetTable} (h:Srt t.place.toList) {j:Nat} (hm:j∈t.place.toList):t.slot j = .live (below t.place j):=by
 unfold SetTable.slot
 simp only
 rw [if_pos ((zDq h j).mpr hm)]
theorem zG0 {t:SetTable} (h:Srt t.place.toList) (hd:t.dummies = #[]) {j:Nat} (hm:j∉t.place.toList):t.slot j = .empty:=by
 unfold SetTable.slot
 simp only
 rw [if_neg (fun z=>hm ((zDq h j).mp z)),hd,has_nil]
 rfl
theorem zBv {α:Type} (xs:Array α) (p:Nat) (x:α) (hp:p≤xs.size):(insertAt xs p x).toList=xs.toList.take p++x::xs.toList.drop p:=by
 unfold insertAt
 simp
 exact List.take_of_length_le (by simp)
theorem zGz {xs:Array Nat} (h:Srt xs.toList) {j:Nat} (hm:j∉xs.toList):Srt (insertAt xs (below xs j) j).toList:=by
 obtain ⟨h1,h2,h3⟩:=zDM h j
 rw [zBv _ _ _ h1]
 unfold Srt at h ⊢
 have h0:=List.take_append_drop (below xs j) xs.toList
 rw [←h0,List.pairwise_append] at h
 obtain ⟨g1,g2,g3⟩:=h
 have lo:∀ a∈xs.toList.take (below xs j),a < j:=fun a ha=>by
  obtain ⟨i,hi,e⟩:=List.getElem_of_mem ha
  rw [List.length_take] at hi
  rw [List.getElem_take] at e
  have hi':i < xs.size:=by
   have:xs.toList.length=xs.size:=by simp
   omega
  have:=h2 i (by omega)
  have e2:xs.getD i 0=a:=by simp [Array.getD,hi']; simpa using e
  omega
 have hi:∀ a∈xs.toList.drop (below xs j),j < a:=fun a ha=>by
  obtain ⟨i,hi,e⟩:=List.getElem_of_mem ha
  rw [List.length_drop] at hi
  rw [List.getElem_drop] at e
  have hl:xs.toList.length=xs.size:=by simp
  have hi':below xs j+i < xs.size:=by omega
  have:=h3 (below xs j+i) (by omega) hi'
  have e2:xs.getD (below xs j+i) 0=a:=by simp [Array.getD,hi']; simpa using e
  have ne:a≠j:=fun z=>hm (z ▸ List.mem_of_mem_drop ha)
  omega
 rw [List.pairwise_append]
 refine ⟨g1,List.pairwise_cons.mpr ⟨hi,g2⟩,fun a ha b hb=>?_⟩
 rcases List.mem_cons.mp hb with z | z
 ·rw [z]; exact lo a ha
 ·exact g3 a ha b z
end L2S
namespace L2S
open PySem PySem.SetTable
def Rch (mask:Nat) (ps:List Nat) (h:Int) (s:Nat):Prop:=∃ k,J mask h k=s∧∀ k' < k,J mask h k'∈ps
structure TOk (t:SetTable) (hs:List Int):Prop where
 dm:t.dummies = #[]
 mm:t.mask=7∨t.mask=31
 sz:t.place.size=hs.length
 srt:Srt t.place.toList
 le:∀ j∈t.place.toList,j≤t.mask
 rc:∀ q∈hs.zip t.place.toList,Rch t.mask t.place.toList q.1 q.2
theorem zCv {α:Type} [DecidableEq α]:∀ (l m:List α),l.Nodup→(∀ x∈l,x∈m)→l.length≤m.length
 | [],m,_,_=>Nat.zero_le _
 | x::l,m,hn,hs=>by
  obtain ⟨h1,h2⟩:=List.nodup_cons.mp hn
  have hx:=hs x (by simp)
  have ih:=zCv l (m.erase x) h2 fun y hy=>(List.mem_erase_of_ne (a:=y) (b:=x) (fun z=>h1 (by rw [←z]; exact hy))).mpr (hs y (by simp [hy]))
  rw [List.length_erase_of_mem hx] at ih
  have:0 < m.length:=List.length_pos_of_mem hx
  simp
  omega
theorem least {P:Nat→Prop} [DecidablePred P]:∀ (B k:Nat),k≤B→P k→∃ m,m≤B∧P m∧∀ m' < m,¬ P m'
 | 0,k,hk,hp=>by
  have e:k=0:=by omega
  subst e
  exact ⟨0,Nat.le_refl _,hp,fun m' h=>by omega⟩
 | B+1,k,hk,hp=>by
  by_cases h:∃ m,m≤B∧P m
  ·obtain ⟨m,hm,hpm⟩:=h
   obtain ⟨m2,h1,h2,h3⟩:=least B m hm hpm
   exact ⟨m2,by omega,h2,h3⟩
  ·refine ⟨k,hk,hp,fun m' h' hp'=>h ⟨m',by omega,hp'⟩⟩
theorem zFI {mask:Nat}{ps:List Nat} (h:ps.length≤mask):∃ s,s≤mask∧s∉ps:=by
 refine Classical.byContradiction fun hn=>?_
 have hall:∀ s∈List.range (mask+1),s∈ps:=fun s hs=>Classical.byContradiction fun z=>hn ⟨s,by have:=List.mem_range.mp hs; omega,z⟩
 have:=zCv (List.range (mask+1)) ps List.nodup_range hall
 rw [List.length_range] at this
 omega
theorem zHB {mask:Nat}{ps:List Nat} (hm:mask=7∨mask=31) (hl:ps.length≤mask) (h:Int):∃ k,k≤10 * (mask+13)∧J mask h k∉ps∧∀ k' < k,J mask h k'∈ps:=by
 obtain ⟨s,hs,hn⟩:=zFI hl
 obtain ⟨k,hk,e⟩:=cover hm h hs
 obtain ⟨m,h1,h2,h3⟩:=least (P:=fun k=>J mask h k∉ps) _ k hk (by rw [e]; exact hn)
 exact ⟨m,h1,h2,fun k' hk'=>Classical.not_not.mp (h3 k' hk')⟩
theorem go_at {t:SetTable}{hs:List Int} (T:TOk t hs) (hashAt:Nat→Int) (h:Int) {k0:Nat} (he:J t.mask h k0∉t.place.toList) (hl:∀ k' < k0,J t.mask h k'∈t.place.toList):∀ (d m f:Nat),m+d=k0→d < f →
  (∃ m',m≤m'∧m' < k0∧(hashAt (below t.place (J t.mask h m')) == h)=true∧probe.go t hashAt h f (sq t.mask (st0 t.mask h) m)=some (.candidate (J t.mask h m') (below t.place (J t.mask h m')) (sq t.mask (st0 t.mask h) (m' + 1)))∧∀ m'',m≤m''→m'' < m'→(hashAt (below t.place (J t.mask h m'')) == h)=false) ∨
  (probe.go t hashAt h f (sq t.mask (st0 t.mask h) m)=some (.empty (J t.mask h k0) none)∧∀ m'',m≤m''→m'' < k0→(hashAt (below t.place (J t.mask h m'')) == h)=false)
 | 0,m,f+1,hd,hf=>by
  have e:m=k0:=by omega
  subst e
  refine .inr ⟨?_,fun m'' h1 h2=>by omega⟩
  unfold probe.go
  have hs:=zG0 T.srt T.dm he
  unfold J at hs
  rw [hs]
  simp only [zF3]
  rfl
 | d+1,m,f+1,hd,hf=>by
  have hm:=hl m (by omega)
  have hs:=zDT T.srt hm
  unfold probe.go
  unfold J at hs
  rw [hs]
  simp only
  by_cases hc:(hashAt (below t.place (sq t.mask (st0 t.mask h) m).j) == h)=true
  ·refine .inl ⟨m,Nat.le_refl _,by omega,hc,?_,fun m'' h1 h2=>by omega⟩
   rw [if_pos hc,adv_eq,zFd]
   rfl
  ·rw [if_neg hc,adv_eq,←zFd]
   have hc':(hashAt (below t.place (J t.mask h m)) == h)=false:=by
    cases z:(hashAt (below t.place (J t.mask h m)) == h) with
    | false=>rfl
    | true=>exact absurd z hc
   rcases go_at T hashAt h he hl d (m+1) f (by omega) (by omega) with ⟨m',h1,h2,h3,h4,h5⟩ | ⟨h1,h2⟩
   ·refine .inl ⟨m',by omega,h2,h3,h4,fun m'' g1 g2=>?_⟩
    by_cases e:m'' = m
    ·rw [e]; exact hc'
    ·exact h5 m'' (by omega) g2
   ·refine .inr ⟨h1,fun m'' g1 g2=>?_⟩
    by_cases e:m'' = m
    ·rw [e]; exact hc'
    ·exact h2 m'' (by omega) g2
theorem zip_tk {α β:Type} (p:Nat) (l:List α) (m:List β):(l.zip m).take p=(l.take p).zip (m.take p):=by
 rw [List.zip_eq_zipWith,List.take_zipWith,←List.zip_eq_zipWith]
theorem zip_dr {α β:Type} (p:Nat) (l:List α) (m:List β):(l.zip m).drop p=(l.drop p).zip (m.drop p):=by
 rw [List.zip_eq_zipWith,List.drop_zipWith,←List.zip_eq_zipWith]
theorem put_ok {t:SetTable}{hs:List Int} (T:TOk t hs) (h:Int) {k0:Nat} (hj:J t.mask h k0≤t.mask) (he:J t.mask h k0∉t.place.toList) (hl:∀ k' < k0,J t.mask h k'∈t.place.toList) :
  TOk (t.put (J t.mask h k0)).1 (hs.take (below t.place (J t.mask h k0))++h::hs.drop (below t.place (J t.mask h k0)))∧(t.put (J t.mask h k0)).2=below t.place (J t.mask h k0)∧(t.put (J t.mask h k0)).1.place.size=t.place.size+1∧(t.put (J t.mask h k0)).1.mask=t.mask:=by
 generalize hJ:J t.mask h k0=j at hj he
 have hb:=(zDM T.srt j).1
 have hpl:(t.put j).1.place=insertAt t.place (below t.place j) j:=rfl
 have hmk:(t.put j).1.mask=t.mask:=rfl
 have hli:=zBv t.place (below t.place j) j hb
 have hmem:∀ x,x∈(insertAt t.place (below t.place j) j).toList↔x=j∨x∈t.place.toList:=fun x=>by
  rw [hli,List.mem_append,List.mem_cons]
  constructor
  ·rintro (z | z | z)
   ·exact .inr (List.mem_of_mem_take z)
   ·exact .inl z
   ·exact .inr (List.mem_of_mem_drop z)
  ·rintro (z | z)
   ·exact .inr (.inl z)
   ·rw [←List.take_append_drop (below t.place j) t.place.toList,List.mem_append] at z
    rcases z with z | z
    ·exact .inl z
    ·exact .inr (.inr z)
 have hsz:(t.put j).1.place.size=t.place.size+1:=by
  rw [hpl,←Array.length_toList,hli]
  simp
  omega
 refine ⟨⟨?_,T.mm,?_,?_,?_,?_⟩,rfl,hsz,rfl⟩
 ·show (if has t.dummies j=true then _ else t.dummies) = #[]
  rw [T.dm,has_nil]
  rfl
 ·rw [hsz,T.sz]
  have:=T.sz
  simp
  omega
 ·rw [hpl]
  exact zGz T.srt he
 ·rw [hpl,hmk]
  intro x hx
  rcases (hmem x).mp hx with z | z
  ·rw [z]; exact hj
  ·exact T.le x z
 ·rw [hpl,hmk]
  have mono:∀ h' s,Rch t.mask t.place.toList h' s→Rch t.mask (insertAt t.place (below t.place j) j).toList h' s:=fun h' s ⟨k,e,z⟩=>⟨k,e,fun k' hk'=>(hmem _).mpr (.inr (z k' hk'))⟩
  have hlen:hs.length=t.place.toList.length:=by rw [Array.length_toList]; exact T.sz.symm
  have hzip:(hs.take (below t.place j)++h::hs.drop (below t.place j)).zip (insertAt t.place (below t.place j) j).toList=(hs.zip t.place.toList).take (below t.place j)++(h,j)::(hs.zip t.place.toList).drop (below t.place j):=by
   rw [hli,List.zip_append (by rw [List.length_take,List.length_take,hlen]),List.zip_cons_cons,zip_tk,zip_dr]
  rw [hzip]
  intro q hq
  rcases List.mem_append.mp hq with z | z
  ·exact mono _ _ (T.rc q (List.mem_of_mem_take z))
  ·rcases List.mem_cons.mp z with z | z
   ·subst z
    exact ⟨k0,hJ,fun k' hk'=>(hmem _).mpr (.inr (hl k' hk'))⟩
   ·exact mono _ _ (T.rc q (List.mem_of_mem_drop z))
theorem zG5 {t:SetTable}{hs:List Int} (T:TOk t hs) {h:Int}{k0 i:Nat} (hi:hs[i]? = some h) (he:J t.mask h k0∉t.place.toList):∃ k,k < k0∧below t.place (J t.mask h k)=i:=by
 have il:i < hs.length:=(List.getElem?_eq_some_iff.mp hi).1
 have ilp:i < t.place.toList.length:=by rw [Array.length_toList,T.sz]; exact il
 have hz:(h,t.place.toList[i])∈hs.zip t.place.toList:=by
  refine List.mem_of_getElem? (i:=i) ?_
  rw [List.getElem?_zip_eq_some]
  exact ⟨hi,List.getElem?_eq_getElem ilp⟩
 obtain ⟨k,e,z⟩:=T.rc _ hz
 simp only at e z
 have hmem:t.place.toList[i]∈t.place.toList:=List.getElem_mem ilp
 refine ⟨k,?_,?_⟩
 ·refine Classical.byContradiction fun hn=>he ?_
  by_cases hk:k0=k
  ·rw [hk,e]; exact hmem
  ·exact z k0 (by omega)
 ·rw [e]
  have hb:=zGn T.srt hmem
  obtain ⟨hlt,hb2⟩:=Array.getElem?_eq_some_iff.mp hb
  have hnd:∀ a b,a < t.place.size→b < t.place.size→t.place.getD a 0=t.place.getD b 0→a=b:=fun a b ha hb he=>by
   rcases Nat.lt_trichotomy a b with q | q | q
   ·have:=zET T.srt a b q hb; omega
   ·exact q
   ·have:=zET T.srt b a q ha; omega
  refine hnd _ _ hlt (by simpa using ilp) ?_
  have ilp':i < t.place.size:=by simpa using ilp
  rw [Array.getD_eq_getD_getElem?,Array.getD_eq_getD_getElem?,hb,Array.getElem?_eq_getElem ilp']
  simp
end L2S
namespace L2S
open PySem PySem.SetTable
theorem sq_in (mask i pe:Nat) (d:Option Nat):∀ (q r j:Nat),q≤r→(sq mask { j:=j,more:=r,i,perturb:=pe,dummy:=d } q).j=j+q
 | 0,r,j,_=>rfl
 | q+1,r+1,j,h=>by
  show (sq mask (adv mask { j:=j,more:=r+1,i,perturb:=pe,dummy:=d }) q).j=_
  have e:adv mask { j:=j,more:=r+1,i,perturb:=pe,dummy:=d }={ j:=j+1,more:=r,i,perturb:=pe,dummy:=d }:=rfl
  rw [e,sq_in mask i pe d q r (j+1) (by omega)]
  omega
theorem zDY {mask i:Nat} (h:i≤mask):i≤runEnd mask i∧runEnd mask i≤mask:=by
 unfold runEnd
 split <;> omega
theorem zFt {o:Array (Option Nat)}{j:Nat} (h:j < o.size) (d:Option Nat):o.getD j d=o.getD j none:=by simp [Array.getD,h]
theorem free_ok {owner:Array (Option Nat)} (hsz:owner.size=32):∀ (f i pe:Nat),i≤31→(∃ n,n < f∧owner.getD (lp 31 n i pe).1 none=none) →
  ∃ j q,layClean.free 31 owner f i pe=some j∧(sq 31 (run 31 i pe none) q).j=j∧j≤31∧owner.getD j none=none∧∀ q' < q,(owner.getD (sq 31 (run 31 i pe none) q').j none).isSome=true
 | 0,i,pe,hi,⟨n,hn,_⟩=>by omega
 | f+1,i,pe,hi,⟨n,hn,hno⟩=>by
  obtain ⟨r1,r2⟩:=zDY hi
  unfold layClean.free
  cases hf:(List.range (runEnd 31 i+1 - i)).find? fun k=>(owner.getD (i+k) (some 0)).isNone with
  | some k =>
   have hk:=List.find?_some hf
   have hm:=List.mem_of_find?_eq_some hf
   have hlt:=List.mem_range.mp hm
   simp only
   have hin:i+k < owner.size:=by omega
   rw [zFt hin] at hk
   refine ⟨i+k,k,rfl,sq_in 31 i pe none k _ i (by omega),by omega,by simpa using hk,fun q' hq'=>?_⟩
   have e:=sq_in 31 i pe none q' (runEnd 31 i - i) i (by omega)
   have e':(sq 31 (run 31 i pe none) q').j=i+q':=e
   rw [e']
   have hb:=List.find?_range_eq_some.mp hf
   have:=hb.2.2 q' hq'
   rw [zFt (by omega:i+q' < owner.size)] at this
   simpa using this
  | none =>
   simp only
   have hall:=List.find?_eq_none.mp hf
   have hrun:∀ q',q' < runEnd 31 i - i+1→(owner.getD (sq 31 (run 31 i pe none) q').j none).isSome=true:=fun q' hq'=>by
    have e:=sq_in 31 i pe none q' (runEnd 31 i - i) i (by omega)
    have e':(sq 31 (run 31 i pe none) q').j=i+q':=e
    rw [e']
    have:=hall q' (List.mem_range.mpr (by omega))
    rw [zFt (by omega:i+q' < owner.size)] at this
    cases e2:owner.getD (i+q') none with
    | none=>rw [e2] at this; exact absurd rfl this
    | some k=>rfl
   have n0:n≠0:=fun z=>by
    subst z
    have:=hrun 0 (by omega)
    have e':(sq 31 (run 31 i pe none) 0).j=i:=rfl
    rw [e'] at this
    have hno:owner.getD i none=none:=hno
    rw [hno] at this
    cases this
   obtain ⟨n',rfl⟩:∃ n',n=n' + 1:=⟨n - 1,by omega⟩
   have hi2:(leap 31 i pe).1≤31:=by
    show (i * 5+1+pe / 32) % 32≤31
    omega
   obtain ⟨j,q,g1,g2,g3,g4,g5⟩:=free_ok hsz f (leap 31 i pe).1 (leap 31 i pe).2 hi2 ⟨n',by omega,hno⟩
   have e1:sq 31 (run 31 i pe none) (runEnd 31 i - i+1)=run 31 (leap 31 i pe).1 (leap 31 i pe).2 none:=zHP 31 i pe none (runEnd 31 i - i) i _ rfl
   refine ⟨j,(runEnd 31 i - i+1)+q,g1,by rw [zF4,e1]; exact g2,g3,g4,fun q' hq'=>?_⟩
   by_cases hlt:q' < runEnd 31 i - i+1
   ·exact hrun q' hlt
   ·obtain ⟨q2,rfl⟩:∃ q2,q' = (runEnd 31 i - i+1)+q2:=⟨q' - (runEnd 31 i - i+1),by omega⟩
    rw [zF4,e1]
    exact g5 q2 (by omega)
structure Ow (o:Array (Option Nat)) (hs:List Int):Prop where
 sz:o.size=32
 at_:∀ s k,o.getD s none=some k→s≤31∧∃ h,hs[k]? = some h∧∃ q,J 31 h q=s∧∀ q' < q,(o.getD (J 31 h q') none).isSome=true
 one:∀ s s' k,o.getD s none=some k→o.getD s' none=some k→s=s'
 ex:∀ k,k < hs.length→∃ s,o.getD s none=some k
def zA0 (o:Array (Option Nat)):List (Nat×Nat):=(List.range 32).filterMap fun j=>(o.getD j none).map (j,·)
theorem mem_live {o:Array (Option Nat)}{s k:Nat}:(s,k)∈zA0 o↔s < 32∧o.getD s none=some k:=by
 unfold zA0
 rw [List.mem_filterMap]
 constructor
 ·rintro ⟨j,hj,e⟩
  rw [List.mem_range] at hj
  cases h:o.getD j none with
  | none=>rw [h] at e; cases e
  | some k' =>
   rw [h] at e
   have e:=Option.some.inj e
   have e1:j=s:=congrArg Prod.fst e
   have e2:k' = k:=congrArg Prod.snd e
   subst e1 e2
   exact ⟨hj,h⟩
 ·rintro ⟨h1,h2⟩
  exact ⟨s,List.mem_range.mpr h1,by rw [h2]; rfl⟩
theorem zDd {α β:Type}{f:α→β}:∀ {l:List α},(∀ x∈l,∀ y∈l,f x=f y→x=y)→l.Nodup→(l.map f).Nodup
 | [],_,_=>by simp
 | x::l,h,hn=>by
  obtain ⟨h1,h2⟩:=List.nodup_cons.mp hn
  rw [List.map_cons,List.nodup_cons]
  refine ⟨fun hm=>?_,zDd (fun a ha b hb=>h a (by simp [ha]) b (by simp [hb])) h2⟩
  obtain ⟨y,hy,e⟩:=List.mem_map.mp hm
  have:=h y (by simp [hy]) x (by simp) e
  exact h1 (this ▸ hy)
theorem zGU (o:Array (Option Nat)):((zA0 o).map (·.1)).Pairwise (· < ·):=by
 unfold zA0
 have key:∀ l:List Nat,l.Pairwise (· < ·)→((l.filterMap fun j=>(o.getD j none).map (j,·)).map (·.1)).Pairwise (· < ·):=by
  intro l
  induction l with
  | nil=>intro _; simp
  | cons x l ih =>
   intro h
   obtain ⟨h1,h2⟩:=List.pairwise_cons.mp h
   rw [List.filterMap_cons]
   cases hx:o.getD x none with
   | none=>simpa [hx] using ih h2
   | some k =>
    simp only [Option.map_some,List.map_cons]
    refine List.pairwise_cons.mpr ⟨fun y hy=>?_,ih h2⟩
    obtain ⟨p,hp,rfl⟩:=List.mem_map.mp hy
    obtain ⟨j,hj,e⟩:=List.mem_filterMap.mp hp
    cases hjo:o.getD j none with
    | none=>rw [hjo] at e; cases e
    | some k' =>
     rw [hjo] at e
     have e:=Option.some.inj e
     rw [←e]
     exact h1 j hj
 exact key _ List.pairwise_lt_range
theorem live_nd {o:Array (Option Nat)}:(zA0 o).Nodup:=by
 have h:=List.pairwise_map.mp (zGU o)
 exact h.imp fun {a b} (z:a.1 < b.1) e=>by
  rw [e] at z
  exact Nat.lt_irrefl _ z
theorem zGV {o:Array (Option Nat)}{hs:List Int} (O:Ow o hs):(zA0 o).length=hs.length:=by
 have nd2:((zA0 o).map (·.2)).Nodup:=zDd (fun x hx y hy e=>by
  obtain ⟨s,k⟩:=x
  obtain ⟨s',k'⟩:=y
  have e:k=k':=e
  subst e
  have:=O.one s s' k (mem_live.mp hx).2 (mem_live.mp hy).2
  rw [this]) live_nd
 have h1:=zCv _ (List.range hs.length) nd2 fun k hk=>by
  obtain ⟨⟨s,k'⟩,hp,rfl⟩:=List.mem_map.mp hk
  obtain ⟨_,h,hh,_⟩:=O.at_ s k' (mem_live.mp hp).2
  exact List.mem_range.mpr (List.getElem?_eq_some_iff.mp hh).1
 have h2:=zCv (List.range hs.length) ((zA0 o).map (·.2)) List.nodup_range fun k hk=>by
  obtain ⟨s,hs'⟩:=O.ex k (List.mem_range.mp hk)
  exact List.mem_map.mpr ⟨(s,k),mem_live.mpr ⟨by have:=(O.at_ s k hs').1; omega,hs'⟩,rfl⟩
 rw [List.length_map,List.length_range] at h1
 rw [List.length_map,List.length_range] at h2
 omega
theorem getD_set (o:Array (Option Nat)) (j s:Nat) (k:Option Nat) (hj:j < o.size):(o.setIfInBounds j k).getD s none=if s=j then k else o.getD s none:=by
 rw [Array.getD_eq_getD_getElem?,Array.getD_eq_getD_getElem?,Array.getElem?_setIfInBounds]
 by_cases h:j=s
 ·subst h
  simp [hj]
 ·rw [if_neg h,if_neg (fun z=>h z.symm)]
theorem lay_one {o:Array (Option Nat)}{hs:List Int} (O:Ow o hs) (h:Int) (hl:hs.length≤31) :
  ∃ j,layClean.free 31 o (turns 31) (bits h % 32) (bits h)=some j∧Ow (o.setIfInBounds j (some hs.length)) (hs++[h]):=by
 obtain ⟨s,hs31,hsn⟩:=zFI (mask:=31) (ps:=(zA0 o).map (·.1)) (by rw [List.length_map,zGV O]; exact hl)
 have hsno:o.getD s none=none:=by
  cases e:o.getD s none with
  | none=>rfl
  | some k=>exact absurd (List.mem_map.mpr ⟨(s,k),mem_live.mpr ⟨by omega,e⟩,rfl⟩) hsn
 have hb:bits h < 2 ^ 64:=by
  unfold bits
  have h1:=Int.emod_lt_of_pos h (show (0:Int) < 2 ^ 64 by decide)
  have h2:=Int.emod_nonneg h (show (2 ^ 64:Int)≠0 by decide)
  have e:((2 ^ 64:Nat):Int)=(2 ^ 64:Int):=by decide
  omega
 have hi0:bits h % 32≤31:=by omega
 have h13:(lp 31 13 (bits h % 32) (bits h)).2=0:=by
  rw [lp_pe]
  refine Nat.div_eq_of_lt (Nat.lt_of_lt_of_le hb ?_)
  decide
 obtain ⟨n,hn,en⟩:=cov31 _ (lp_lt 31 13 (bits h % 32) (bits h) hi0) s hs31
 obtain ⟨j,q,g1,g2,g3,g4,g5⟩:=free_ok O.sz (turns 31) (bits h % 32) (bits h) hi0 ⟨13+n,by show 13+n < 31+15; omega,by rw [lp_add,h13,en]; exact hsno⟩
 have hj:j < o.size:=by rw [O.sz]; omega
 have gs:∀ s,(o.setIfInBounds j (some hs.length)).getD s none=if s=j then some hs.length else o.getD s none:=fun s=>getD_set o j s _ hj
 have grow:∀ s,(o.getD s none).isSome=true→((o.setIfInBounds j (some hs.length)).getD s none).isSome=true:=fun s hs'=>by
  rw [gs]
  by_cases e:s=j
  ·rw [if_pos e]; rfl
  ·rw [if_neg e]; exact hs'
 have lt_of:∀ s k,o.getD s none=some k→k < hs.length:=fun s k e=>by
  obtain ⟨_,h',hh,_⟩:=O.at_ s k e
  exact (List.getElem?_eq_some_iff.mp hh).1
 refine ⟨j,g1,by rw [Array.size_setIfInBounds]; exact O.sz,fun s' k e=>?_,fun s1 s2 k e1 e2=>?_,fun k hk=>?_⟩
 ·rw [gs] at e
  by_cases e0:s' = j
  ·rw [if_pos e0] at e
   have e:=Option.some.inj e
   subst e
   refine ⟨by omega,h,by simp,q,?_,fun q' hq'=>grow _ (g5 q' hq')⟩
   rw [e0]
   exact g2
  ·rw [if_neg e0] at e
   obtain ⟨h1,h',hh,q',hq1,hq2⟩:=O.at_ s' k e
   exact ⟨h1,h',by rw [List.getElem?_append_left (List.getElem?_eq_some_iff.mp hh).1]; exact hh,q',hq1,fun q'' z=>grow _ (hq2 q'' z)⟩
 ·rw [gs] at e1 e2
  by_cases a1:s1=j
  ·by_cases a2:s2=j
   ·rw [a1,a2]
   ·rw [if_pos a1] at e1
    rw [if_neg a2] at e2
    have:=lt_of _ _ e2
    have e1:=Option.some.inj e1
    omega
  ·by_cases a2:s2=j
   ·rw [if_neg a1] at e1
    rw [if_pos a2] at e2
    have:=lt_of _ _ e1
    have e2:=Option.some.inj e2
    omega
   ·rw [if_neg a1] at e1
    rw [if_neg a2] at e2
    exact O.one _ _ _ e1 e2
 ·rw [List.length_append,List.length_singleton] at hk
  by_cases e:k=hs.length
  ·exact ⟨j,by rw [gs,if_pos rfl,e]⟩
  ·obtain ⟨s',e'⟩:=O.ex k (by omega)
   have ne:s'≠j:=fun z=>by rw [z,g4] at e'; cases e'
   exact ⟨s',by rw [gs,if_neg ne]; exact e'⟩
theorem lay_all:∀ (rest hs:List Int) (o:Array (Option Nat)),Ow o hs→hs.length+rest.length≤31 →
  ∃ o',rest.foldl (fun acc h=>do
   let (owner,k) ←acc
   let j ←layClean.free 31 owner (turns 31) (bits h % (31+1)) (bits h)
   pure (owner.setIfInBounds j (some k),k+1)) (some (o,hs.length))=some (o',(hs++rest).length)∧Ow o' (hs++rest)
 | [],hs,o,O,_=>⟨o,by simp,by simpa using O⟩
 | h::rest,hs,o,O,hl=>by
  obtain ⟨j,e,O'⟩:=lay_one O h (by simp at hl; omega)
  obtain ⟨o',e2,O2⟩:=lay_all rest (hs++[h]) (o.setIfInBounds j (some hs.length)) O' (by simp at hl ⊢; omega)
  refine ⟨o',?_,by simpa using O2⟩
  rw [List.foldl_cons]
  have e1:(do
   let (owner,k) ←some (o,hs.length)
   let j ←layClean.free 31 owner (turns 31) (bits h % (31+1)) (bits h)
   pure (owner.setIfInBounds j (some k),k+1))=some (o.setIfInBounds j (some hs.length),(hs++[h]).length):=by
   show (layClean.free 31 o (turns 31) (bits h % 32) (bits h)).bind (fun j=>some (o.setIfInBounds j (some hs.length),hs.length+1))=_
   rw [e]
   simp
  rw [e1]
  simpa using e2
theorem ow_nil:Ow (Array.replicate 32 none) []:=by
 have g:∀ s,(Array.replicate 32 (none:Option Nat)).getD s none=none:=fun s=>by
  rw [Array.getD_eq_getD_getElem?]
  cases h:(Array.replicate 32 (none:Option Nat))[s]? with
  | none=>rfl
  | some v =>
   obtain ⟨h1,h2⟩:=Array.getElem?_eq_some_iff.mp h
   rw [Array.getElem_replicate] at h2
   rw [←h2]
   rfl
 refine ⟨by simp,fun s k e=>?_,fun s s' k e=>?_,fun k hk=>by simp at hk⟩
 ·rw [g] at e; cases e
 ·rw [g] at e; cases e
theorem laid_ok {hs:Array Int} (hl:hs.size≤31) (finger moves:Nat) (led plain:Bool):∃ o,Ow o hs.toList∧laid 31 finger moves led plain hs=some ({ mask:=31,place:=((zA0 o).map (·.1)).toArray,dummies:=#[],finger,led,moves,plain },((zA0 o).map (·.2)).toArray):=by
 obtain ⟨o,e,O⟩:=lay_all hs.toList [] _ ow_nil (by simpa using hl)
 refine ⟨o,by simpa using O,?_⟩
 unfold laid layClean
 have e2:(hs.foldl (init:=some (Array.replicate (31+1) none,0)) fun acc h=>do
  let (owner,k) ←acc
  let j ←layClean.free 31 owner (turns 31) (bits h % (31+1)) (bits h)
  pure (owner.setIfInBounds j (some k),k+1))=some (o,hs.toList.length):=by
  rw [←Array.foldl_toList]
  simpa using e
 rw [e2]
 rfl
theorem laid_tok {o:Array (Option Nat)}{hs:List Int} (O:Ow o hs) (finger moves:Nat) (led plain:Bool):TOk { mask:=31,place:=((zA0 o).map (·.1)).toArray,dummies:=#[],finger,led,moves,plain } ((zA0 o).filterMap fun p=>hs[p.2]?):=by
 have hlen:((zA0 o).filterMap fun p=>hs[p.2]?).length=(zA0 o).length:=by
  have key:∀ l:List (Nat×Nat),(∀ p∈l,∃ h,hs[p.2]? = some h)→(l.filterMap fun p=>hs[p.2]?).length=l.length:=by
   intro l
   induction l with
   | nil=>intro _; rfl
   | cons p l ih =>
    intro h
    obtain ⟨h',e⟩:=h p (by simp)
    rw [List.filterMap_cons,e]
    simp only [List.length_cons]
    rw [ih fun q hq=>h q (by simp [hq])]
  exact key _ fun ⟨s,k⟩ hp=>by
   obtain ⟨_,h,hh,_⟩:=O.at_ s k (mem_live.mp hp).2
   exact ⟨h,hh⟩
 refine ⟨rfl,.inr rfl,?_,?_,?_,?_⟩
 ·rw [hlen]; simp
 ·show Srt ((zA0 o).map (·.1)).toArray.toList
  rw [List.toList_toArray]
  exact zGU o
 ·intro j hj
  have hj:j∈(zA0 o).map (·.1):=by simpa using hj
  obtain ⟨⟨s,k⟩,hp,rfl⟩:=List.mem_map.mp hj
  exact (O.at_ s k (mem_live.mp hp).2).1
 ·intro p hp
  have hp:p∈((zA0 o).filterMap fun p=>hs[p.2]?).zip ((zA0 o).map (·.1)):=by simpa using hp
  have key:∀ l:List (Nat×Nat),(∀ q∈l,q∈zA0 o)→∀ p∈(l.filterMap fun p=>hs[p.2]?).zip (l.map (·.1)),∃ k,(p.2,k)∈zA0 o∧hs[k]? = some p.1:=by
   intro l
   induction l with
   | nil=>intro _ p hp; simp at hp
   | cons q l ih =>
    intro h p hp
    obtain ⟨s,k⟩:=q
    obtain ⟨_,h',hh,_⟩:=O.at_ s k (mem_live.mp (h (s,k) (by simp))).2
    rw [List.filterMap_cons] at hp
    simp only [hh,List.map_cons,List.zip_cons_cons] at hp
    rcases List.mem_cons.mp hp with z | z
    ·subst z
     exact ⟨k,h _ (by simp),hh⟩
    ·exact ih (fun q hq=>h q (by simp [hq])) p z
  obtain ⟨k,hk1,hk2⟩:=key _ (fun q hq=>hq) p hp
  obtain ⟨_,h,hh,q,hq1,hq2⟩:=O.at_ p.2 k (mem_live.mp hk1).2
  rw [hk2] at hh
  have hh:=Option.some.inj hh
  subst hh
  refine ⟨q,hq1,fun q' hq'=>?_⟩
  have hsome:=hq2 q' hq'
  cases e:o.getD (J 31 p.1 q') none with
  | none=>rw [e] at hsome; cases hsome
  | some k' =>
   have:=(O.at_ _ k' e).1
   show _∈((zA0 o).map (·.1)).toArray.toList
   have:J 31 p.1 q'∈(zA0 o).map (·.1):=List.mem_map.mpr ⟨(J 31 p.1 q',k'),mem_live.mpr ⟨by omega,e⟩,rfl⟩
   simpa using this
end L2S
namespace L2S
open PySem PySem.SetTable
section
variable {prog:Program}{w:World}{K:Type} [DecidableEq K] {knd:KeyKind prog w K}{A:Around}{E:Value→Shared→Prop}{s:Shared}
theorem zFk (n:Nat) {v:Value} (h:carriedByValue v=true):ofAClassStatement n v=pure false:=by
 cases v with
 | ref a=>simp [carriedByValue] at h
 | _=>first | rfl | (unfold ofAClassStatement; rfl)
theorem zCd {ks:List K}{a:Addr}{Q:Bool→Shared→Prop} (hk:IsTupleKey knd s.heap ks a) (h:Q false s):wpAny (model prog w) A (ofAClassStatement 8 (.ref a)) Q E s:=by
 have hT:=hk.typeIs
 obtain ⟨o,items,n,ho,hc,hd,hi⟩:=hk
 unfold ofAClassStatement
 refine wpAny_bind (wpAny_typeOf hT ?_)
 simp only
 refine wpAny_bind (wpAny_pure ?_)
 simp only [Bool.not_true,Bool.false_eq_true,if_false]
 refine wpAny_bind (wpAny_seqItems ho hd ?_)
 simp only
 refine wpAny_bind ?_
 show wpAny _ _ (forIn items _ _) _ _ s
 rw [←Array.forIn_toList]
 refine wpAny_forIn_list _ (fun rest r s'=>r.1=none∧s' = s∧∀ v∈rest,carriedByValue v=true) _ ?_ ?_ _ _ ⟨rfl,rfl,hi.byValue⟩
 ·rintro v rest r s' ⟨hr,rfl,hall⟩
  rw [zFk _ (hall v List.mem_cons_self)]
  refine wpAny_bind (wpAny_pure ?_)
  simp only [Bool.false_eq_true,if_false]
  exact wpAny_pure ⟨rfl,rfl,fun u hu'=>hall u (List.mem_cons_of_mem _ hu')⟩
 ·rintro ⟨r1,r2⟩ s' ⟨hr,rfl,_⟩
  simp only at hr
  subst hr
  exact wpAny_pure h
theorem unseen {ks:List K}{x:Addr}{Q:Bool→Shared→Prop} (hx:IsTupleKey knd s.heap ks x) (stored:List Value) (hall:∀ v∈stored,∃ b kb,v = .ref b∧IsTupleKey knd s.heap kb b) (h:Q false s) :
  wpAny (model prog w) A (searchCouldBeSeen (.ref x) stored) Q E s:=by
 unfold searchCouldBeSeen
 refine wpAny_bind ?_
 refine wpAny_forIn_list _ (fun rest r s'=>r.1=none∧s' = s∧∀ v∈rest,∃ b kb,v = .ref b∧IsTupleKey knd s.heap kb b) _ ?_ ?_ _ _ ⟨rfl,rfl,hall⟩
 ·rintro v rest r s' ⟨hr,rfl,hall⟩
  obtain ⟨b,kb,rfl,hb⟩:=hall v List.mem_cons_self
  have tl:=fun u (hu:u∈rest)=>hall u (List.mem_cons_of_mem _ hu)
  simp only
  have cx:carriedByValue (.ref x)=false:=rfl
  by_cases hv:(x == b)=true
  ·rw [if_pos (by rw [hv]; rfl)]
   exact wpAny_pure ⟨rfl,rfl,tl⟩
  ·rw [if_neg (by rw [cx,Bool.false_and,Bool.or_false]; exact hv)]
   refine wpAny_bind (wpAny_eqIsQuiet_tuple hx ?_)
   simp only [Bool.not_true,Bool.false_eq_true,if_false]
   refine wpAny_bind (wpAny_eqIsQuiet_tuple hb ?_)
   simp only [Bool.not_true,Bool.false_eq_true,if_false]
   refine wpAny_bind (zCd hx ?_)
   simp only [Bool.false_eq_true,if_false]
   refine wpAny_bind (zCd hb ?_)
   simp only [Bool.false_eq_true,if_false]
   exact wpAny_pure ⟨rfl,rfl,tl⟩
 ·rintro ⟨r1,r2⟩ s' ⟨hr,rfl,_⟩
  simp only at hr
  subst hr
  exact wpAny_pure h
structure SetAt (knd:KeyKind prog w K) (h:Heap) (a:Addr) (xs:List (List K×Addr)) (es:Array (Int×Value)) (ep:Nat) (t:SetTable):Prop where
 ob:h.get? a=some { cls:=.type "set",dict:=none,data:=.set es ep t }
 en:es.toList=xs.map fun x=>(tupleKeyHash knd x.1,Value.ref x.2)
 ky:∀ x∈xs,IsTupleKey knd h x.1 x.2
 nd:(xs.map (·.1)).Nodup
 tk:TOk t (xs.map fun x=>tupleKeyHash knd x.1)
 nf:t.place.size * 5 < t.mask * 3
theorem SetAt.fits {h:Heap}{a:Addr}{xs:List (List K×Addr)}{es:Array (Int×Value)}{ep:Nat}{t:SetTable} (S:SetAt knd h a xs es ep t):t.fits es.size=true:=by
 have h1:=S.tk.sz
 have h2:=congrArg List.length S.en
 rw [List.length_map] at h1
 rw [Array.length_toList,List.length_map] at h2
 have h3:=S.nf
 unfold SetTable.fits fill
 rw [S.tk.dm,h2,h1]
 simp
 omega
theorem SetAt.get {h:Heap}{a:Addr}{xs:List (List K×Addr)}{es:Array (Int×Value)}{ep:Nat}{t:SetTable} (S:SetAt knd h a xs es ep t) {i:Nat}{x:List K×Addr} (hi:xs[i]? = some x):es[i]? = some (tupleKeyHash knd x.1,Value.ref x.2):=by
 rw [←Array.getElem?_toList,S.en,List.getElem?_map,hi]
 rfl
theorem zHc {a x:Addr}{k:List K}{xs:List (List K×Addr)}{es:Array (Int×Value)}{ep:Nat}{t:SetTable}{Q:SetFound→Shared→Prop} (S:SetAt knd s.heap a xs es ep t) (hx:IsTupleKey knd s.heap k x) (hu:A.units < cLine)
  {k0:Nat} (hk0:k0≤10 * (t.mask+13)) (he:J t.mask (tupleKeyHash knd k) k0∉t.place.toList) (hl:∀ k' < k0,J t.mask (tupleKeyHash knd k) k'∈t.place.toList)
  (h1:k∈xs.map (·.1)→Q (.there none) s) (h2:k∉xs.map (·.1)→Q (.free (J t.mask (tupleKeyHash knd k) k0) false) s):∀ (d m f:Nat) (stand:Option Probe),m+d=k0→d < f→stand.getD (t.probeStart (tupleKeyHash knd k))=sq t.mask (st0 t.mask (tupleKeyHash knd k)) m →
  (∀ m'',m'' < m→∀ y,xs[below t.place (J t.mask (tupleKeyHash knd k) m'')]? = some y→y.1≠k)→wpAny (model prog w) A (setSearchFrom a (.ref x) (tupleKeyHash knd k) true f stand) Q E s:=by
 intro d
 induction d using Nat.strongRecOn with
 | _ d ih =>
 intro m f stand hd hf hst hno
 obtain ⟨f,rfl⟩:∃ f',f=f' + 1:=⟨f - 1,by omega⟩
 unfold setSearchFrom
 refine wpAny_bind (wpAny_setState_of S.ob rfl S.fits ?_)
 simp only
 have hgw:t.gaveWay=false:=by
  unfold gaveWay
  rcases S.tk.mm with e | e <;> rw [e] <;> rfl
 rw [hgw]
 simp only [Bool.false_eq_true,if_false]
 rw [hst]
 have hfu:d < 10 * turns t.mask:=by unfold turns; omega
 have ixs:∀ m',m' < k0→∃ y,xs[below t.place (J t.mask (tupleKeyHash knd k) m')]? = some y:=fun m' hm'=>by
  have hb:=zGn S.tk.srt (hl m' hm')
  obtain ⟨hlt,_⟩:=Array.getElem?_eq_some_iff.mp hb
  have:=S.tk.sz
  rw [List.length_map] at this
  exact ⟨_,List.getElem?_eq_getElem (by omega)⟩
 have hashAt:∀ {i:Nat}{y:List K×Addr},xs[i]? = some y→((es[i]?.map (·.1)).getD 0)=tupleKeyHash knd y.1:=fun {i y} hy=>by
  rw [S.get hy]
  rfl
 rcases go_at S.tk (fun i=>(es[i]?.map (·.1)).getD 0) (tupleKeyHash knd k) he hl d m (10 * turns t.mask) hd hfu with ⟨m',g1,g2,g3,g4,g5⟩ | ⟨g1,g2⟩
 ·have hp:∀ g:Nat→Int,(g=fun i=>(es[i]?.map (·.1)).getD 0)→t.probe g (tupleKeyHash knd k) (sq t.mask (st0 t.mask (tupleKeyHash knd k)) m)=some (.candidate (J t.mask (tupleKeyHash knd k) m') (below t.place (J t.mask (tupleKeyHash knd k) m')) (sq t.mask (st0 t.mask (tupleKeyHash knd k)) (m' + 1))):=fun g hg=>by
   subst hg
   exact g4
  rw [hp]
  rotate_left
  ·rfl
  simp only
  obtain ⟨y,hy⟩:=ixs m' g2
  have hyk:=S.ky y (List.mem_of_getElem? hy)
  have hsm:t.sameMemory t.moves t.mask=some true:=by
   unfold sameMemory
   rw [if_pos (beq_self_eq_true _)]
  have later:∀ m'',m'' < m' + 1→∀ z,xs[below t.place (J t.mask (tupleKeyHash knd k) m'')]? = some z→¬ y.1=k→z.1≠k:=fun m'' hm'' z hz ne=>by
   by_cases a1:m'' < m
   ·exact hno m'' a1 z hz
   ·by_cases a2:m'' = m'
    ·rw [a2,hy] at hz
     have hz:=Option.some.inj hz
     rw [←hz]
     exact ne
    ·intro ez
     have:=g5 m'' (by omega) (by omega)
     rw [hashAt hz,ez,beq_self_eq_true] at this
     cases this
  rw [S.get hy]
  simp only
  by_cases hled:(!t.led)=true
  ·rw [if_pos hled]
   refine wpAny_bind (unseen hx _ (fun v hv=>?_) ?_)
   ·obtain ⟨p,hp1,rfl⟩:=List.mem_map.mp hv
    have hp2:p∈es.toList:=Array.mem_toList_iff.mpr (Array.mem_filter.mp (Array.mem_toList_iff.mp hp1)).1
    rw [S.en] at hp2
    obtain ⟨q,hq,rfl⟩:=List.mem_map.mp hp2
    exact ⟨q.2,q.1,rfl,S.ky q hq⟩
   simp only [Bool.false_eq_true,if_false]
   refine wpAny_bind (wpAny_holding (wpAny_eqBool_tuple hu hyk hx ?_))
   refine wpAny_bind (wpAny_setState_of S.ob rfl S.fits ?_)
   simp only [Bool.true_and]
   by_cases e:y.1=k
   ·rw [if_pos (decide_eq_true e)]
    exact wpAny_pure (h1 (List.mem_map.mpr ⟨y,List.mem_of_getElem? hy,e⟩))
   ·rw [if_neg (by rw [decide_eq_false e]; exact Bool.false_ne_true),hsm]
    simp only [if_true]
    rw [zDT S.tk.srt (hl m' g2)]
    simp only
    rw [S.get hy]
    simp only
    refine wpAny_bind (wpAny_isSame_ref_self ?_)
    simp only [if_true]
    refine wpAny_bind (wpAny_pure ?_)
    simp only
    rw [if_neg (by rw [decide_eq_false e]; exact Bool.false_ne_true)]
    refine ih (d - (m' + 1 - m)) (by omega) (m' + 1) f (some _) (by omega) (by omega) rfl fun m'' hm'' z hz=>?_
    exact later m'' hm'' z hz e
  ·rw [if_neg hled]
   refine wpAny_bind (wpAny_holding (wpAny_eqBool_tuple hu hyk hx ?_))
   refine wpAny_bind (wpAny_setState_of S.ob rfl S.fits ?_)
   simp only [Bool.true_and]
   by_cases e:y.1=k
   ·rw [if_pos (decide_eq_true e)]
    exact wpAny_pure (h1 (List.mem_map.mpr ⟨y,List.mem_of_getElem? hy,e⟩))
   ·rw [if_neg (by rw [decide_eq_false e]; exact Bool.false_ne_true),hsm]
    simp only [if_true]
    rw [zDT S.tk.srt (hl m' g2)]
    simp only
    rw [S.get hy]
    simp only
    refine wpAny_bind (wpAny_isSame_ref_self ?_)
    simp only [if_true]
    refine wpAny_bind (wpAny_pure ?_)
    simp only
    rw [if_neg (by rw [decide_eq_false e]; exact Bool.false_ne_true)]
    refine ih (d - (m' + 1 - m)) (by omega) (m' + 1) f (some _) (by omega) (by omega) rfl fun m'' hm'' z hz=>?_
    exact later m'' hm'' z hz e
 ·have hp:∀ g:Nat→Int,(g=fun i=>(es[i]?.map (·.1)).getD 0)→t.probe g (tupleKeyHash knd k) (sq t.mask (st0 t.mask (tupleKeyHash knd k)) m)=some (.empty (J t.mask (tupleKeyHash knd k) k0) none):=fun g hg=>by
   subst hg
   exact g1
  rw [hp]
  rotate_left
  ·rfl
  simp only
  refine wpAny_pure (h2 fun hm=>?_)
  obtain ⟨y,hy,e⟩:=List.mem_map.mp hm
  obtain ⟨i,hi,e2⟩:=List.getElem_of_mem hy
  have hyi:xs[i]? = some y:=by rw [List.getElem?_eq_getElem hi,e2]
  obtain ⟨kk,hk1,hk2⟩:=zG5 S.tk (i:=i) (h:=tupleKeyHash knd k) (by rw [List.getElem?_map,hyi,Option.map_some,e]) he
  by_cases hm2:kk < m
  ·exact hno kk hm2 y (by rw [hk2]; exact hyi) e
  ·have:=g2 kk (by omega) hk1
   rw [hk2] at this
   rw [hashAt hyi,e,beq_self_eq_true] at this
   cases this
end
end L2S
namespace L2S
open PySem PySem.SetTable
section
variable {prog:Program}{w:World}{K:Type} [DecidableEq K] {knd:KeyKind prog w K}{A:Around}{E:Value→Shared→Prop}{s:Shared}
theorem hbv_val (n:Nat) {v:Value} (h:carriedByValue v=true):∃ b,hashByValue n v=pure b:=by
 cases v with
 | ref a=>simp [carriedByValue] at h
 | _=>first | exact ⟨_,rfl⟩ | (unfold hashByValue; exact ⟨_,rfl⟩)
theorem hbv_tuple {ks:List K}{a:Addr}{Q:Bool→Shared→Prop} (hk:IsTupleKey knd s.heap ks a) (h:∀ b,Q b s):wpAny (model prog w) A (hashByValue 8 (.ref a)) Q E s:=by
 have hT:=hk.typeIs
 obtain ⟨o,items,n,ho,hc,hd,hi⟩:=hk
 unfold hashByValue
 refine wpAny_bind (wpAny_specialOf hT F.slot_tuple_hash.lookup ?_)
 simp only
 refine wpAny_bind (wpAny_seqItems ho hd ?_)
 simp only [Option.getD_some]
 refine wpAny_bind ?_
 rw [←Array.forIn_toList]
 refine wpAny_forIn_list _ (fun rest r s'=>r.1=none∧s' = s∧∀ v∈rest,carriedByValue v=true) _ ?_ ?_ _ _ ⟨rfl,rfl,hi.byValue⟩
 ·rintro v rest r s' ⟨hr,rfl,hall⟩
  obtain ⟨b,e⟩:=hbv_val 7 (hall v List.mem_cons_self)
  rw [e]
  refine wpAny_bind (wpAny_pure ?_)
  cases b with
  | true =>
   simp only [Bool.not_true,Bool.false_eq_true,if_false]
   exact wpAny_pure ⟨rfl,rfl,fun u hu'=>hall u (List.mem_cons_of_mem _ hu')⟩
  | false =>
   simp only [Bool.not_false,if_true]
   exact wpAny_pure (wpAny_pure (h false))
 ·rintro ⟨r1,r2⟩ s' ⟨hr,rfl,_⟩
  simp only at hr
  subst hr
  exact wpAny_pure (h true)
theorem sa_upd {h:Heap}{a:Addr}{es:Array (Int×Value)}{ep:Nat}{t:SetTable} (ho:h.get? a=some { cls:=.type "set",dict:=none,data:=.set es ep t }) (es':Array (Int×Value)) (t':SetTable) :
  (h.update a (Obj.putSet es' t')).get? a=some { cls:=.type "set",dict:=none,data:=.set es' (ep+1) t' }:=by
 have:=Heap.get?_update_self (Obj.putSet es' t') ho (by rfl)
 exact this
theorem zDK {h h':Heap}{a b:Addr}{ks:List K}{es:Array (Int×Value)}{ep:Nat}{t:SetTable} (hk:IsTupleKey knd h ks b) (ho:h.get? a=some { cls:=.type "set",dict:=none,data:=.set es ep t }) (sb:Heap.SameBut a h h'):IsTupleKey knd h' ks b:=by
 obtain ⟨o,items,n,h1,h2,h3,h4⟩:=hk
 have ne:b≠a:=fun z=>by
  rw [z,ho] at h1
  have h1:=Option.some.inj h1
  rw [←h1] at h3
  cases h3
 exact ⟨o,items,n,(sb.2 b ne).trans h1,h2,h3,h4⟩
def Added (xs xs':List (List K×Addr)) (k:List K):Prop:=∀ k',k'∈xs'.map (·.1)↔k' = k∨k'∈xs.map (·.1)
theorem relay_ok {a:Addr}{xs:List (List K×Addr)}{es:Array (Int×Value)}{ep:Nat}{t:SetTable}{Q:Unit→Shared→Prop} (ob:s.heap.get? a=some { cls:=.type "set",dict:=none,data:=.set es ep t })
  (en:es.toList=xs.map fun x=>(tupleKeyHash knd x.1,Value.ref x.2)) (ky:∀ x∈xs,IsTupleKey knd s.heap x.1 x.2) (nd:(xs.map (·.1)).Nodup) (hf:t.fits es.size=true) (h5:xs.length≤5)
  (h:∀ h' xs' es' ep' t',Heap.SameBut a s.heap h'→SetAt knd h' a xs' es' ep' t'→(∀ k',k'∈xs'.map (·.1)↔k'∈xs.map (·.1))→xs'.length=xs.length→Q () { s with heap:=h' }) :
  wpAny (model prog w) A (setRelay a 20) Q E s:=by
 have hel:es.size=xs.length:=by
  have:=congrArg List.length en
  rw [Array.length_toList,List.length_map] at this
  exact this
 have hhs:(es.map (·.1)).toList=xs.map fun x=>tupleKeyHash knd x.1:=by
  rw [Array.toList_map,en,List.map_map]
  rfl
 obtain ⟨o,O,el⟩:=laid_ok (hs:=es.map (·.1)) (by rw [Array.size_map]; omega) t.finger (t.movedTo 31) t.led t.plain
 rw [hhs] at O
 have er:t.relaid (es.map (·.1)) 20=some ({ mask:=31,place:=((zA0 o).map (·.1)).toArray,dummies:=#[],finger:=t.finger,led:=t.led,moves:=t.movedTo 31,plain:=t.plain },((zA0 o).map (·.2)).toArray):=by
  unfold relaid
  have e20:sizeAbove 20 - 1=31:=by decide
  rw [e20]
  exact el
 have ll:=zGV O
 rw [List.length_map] at ll
 have hget:∀ p∈zA0 o,∃ x,xs[p.2]? = some x:=fun ⟨s',k⟩ hp=>by
  obtain ⟨_,h',hh,_⟩:=O.at_ s' k (mem_live.mp hp).2
  rw [List.getElem?_map] at hh
  cases e:xs[k]? with
  | none=>rw [e] at hh; cases hh
  | some x=>exact ⟨x,rfl⟩
 have hes:((((zA0 o).map (·.2)).toArray).filterMap (es[·]?)).toList=((zA0 o).filterMap fun p=>xs[p.2]?).map fun x=>(tupleKeyHash knd x.1,Value.ref x.2):=by
  rw [Array.toList_filterMap,List.toList_toArray,List.filterMap_map,List.map_filterMap]
  congr 1
  funext p
  show es[p.2]? = (xs[p.2]?).map _
  rw [←Array.getElem?_toList,en,List.getElem?_map]
 have hlen:∀ l:List (Nat×Nat),(∀ p∈l,∃ x,xs[p.2]? = some x)→(l.filterMap fun p=>xs[p.2]?).length=l.length:=by
  intro l
  induction l with
  | nil=>intro _; rfl
  | cons p l ih =>
   intro hp
   obtain ⟨x,e⟩:=hp p (by simp)
   rw [List.filterMap_cons,e]
   simp only [List.length_cons]
   rw [ih fun q hq=>hp q (by simp [hq])]
 have hxl:((zA0 o).filterMap fun p=>xs[p.2]?).length=xs.length:=by rw [hlen _ hget,ll]
 have hsz:((((zA0 o).map (·.2)).toArray).filterMap (es[·]?)).size=es.size:=by
  rw [←Array.length_toList,hes,List.length_map,hxl,hel]
 show wpAny (model prog w) A (do
  let (es,_,t) ←setState a
  if SetTable.sizeAbove 20 > sizeLine then unsupported "set:memory"
  let (es,t) ←(do
   let some (t,order):=t.relaid (es.map (·.1)) 20 | unsupported "internal:set-table-without-room"
   let es':=order.filterMap (es[·]?)
   if es'.size != es.size then unsupported "internal:set-table-lost-an-element"
   pure (es',t))
  storeSet a es t) Q E s
 refine wpAny_bind (wpAny_setState_of ob rfl hf ?_)
 simp only
 rw [if_neg (by rw [sizeLine_eq]; decide),er]
 simp only
 rw [hsz]
 simp only [bne_self_eq_false,Bool.false_eq_true,if_false]
 refine wpAny_bind (wpAny_pure ?_)
 simp only
 refine wpAny_storeSet_of ob rfl ?_ (by rw [hsz,hel,sizeLine_eq]; omega)
 have sb:=Heap.SameBut.update s.heap a (Obj.putSet ((((zA0 o).map (·.2)).toArray).filterMap (es[·]?)) { mask:=31,place:=((zA0 o).map (·.1)).toArray,dummies:=#[],finger:=t.finger,led:=t.led,moves:=t.movedTo 31,plain:=t.plain })
 refine h _ ((zA0 o).filterMap fun p=>xs[p.2]?) _ _ _ sb ⟨sa_upd ob _ _,hes,fun x hx=>?_,?_,?_,?_⟩ (fun k'=>?_) hxl
 ·obtain ⟨p,_,hp⟩:=List.mem_filterMap.mp hx
  exact zDK (ky x (List.mem_of_getElem? hp)) ob sb
 ·-- no two alike
  have nd2:((zA0 o).map (·.2)).Nodup:=zDd (fun x hx y hy e=>by
   obtain ⟨s1,k1⟩:=x
   obtain ⟨s2,k2⟩:=y
   have e:k1=k2:=e
   subst e
   rw [O.one s1 s2 k1 (mem_live.mp hx).2 (mem_live.mp hy).2]) live_nd
  have key:∀ l:List (Nat×Nat),(l.map (·.2)).Nodup→((l.filterMap fun p=>xs[p.2]?).map (·.1)).Nodup:=by
   intro l
   induction l with
   | nil=>intro _; simp
   | cons p l ih =>
    intro hn
    rw [List.map_cons,List.nodup_cons] at hn
    rw [List.filterMap_cons]
    cases e:xs[p.2]? with
    | none=>simpa [e] using ih hn.2
    | some x =>
     simp only [List.map_cons]
     refine List.nodup_cons.mpr ⟨fun hm=>?_,ih hn.2⟩
     obtain ⟨y,hy,ey⟩:=List.mem_map.mp hm
     obtain ⟨q,hq,eq⟩:=List.mem_filterMap.mp hy
     have i1:(xs.map (·.1))[p.2]? = some x.1:=by rw [List.getElem?_map,e]; rfl
     have i2:(xs.map (·.1))[q.2]? = some x.1:=by rw [List.getElem?_map,eq,Option.map_some,ey]
     have:=(List.getElem?_inj (List.getElem?_eq_some_iff.mp i1).1 nd).mp (i1.trans i2.symm)
     exact hn.1 (List.mem_map.mpr ⟨q,hq,this.symm⟩)
  exact key _ nd2
 ·have T:=laid_tok O t.finger (t.movedTo 31) t.led t.plain
  have e:((zA0 o).filterMap fun p=>(xs.map fun x=>tupleKeyHash knd x.1)[p.2]?)=((zA0 o).filterMap fun p=>xs[p.2]?).map fun x=>tupleKeyHash knd x.1:=by
   rw [List.map_filterMap]
   congr 1
   funext p
   rw [List.getElem?_map]
  rw [e] at T
  exact T
 ·show ((zA0 o).map (·.1)).toArray.size * 5 < 31 * 3
  rw [List.size_toArray,List.length_map,ll]
  omega
 ·constructor
  ·intro hm
   obtain ⟨x,hx,e⟩:=List.mem_map.mp hm
   obtain ⟨p,_,hp⟩:=List.mem_filterMap.mp hx
   exact List.mem_map.mpr ⟨x,List.mem_of_getElem? hp,e⟩
  ·intro hm
   obtain ⟨x,hx,e⟩:=List.mem_map.mp hm
   obtain ⟨i,hi,ei⟩:=List.getElem_of_mem hx
   obtain ⟨s',hs'⟩:=O.ex i (by rw [List.length_map]; exact hi)
   refine List.mem_map.mpr ⟨x,List.mem_filterMap.mpr ⟨(s',i),mem_live.mpr ⟨by have:=(O.at_ s' i hs').1; omega,hs'⟩,?_⟩,e⟩
   show xs[i]? = some x
   rw [List.getElem?_eq_getElem hi,ei]
theorem j_run {mask:Nat}:∀ (k j m i pe:Nat) (d:Option Nat),j+m≤mask→i≤mask→(sq mask { j:=j,more:=m,i,perturb:=pe,dummy:=d } k).j≤mask
 | 0,j,m,i,pe,d,h,_=>by
  show j≤mask
  omega
 | k+1,j,0,i,pe,d,h,hi=>by
  have hlp:(leap mask i pe).1≤mask:=by
   show (i * 5+1+pe / 32) % (mask+1)≤mask
   have:=Nat.mod_lt (i * 5+1+pe / 32) (show 0 < mask+1 by omega)
   omega
  obtain ⟨r1,r2⟩:=zDY hlp
  exact j_run k (leap mask i pe).1 (runEnd mask (leap mask i pe).1 - (leap mask i pe).1) (leap mask i pe).1 (leap mask i pe).2 d (by omega) hlp
 | k+1,j,m+1,i,pe,d,h,hi=>j_run k (j+1) m i pe d (by omega) hi
theorem j_le {mask:Nat}{h:Int} (hm:0 < mask) (k:Nat):J mask h k≤mask:=by
 have h0:bits h % (mask+1)≤mask:=by
  have:=Nat.mod_lt (bits h) (show 0 < mask+1 by omega)
  omega
 obtain ⟨r1,r2⟩:=zDY h0
 exact j_run k _ _ _ _ _ (by omega) h0
theorem add_ok {a x:Addr}{k:List K}{xs:List (List K×Addr)}{es:Array (Int×Value)}{ep:Nat}{t:SetTable}{Q:Bool→Shared→Prop} (S:SetAt knd s.heap a xs es ep t) (hx:IsTupleKey knd s.heap k x) (hu:A.units < cLine) (h7:xs.length≤7)
  (h:∀ b h' xs' es' ep' t',Heap.SameBut a s.heap h'→SetAt knd h' a xs' es' ep' t'→Added xs xs' k→xs'.length≤xs.length+1→Q b { s with heap:=h',toks:=s.toks+(k.length+1) }) :
  wpAny (model prog w) A (setAdd a (.ref x)) Q E s:=by
 unfold setAdd
 refine wpAny_holding (wpAny_bind (wpAny_pyHash_tuple hu hx ?_))
 unfold setAddHashed
 refine wpAny_holding ?_
 generalize hs1:({ s with toks:=s.toks+(k.length+1) }:Shared)=s1
 have hh:s1.heap=s.heap:=by rw [←hs1]
 have S1:SetAt knd s1.heap a xs es ep t:=by rw [hh]; exact S
 have hx1:IsTupleKey knd s1.heap k x:=by rw [hh]; exact hx
 have h:∀ b h' xs' es' ep' t',Heap.SameBut a s1.heap h'→SetAt knd h' a xs' es' ep' t'→Added xs xs' k→xs'.length≤xs.length+1→Q b { s1 with heap:=h' }:=fun b h' xs' es' ep' t' sb s' ad hl=>by
  have:=h b h' xs' es' ep' t' (by rw [←hh]; exact sb) s' ad hl
  rw [←hs1]
  exact this
 clear hs1 hh
 unfold setAddHashedIn
 refine wpAny_bind (wpAny_setState_of S1.ob rfl S1.fits ?_)
 simp only
 have hbs:byScan (.ref x) es=false:=rfl
 rw [hbs]
 simp only [Bool.false_eq_true,if_false]
 have hpl:t.place.toList.length=xs.length:=by
  have:=S1.tk.sz
  rw [List.length_map] at this
  rw [Array.length_toList,this]
 have hm7:7≤t.mask:=by rcases S1.tk.mm with e | e <;> omega
 obtain ⟨k0,hk0,he,hl⟩:=zHB (ps:=t.place.toList) S1.tk.mm (by omega) (tupleKeyHash knd k)
 refine wpAny_bind ?_
 unfold setSearch
 refine zHc S1 hx1 hu hk0 he hl (fun hin=>?_) (fun hout=>?_) k0 0 100000 none (by omega) (by rcases S1.tk.mm with e | e <;> omega) rfl (fun m'' hm''=>by omega)
 ·refine wpAny_pure ?_
  have e:s1={ s1 with heap:=s1.heap }:=by cases s1; rfl
  rw [e]
  exact h false s1.heap xs es ep t (Heap.SameBut.refl a s1.heap) S1 (fun k'=>⟨fun z=>.inr z,fun z=>z.elim (fun e=>by rw [e]; exact hin) id⟩) (by omega)
 ·simp only
  refine wpAny_bind (wpAny_setState_of S1.ob rfl S1.fits ?_)
  simp only
  have hjm:J t.mask (tupleKeyHash knd k) k0≤t.mask:=by
   have hin:∀ k',J t.mask (tupleKeyHash knd k) k'≤t.mask:=fun k'=>j_le (by omega) k'
   exact hin k0
  obtain ⟨T2,p1,p2,p3⟩:=put_ok S1.tk (tupleKeyHash knd k) hjm he hl
  generalize hj:J t.mask (tupleKeyHash knd k) k0=j at T2 p1 p2 p3
  rw [p1]
  have hb:=(zDM S1.tk.srt j).1
  have hesl:es.toList.length=xs.length:=by rw [S1.en,List.length_map]
  have hbx:below t.place j≤xs.length:=by rw [Array.size_eq_length_toList,hpl] at hb; exact hb
  have hes':(insertAt es (below t.place j) (tupleKeyHash knd k,Value.ref x)).toList=(xs.take (below t.place j)++(k,x)::xs.drop (below t.place j)).map fun x=>(tupleKeyHash knd x.1,Value.ref x.2):=by
   rw [zBv _ _ _ (by rw [←Array.length_toList,hesl]; exact hbx),S1.en,List.map_append,List.map_cons,List.map_take,List.map_drop]
  have hhs':(xs.map fun x=>tupleKeyHash knd x.1).take (below t.place j)++tupleKeyHash knd k::(xs.map fun x=>tupleKeyHash knd x.1).drop (below t.place j)=(xs.take (below t.place j)++(k,x)::xs.drop (below t.place j)).map fun x=>tupleKeyHash knd x.1:=by
   rw [List.map_append,List.map_cons,List.map_take,List.map_drop]
  rw [hhs'] at T2
  have hl':(xs.take (below t.place j)++(k,x)::xs.drop (below t.place j)).length=xs.length+1:=by
   rw [List.length_append,List.length_cons,List.length_take,List.length_drop]
   omega
  have mem':∀ y,y∈xs.take (below t.place j)++(k,x)::xs.drop (below t.place j)↔y=(k,x)∨y∈xs:=fun y=>by
   rw [List.mem_append,List.mem_cons]
   constructor
   ·rintro (z | z | z)
    ·exact .inr (List.mem_of_mem_take z)
    ·exact .inl z
    ·exact .inr (List.mem_of_mem_drop z)
   ·rintro (z | z)
    ·exact .inr (.inl z)
    ·rw [←List.take_append_drop (below t.place j) xs,List.mem_append] at z
     rcases z with z | z
     ·exact .inl z
     ·exact .inr (.inr z)
  have ad:Added xs (xs.take (below t.place j)++(k,x)::xs.drop (below t.place j)) k:=fun k'=>by
   constructor
   ·intro hm
    obtain ⟨y,hy,e⟩:=List.mem_map.mp hm
    rcases (mem' y).mp hy with z | z
    ·left; rw [←e,z]
    ·right; exact List.mem_map.mpr ⟨y,z,e⟩
   ·rintro (z | z)
    ·exact List.mem_map.mpr ⟨(k,x),(mem' _).mpr (.inl rfl),z.symm⟩
    ·obtain ⟨y,hy,e⟩:=List.mem_map.mp z
     exact List.mem_map.mpr ⟨y,(mem' _).mpr (.inr hy),e⟩
  have nd':((xs.take (below t.place j)++(k,x)::xs.drop (below t.place j)).map (·.1)).Nodup:=by
   rw [List.map_append,List.map_cons,List.map_take,List.map_drop]
   have h0:=S1.nd
   rw [←List.take_append_drop (below t.place j) (xs.map (·.1)),List.nodup_append] at h0
   obtain ⟨n1,n2,n3⟩:=h0
   rw [List.nodup_append]
   refine ⟨n1,List.nodup_cons.mpr ⟨fun z=>hout (List.mem_of_mem_drop z),n2⟩,fun y hy z hz=>?_⟩
   rcases List.mem_cons.mp hz with q | q
   ·rw [q]
    intro e
    have e:y=k:=e
    rw [e] at hy
    exact hout (List.mem_of_mem_take hy)
   ·exact n3 y hy z q
  have rest:∀ b:Bool,wpAny (model prog w) A (do
    storeSet a (insertAt es (below t.place j) (tupleKeyHash knd k,Value.ref x)) (if b=true then (t.put j).1 else { (t.put j).1 with plain:=false })
    if (!false && (if b=true then (t.put j).1 else { (t.put j).1 with plain:=false }).tooFull)=true then do
     setRelay a (grown (es.size+1))
     pure true
    else pure true) Q E s1:=by
   intro b
   have T3:∀ b:Bool,TOk (if b=true then (t.put j).1 else { (t.put j).1 with plain:=false }) ((xs.take (below t.place j)++(k,x)::xs.drop (below t.place j)).map fun x=>tupleKeyHash knd x.1):=fun b=>by
    cases b with
    | true=>exact T2
    | false=>exact ⟨T2.dm,T2.mm,T2.sz,T2.srt,T2.le,T2.rc⟩
   have q3:∀ b:Bool,(if b=true then (t.put j).1 else { (t.put j).1 with plain:=false }).place.size=t.place.size+1:=fun b=>by cases b <;> exact p2
   have q4:∀ b:Bool,(if b=true then (t.put j).1 else { (t.put j).1 with plain:=false }).mask=t.mask:=fun b=>by cases b <;> exact p3
   generalize ht2:(if b=true then (t.put j).1 else { (t.put j).1 with plain:=false })=t2
   have T3:=T3 b
   have q3:=q3 b
   have q4:=q4 b
   rw [ht2] at T3 q3 q4
   have hez:(insertAt es (below t.place j) (tupleKeyHash knd k,Value.ref x)).size=xs.length+1:=by rw [←Array.length_toList,hes',List.length_map,hl']
   refine wpAny_bind (wpAny_storeSet_of S1.ob rfl ?_ (by rw [hez,sizeLine_eq]; omega))
   have sb:=Heap.SameBut.update s1.heap a (Obj.putSet (insertAt es (below t.place j) (tupleKeyHash knd k,Value.ref x)) t2)
   have ob2:=sa_upd S1.ob (insertAt es (below t.place j) (tupleKeyHash knd k,Value.ref x)) t2
   have ky2:∀ y∈xs.take (below t.place j)++(k,x)::xs.drop (below t.place j),IsTupleKey knd (s1.heap.update a (Obj.putSet (insertAt es (below t.place j) (tupleKeyHash knd k,Value.ref x)) t2)) y.1 y.2:=fun y hy=>by
    rcases (mem' y).mp hy with z | z
    ·rw [z]
     exact zDK hx1 S1.ob sb
    ·exact zDK (S1.ky y z) S1.ob sb
   have hps:t.place.size=xs.length:=by rw [←Array.length_toList,hpl]
   by_cases hfull:t2.tooFull=true
   ·rw [if_pos (by rw [hfull]; rfl)]
    have hfull2:(t2.place.size+t2.dummies.size) * 5 ≥ t2.mask * 3:=of_decide_eq_true hfull
    rw [T3.dm,q3,q4,hps] at hfull2
    have hnf:=S1.nf
    have hxs4:xs.length=4:=by
     rcases S1.tk.mm with e | e
     ·rw [e] at hfull2 hnf
      simp at hfull2
      omega
     ·rw [e] at hfull2
      simp at hfull2
      omega
    have hes4:es.size=4:=by rw [←Array.length_toList,hesl]; exact hxs4
    have eg:grown (es.size+1)=20:=by rw [hes4]; rfl
    rw [eg]
    refine wpAny_bind (relay_ok (s:={ s1 with heap:=s1.heap.update a (Obj.putSet (insertAt es (below t.place j) (tupleKeyHash knd k,Value.ref x)) t2) }) ob2 hes' ky2 nd' ?_ (by rw [hl']; omega) fun h' xs' es' ep' t' sb' S' mm ll=>?_)
    ·unfold SetTable.fits fill
     rw [T3.dm,q3,q4,hez,hps]
     simp
     omega
    ·exact wpAny_pure (h true h' xs' es' ep' t' (sb.trans sb') S' (fun k'=>(mm k').trans (ad k')) (by rw [ll,hl']; omega))
   ·have hff:t2.tooFull=false:=by
     cases e:t2.tooFull with
     | false=>rfl
     | true=>exact absurd e hfull
    rw [hff]
    simp only [Bool.not_false,Bool.true_and,Bool.false_eq_true,if_false]
    have hnf2:¬ (t2.place.size+t2.dummies.size) * 5 ≥ t2.mask * 3:=of_decide_eq_false hff
    rw [T3.dm] at hnf2
    refine wpAny_pure (h true _ _ _ _ _ sb ⟨ob2,hes',ky2,nd',T3,?_⟩ ad (by rw [hl']; omega))
    simp at hnf2
    exact hnf2
  split
  ·exact wpAny_bind (hbv_tuple hx1 rest)
  ·exact wpAny_bind (wpAny_pure (rest true))
end
end L2S
namespace L2S
open PySem PySem.SetTable
theorem zEP:isSubtype (.type "tuple") (.type "set")=pure false:=by rw [isSubtype_type]; kernel_rfl
theorem zCJ:isSubtype (.type "tuple") (.type "frozenset")=pure false:=by rw [isSubtype_type]; kernel_rfl
theorem zHL (led:Bool):TOk (.fresh 0 0 led) []:=⟨rfl,.inl rfl,rfl,.nil,fun j hj=>by simp [SetTable.fresh] at hj,fun q hq=>by simp at hq⟩
section
variable {prog:Program}{w:World}{K:Type} [DecidableEq K] {knd:KeyKind prog w K}{A:Around}{R:Result→Shared→Prop}{I:Addr}{fp wr:List Addr}{G:Array GenState→Array GenState→Prop}{n:Nat}{P:Nat→Value→Prop}{St:Nat→Shared→Prop}
def Holds (knd:KeyKind prog w K) (h:Heap) (S:Addr) (l:List (List K)):Prop:=∃ xs es ep t,SetAt knd h S xs es ep t∧(∀ k,k∈xs.map (·.1)↔k∈l)∧xs.length≤l.length
theorem Holds.moved {h h':Heap}{S:Addr}{l:List (List K)} (H:Holds knd h S l) (hS:∀ o,h.get? S=some o→h'.get? S=some o) (hk:∀ q p,IsTupleKey knd h q p→IsTupleKey knd h' q p):Holds knd h' S l:=by
 obtain ⟨xs,es,ep,t,S1,mm,ll⟩:=H
 exact ⟨xs,es,ep,t,⟨hS _ S1.ob,S1.en,fun x hx=>hk _ _ (S1.ky x hx),S1.nd,S1.tk,S1.nf⟩,mm,ll⟩
theorem zFG {s s':Shared}{q:List K}{p:Addr} (hI:∀ b∈wr,∀ o,s.heap.get? b=some o→o.cls≠.type "tuple") (hm:Moved wr G s s') (h:IsTupleKey knd s.heap q p):IsTupleKey knd s'.heap q p:=by
 obtain ⟨o,items,m,h1,h2,h3,h4⟩:=h
 exact ⟨o,items,m,hm.heap p o (fun hw=>hI p hw o h1 h2) h1,h2,h3,h4⟩
theorem loop_ok (W:WalksS prog w A.in1 I fp wr G n P St) (S:Addr) (hSf:S∉fp) (hu:A.in1.units < cLine) (ks:List (List K)) (ps:List Addr) (hn:ks.length=n) (h8:n≤8) (hP:∀ i v,P i v→∃ p,ps[i]? = some p∧v = .ref p)
  (hI:∀ i s,St i s→∀ b∈wr,∀ o,s.heap.get? b=some o→o.cls≠.type "tuple"):∀ (k i:Nat) (s:Shared),n - i=k→i≤n→St i s→(∀ (i:Nat) p q,ps[i]? = some p→ks[i]? = some q→IsTupleKey knd s.heap q p) →
   Holds knd s.heap S (ks.take i)→(∀ s',Moved (S::wr) G s s'→Holds knd s'.heap S ks→R (.ok (.ret .none)) s') →
   codeAny (model prog w) A (.builtin "set.update.loop" ⟨[.ref S,.ref I],[]⟩) R s:=by
 have hSw:S∉wr:=fun h=>hSf (W.sub _ h)
 have hsub:∀ b∈wr,b∈S::wr:=fun b hb=>List.mem_cons_of_mem _ hb
 intro k
 induction k with
 | zero =>
  intro i s hk hi hst hky hS hR
  have hin:i=n:=by omega
  subst hin
  refine codeAny_builtin PyProof.Rows.F.entry_set_update_loop ?_
  rw [Around.under_plainId PyProof.Rows.F.plain_set_update_loop _]
  show wpAny _ A.in1 (pyNext (.ref I) >>= _) _ _ s
  refine wpAny_bind (W.done s _ _ hst fun s' hm=>?_)
  show wpAny _ A.in1 (ret Value.none) _ _ s'
  refine wpAny_pure (hR s' (hm.mono hsub) ?_)
  rw [←hn,List.take_length] at hS
  exact hS.moved (fun o e=>hm.heap S _ hSw e) fun q p h=>zFG (hI _ s hst) hm h
 | succ k ih =>
  intro i s hk hi hst hky hS hR
  have hlt:i < n:=by omega
  refine codeAny_builtin PyProof.Rows.F.entry_set_update_loop ?_
  rw [Around.under_plainId PyProof.Rows.F.plain_set_update_loop _]
  show wpAny _ A.in1 (pyNext (.ref I) >>= _) _ _ s
  refine wpAny_bind (W.item i s _ _ hlt hst fun v s' hPv hst' hm=>?_)
  obtain ⟨p,hp,rfl⟩:=hP i v hPv
  obtain ⟨q,hq⟩:∃ q,ks[i]? = some q:=⟨_,List.getElem?_eq_getElem (by omega)⟩
  have km:∀ {q:List K}{p:Addr},IsTupleKey knd s.heap q p→IsTupleKey knd s'.heap q p:=fun h=>zFG (hI _ s hst) hm h
  have hS':=hS.moved (h':=s'.heap) (fun o e=>hm.heap S _ hSw e) fun q p h=>km h
  obtain ⟨xs,es,ep,t,S1,mm,ll⟩:=hS'
  rw [List.length_take] at ll
  show wpAny _ A.in1 (holding [Value.ref p] (setAdd S (.ref p)) >>= _) _ _ s'
  refine wpAny_bind (wpAny_holding (add_ok S1 (km (hky i p q hp hq)) hu (by omega) fun b h' xs' es' ep' t' sb S2 ad hl=>?_))
  have etk:ks.take (i+1)=ks.take i++[q]:=by
   obtain ⟨hl',e'⟩:=List.getElem?_eq_some_iff.mp hq
   rw [List.take_succ,hq]
   rfl
  have hSi:Holds knd h' S (ks.take (i+1)):=⟨xs',es',ep',t',S2,fun k'=>by
    rw [ad k',mm k',etk,List.mem_append,List.mem_singleton]
    exact Or.comm,by rw [List.length_take]; omega⟩
  refine wpAny_pure ⟨plainId_quiet PyProof.Rows.F.plain_set_update_loop _,ih (i+1) _ (by omega) hlt (W.frame _ s' _ _ hst' (by omega) fun b hb o e=>?_) (fun j p q h1 h2=>zDK (km (hky j p q h1 h2)) S1.ob sb) hSi fun s'' hm'' hS''=>?_⟩
  ·rw [sb.2 b (fun h:b=S=>hSf (by rw [←h]; exact hb))]; exact e
  ·refine hR s'' (Moved.trans W.gtrans ((hm.mono hsub).then_heap (by omega) fun b o hb e=>?_) hm'') hS''
   rw [sb.2 b (fun h:b=S=>hb (by rw [h]; exact List.mem_cons_self))]; exact e
end
section
variable {prog:Program}{w:World}{K:Type} [DecidableEq K] {knd:KeyKind prog w K}{A:Around}{E:Value→Shared→Prop}{s:Shared}
set_option maxHeartbeats 3200000 in
theorem zDv {l:Addr}{items:Array Value}{ks:List (List K)}{ps:List Addr}{Q:Value→Shared→Prop}
  (hh:A.handled=none) (hu:A.in1.in1.in1.units < cLine) (hl:s.heap.IsTuple l items) (hi:items.toList=ps.map Value.ref) (hk:∀ (i:Nat) p q,ps[i]? = some p→ks[i]? = some q→IsTupleKey knd s.heap q p) (hn:ks.length=items.size) (h8:items.size≤8)
  (h:∀ (h':Heap) (tk:Nat),Holds knd h' s.heap.objs.size ks→(∀ b o,b < s.heap.objs.size→s.heap.get? b=some o→h'.get? b=some o)→Q (.ref s.heap.objs.size) { s with heap:=h',toks:=tk }) :
  wpAny (model prog w) A (call (.type "set") [.ref l]) Q E s:=by
 obtain ⟨c,tl,hmro⟩:=F.called_set.mro
 have hmade:=F.called_set.made
 have hsub:=F.called_set.sub
 refine wpAny_call (codeAny_of_tree ?_)
 show wpAny _ _ (callAny (.type "set") _) _ _ _
 refine wpAny_pure ⟨Code.quiet_builtin _ (by decide +kernel),codeAny_builtin F.entry_type_call ?_⟩
 rw [Around.under_plain (weight_type_call_type "set" [.ref l] []) rfl]
 have h1:=F.called_set.notType
 have h2:=F.called_set.canCreate
 have hct:=F.typeCall_set_1 (.ref l)
 repeat (any_goals (first | assumption | wp_step))
 refine codeAny_mono (code_set_new_1 (.ref l) (E:=E) (Q₁:=fun obj s₁=>∃ led:Bool,obj = .ref s.heap.objs.size∧s₁={ s with heap:=s.heap.push { cls:=.type "set",dict:=none,data:=.set #[] 0 (.fresh 0 0 led) } }) fun led=>⟨led,rfl,rfl⟩) fun r s₁ hr=>?_
 cases r with
 | error e=>exact hr
 | ok fl =>
  cases fl with
  | ret obj =>
   obtain ⟨led,rfl,rfl⟩:=hr
   have hS:(s.heap.push { cls:=.type "set",dict:=none,data:=.set #[] 0 (.fresh 0 0 led) }).get? s.heap.objs.size=some { cls:=.type "set",dict:=none,data:=.set #[] 0 (.fresh 0 0 led) }:=Heap.get?_push_size _ rfl
   have hT:Shared.TypeIs { s with heap:=s.heap.push { cls:=.type "set",dict:=none,data:=.set #[] 0 (.fresh 0 0 led) } } (.ref s.heap.objs.size) "set":=⟨_,hS,rfl⟩
   have hli:=F.called_set.init.lookup
   have hbi:=F.called_set.init.bind (.ref s.heap.objs.size)
   repeat (any_goals (first | assumption | wp_step))
   refine codeAny_mono (codeAny_call_builtin (R:=wants (fun r s₂=>r = .none∧∃ h' tk,s₂={ s with heap:=h',toks:=tk }∧Holds knd h' s.heap.objs.size ks ∧
     (∀ b o,b < s.heap.objs.size→s.heap.get? b=some o→h'.get? b=some o)) E) F.called_set.init.plain F.entry_set_init (check_set_init_1 hT ?_)) fun r₂ s₂ hr₂=>?_
   ·have keyP:∀ {q:List K}{p:Addr}{o1 o2:Obj},IsTupleKey knd s.heap q p→IsTupleKey knd ((s.heap.push o1).push o2) q p:=fun {q p o1 o2} ⟨o,it,m,e1,e2,e3,e4⟩=>⟨o,it,m,Heap.get?_push_of_some _ (Heap.get?_push_of_some _ e1),e2,e3,e4⟩
    obtain ⟨ol,hol,hcl,nl,hdl⟩:=hl
    obtain ⟨ocls,odict,odata,oslots⟩:=ol
    simp only at hcl hdl
    subst hcl; subst hdl
    have hol':(s.heap.push { cls:=.type "set",dict:=none,data:=.set #[] 0 (.fresh 0 0 led) }).get? l=some { cls:=.type "tuple",dict:=odict,data:=.seq items nl,slots:=oslots }:=Heap.get?_push_of_some _ hol
    have hsls:=zEP
    have hslf:=zCJ
    have hne:(Value.type "tuple" == Value.type "dict")=false:=by decide
    have hl1:(s.heap.push { cls:=.type "set",dict:=none,data:=.set #[] 0 (.fresh 0 0 led) }).IsTuple l items:=⟨_,hol',rfl,nl,rfl⟩
    unfold Builtin.«set.__init__» noKeywords Builtin.Frozenset.updateFrom
    generalize hPI:pyIter=PI
    wp_walk
    subst hPI
    refine wpAny_pyIter_tuple hl1 ?_
    refine wpAny_bind (wpAny_runValue ?_)
    have hlS:l < s.heap.objs.size:=Heap.lt_size hol
    have hh3:A.in1.in1.in1.handled=none:=by simp [hh]
    have hneI:l≠(s.heap.push { cls:=.type "set",dict:=none,data:=.set #[] 0 (.fresh 0 0 led) }).objs.size:=by
     rw [Heap.size_push]; exact Nat.ne_of_lt (Nat.lt_succ_of_lt hlS)
    have hSf:s.heap.objs.size∉[(s.heap.push { cls:=.type "set",dict:=none,data:=.set #[] 0 (.fresh 0 0 led) }).objs.size,l]:=by
     rw [Heap.size_push]; simp only [List.mem_cons,List.mem_singleton,List.not_mem_nil,or_false,not_or]
     exact ⟨Nat.ne_of_lt (Nat.lt_succ_self _),Nat.ne_of_gt hlS⟩
    refine loop_ok (knd:=knd) ((Walks.tuple hh3 _ l hneI items).toS) s.heap.objs.size
     hSf hu ks ps hn h8 (fun i v hv=>?_) (fun i s1 hst b hb o e=>?_) (items.size - 0) 0 _ (by omega) (Nat.zero_le _)
     ⟨⟨_,Heap.get?_push_size _ rfl,rfl,rfl⟩,(hl1.push _)⟩ (fun i p q hp hq=>keyP (hk i p q hp hq)) ?hS0 ?hR
    ·have e:(ps.map Value.ref)[i]? = some v:=by rw [←hi,Array.getElem?_toList]; exact hv
     rw [List.getElem?_map] at e
     cases e2:ps[i]? with
     | none=>rw [e2] at e; cases e
     | some p=>rw [e2] at e; exact ⟨p,rfl,(Option.some.inj e).symm⟩
    ·obtain ⟨⟨oi,e1,e2,_⟩,_⟩:=hst
     rw [List.mem_singleton.mp hb,e1] at e
     rw [←Option.some.inj e,e2]
     decide
    case hS0 =>
     have hget:((s.heap.push { cls:=.type "set",dict:=none,data:=.set #[] 0 (.fresh 0 0 led) }).push { cls:=.type "tuple_iterator",data:=.fields #[.ref l,.int 0 0] }).get? s.heap.objs.size
       = some { cls:=.type "set",dict:=none,data:=.set #[] 0 (.fresh 0 0 led) }:=Heap.get?_push_of_some _ hS
     exact ⟨[],#[],0,.fresh 0 0 led,⟨hget,rfl,by simp,by simp,zHL led,(by show 0 * 5 < 7 * 3; decide)⟩,by simp,Nat.zero_le _⟩
    case hR =>
     intro s' hm hS'
     obtain ⟨h',g',d',tk',os'⟩:=s'
     have eg:g' = s.gens:=hm.gens
     have ed:d' = s.drawn:=hm.drawn
     have eo:os' = s.os:=hm.os
     subst eg; subst ed; subst eo
     show wpAny _ _ _ _ _ _
     refine wpAny_pure ?_
     show wpAny _ _ (ret Value.none) _ _ _
     refine wpAny_pure ⟨rfl,h',tk',rfl,hS',fun b o hb e=>?_⟩
     have hb1:b≠s.heap.objs.size:=Nat.ne_of_lt hb
     have hb2:b≠(s.heap.push { cls:=.type "set",dict:=none,data:=.set #[] 0 (.fresh 0 0 led) }).objs.size:=by
      rw [Heap.size_push]; exact Nat.ne_of_lt (Nat.lt_succ_of_lt hb)
     exact hm.heap b o (by simp only [List.mem_cons,List.mem_singleton,List.not_mem_nil,or_false,not_or]; exact ⟨hb1,hb2⟩) (Heap.get?_push_of_some _ (Heap.get?_push_of_some _ e))
   ·cases r₂ with
    | error e=>exact hr₂
    | ok fl₂ =>
     cases fl₂ with
     | ret r =>
      obtain ⟨rfl,h',tk,rfl,hS',hk'⟩:=hr₂
      repeat (any_goals (first | assumption | wp_step))
      exact h _ _ hS' hk'
     | _=>exact hr₂.elim
  | _=>exact hr.elim
end
end L2S
namespace L2
open PySem PySem.Spec PyProof.Rows
def SetO (a:Addr) (n:Nat):HO:=.ext fun h=>∃ o es ep t,h.get? a=some o∧o.ExactSet∧o.data = .set es ep t∧t.fits es.size=true∧es.size=n∧n≤8
def rSetT (K:Fg):List V→Hp→VK→Prop:=fun xs H Q=>∃ (a:Addr) (ps:List Addr) (ns:List (List Int)),xs=[.ref a]∧SqT K H a (ps.map V.ref)∧Paired (fun p n=>H p=some (.tup (n.map V.int))) ps ns∧ns.length≤8 ∧
 ∀ p,H p=none→Q (.ref p) (upd H p (SetO p ns.eraseDups.length))
theorem zEw:∀ {ps:List Addr}{its:List Value},Vals (ps.map V.ref) its→its=ps.map Value.ref
 | [],[],_=>rfl
 | [],_::_,h=>by cases h
 | p::ps,[],h=>by cases h
 | p::ps,v::its,h=>by
  cases h with
  | cons r t =>
   cases r
   rw [zEw t]
   rfl
theorem zD9 {prog:Program}{w:World}:∀ {n:List Int}{its:List Value},Vals (n.map V.int) its→ItemsAre (intKind prog w) n its
 | [],[],_=>.nil
 | [],_::_,h=>by cases h
 | i::n,[],h=>by cases h
 | i::n,v::its,h=>by
  cases h with
  | cons r t =>
   obtain ⟨k,rfl⟩:=r
   exact .cons (intKind_is _ _ _ _) (zD9 t)
theorem zDB {α:Type} [BEq α] [LawfulBEq α]:∀ (n:Nat) (l:List α),l.length≤n→l.eraseDups.Nodup∧∀ x,x∈l.eraseDups↔x∈l
 | 0,l,h=>by
  have:l=[]:=List.eq_nil_of_length_eq_zero (by omega)
  subst this
  simp
 | n+1,[],_=>by simp
 | n+1,a::l,h=>by
  rw [List.eraseDups_cons]
  have hl:(l.filter fun b=>!b == a).length≤n:=by
   have:=List.length_filter_le (fun b=>!b == a) l
   simp at h
   omega
  obtain ⟨h1,h2⟩:=zDB n (l.filter fun b=>!b == a) hl
  refine ⟨List.nodup_cons.mpr ⟨fun hm=>?_,h1⟩,fun x=>?_⟩
  ·have:=(h2 a).mp hm
   simp at this
  ·rw [List.mem_cons,h2 x,List.mem_filter,List.mem_cons]
   constructor
   ·rintro (e | e)
    ·exact .inl e
    ·exact .inr e.1
   ·rintro (e | e)
    ·exact .inl e
    ·by_cases hx:x=a
     ·exact .inl hx
     ·exact .inr ⟨e,by simp [hx]⟩
theorem nd_count {l m:List (List Int)} (h:l.Nodup) (hm:∀ x,x∈l↔x∈m):l.length=m.eraseDups.length:=by
 obtain ⟨h1,h2⟩:=zDB _ m (Nat.le_refl _)
 exact Nat.le_antisymm (L2S.zCv l _ h fun x hx=>(h2 x).mpr ((hm x).mp hx)) (L2S.zCv _ l h1 fun x hx=>(hm x).mpr ((h2 x).mp hx))
section
variable {X:Cx}
theorem call_setT (hc:X.calm=true) (hu:X.A.units+64 < cLine):zDs X (.type "set") (rSetT X.K):=by
 intro pins s σ H xs us Q I r h
 obtain ⟨a,ps,ns,rfl,hq,hp,h8,q⟩:=h
 obtain ⟨u,rfl,rx⟩:=zGs r
 cases rx
 obtain ⟨its,r',pl,hz⟩:=I.tuple hq
 have ei:=zEw r'
 have hlen:=r'.length
 have pll:=Paired.length hp
 rw [List.length_map] at hlen
 refine L2S.zDv (knd:=intKind X.prog X.w) (ks:=ns) (ps:=ps) (I.ok.hd hc) (by simp only [Around.in1]; omega) pl (by simp [ei]) (fun i p n h1 h2=>?_) (by simp; omega) (by simp; omega) fun h' tk hS kp=>?_
 ·obtain ⟨n',e1,e2⟩:=zD1 hp h1
  rw [h2] at e1
  cases e1
  obtain ⟨_,its2,r2,o,g1,g2,m,g3⟩:=(show ObjOk X.prog X.w H s.heap p (.tup (n.map V.int)) from I.hok p _ e2)
  exact ⟨o,its2.toArray,m,g1,g2,g3,by simpa using zD9 r2⟩
 ·have kp':∀ b o,s.heap.get? b=some o→h'.get? b=some o:=fun b o e=>kp b o (Heap.lt_size e) e
  obtain ⟨xs,es,ep,t,S1,mm,ll⟩:=hS
  have hes:es.size=xs.length:=by
   have:=congrArg List.length S1.en
   rw [Array.length_toList,List.length_map] at this
   exact this
  have hcount:es.size=ns.eraseDups.length:=by
   rw [hes,←List.length_map (f:=(·.1))]
   exact nd_count S1.nd mm
  have ob:ObjOk X.prog X.w (upd H s.heap.objs.size (SetO s.heap.objs.size ns.eraseDups.length)) h' s.heap.objs.size (SetO s.heap.objs.size ns.eraseDups.length):=by
   refine ⟨⟨_,es,ep,t,S1.ob,⟨rfl,rfl,rfl⟩,rfl,S1.fits,hcount,by omega⟩,⟨_,S1.ob⟩,fun h1 h2 ⟨o,es,ep,t,e1,e2⟩ k=>⟨o,es,ep,t,k _ e1,e2⟩⟩
  exact ⟨.ref s.heap.objs.size,_,I.laid (t':=tk) kp' (Nat.le_refl _) ob,rfl,q _ (I.hok.fresh (Nat.le_refl _))⟩
theorem call_lenS:zDs X (.builtin "len") (fun xs H Q=>∃ a n,xs=[V.ref a]∧H a=some (SetO a n)∧Q (.int n) H):=by
 intro pins s σ H xs us Q I r h
 obtain ⟨a,n,rfl,ha,q⟩:=h
 obtain ⟨u,rfl,rx⟩:=zGs r
 cases rx
 obtain ⟨⟨o,es,ep,t,e1,e2,e3,e4,e5,e6⟩,_⟩:=I.hok a _ ha
 exact call_len_set e1 e2 e3 e4 (by omega) ⟨.int n,H,I.tok _,⟨s.toks+1,by rw [e5]⟩,q⟩
end
end L2
namespace ShM
open Sx01
section
variable {a b:List Bytes}
theorem zBO {z:List Nat}{n:Nat} (h:z.length=n+1):∃ w k,z=w::k∧k.length=n:=by
 cases z with
 | nil=>simp at h
 | cons w k=>exact ⟨w,k,rfl,by simpa using h⟩
theorem zEk (r:Row) (z:Nat) (zs:List Nat):costs.line a b r (z::zs) []=[z+costGone r]:=by rw [costs.line]
theorem zDJ (r:Row):∀ (m:List Row) (z:List Nat),z.length=m.length+1→(costs.line a b r z m).length=m.length+1
 | [],z,h=>by
  obtain ⟨w,k,rfl,hk⟩:=zBO h
  rw [zEk]
  rfl
 | s::m,z,h=>by
  obtain ⟨w,k,rfl,hk⟩:=zBO h
  obtain ⟨y,k2,rfl,hk2⟩:=zBO (n:=m.length) (by simpa using hk)
  have ih:=zDJ r m (y::k2) (by simpa using hk2)
  obtain ⟨v,k3,e,hk3⟩:=zBO ih
  rw [costs.line,e]
  simp [hk3]
theorem zFF (r s:Row) (m:List Row) (z y:Nat) (k:List Nat) (h:k.length=m.length) :
  costs.line a b r (z::y::k) (s::m)=min (y+costKeep a b r s) (min (z+costGone r) ((costs.line a b r (y::k) m).headD 0+costGone s))::costs.line a b r (y::k) m:=by
 have ih:=zDJ (a:=a) (b:=b) r m (y::k) (by simpa using h)
 obtain ⟨v,k3,e,hk3⟩:=zBO ih
 rw [costs.line,e]
 rfl
theorem zBB:∀ (l m:List Row),(costs a b l m).length=m.length+1
 | [],[]=>by rw [costs]; rfl
 | [],s::m=>by
  obtain ⟨w,k,e,hk⟩:=zBO (zBB [] m)
  rw [costs,e]
  simp [hk]
 | r::l,m=>by
  rw [costs]
  exact zDJ r m _ (zBB l m)
theorem zGj (s:Row) (m:List Row):costs a b [] (s::m)=((costs a b [] m).headD 0+costGone s)::costs a b [] m:=by
 obtain ⟨w,k,e,hk⟩:=zBO (zBB (a:=a) (b:=b) [] m)
 rw [costs,e]
 rfl
theorem zEH:∀ (l:List Row) (s:Row) (m:List Row),(costs a b l (s::m)).tail=costs a b l m
 | [],s,m=>by rw [zGj]; rfl
 | r::l,s,m=>by
  obtain ⟨w,k,e,hk⟩:=zBO (zBB (a:=a) (b:=b) l (s::m))
  have ih:=zEH l s m
  rw [e] at ih
  have ih:k=costs a b l m:=ih
  obtain ⟨y,k2,e2,hk2⟩:=zBO (zBB (a:=a) (b:=b) l m)
  rw [costs,e,ih,e2,zFF _ _ _ _ _ _ hk2]
  rw [costs,e2]
  rfl
theorem zEI:∀ (j:Nat) (l m:List Row),j≤m.length→(costs a b l m).drop j=costs a b l (m.drop j)
 | 0,l,m,_=>by simp
 | j+1,l,[],h=>by simp at h
 | j+1,l,s::m,h=>by
  have e:(costs a b l (s::m)).drop (j+1)=(costs a b l (s::m)).tail.drop j:=by simp
  rw [e,zEH,zEI j l m (by simpa using h)]
  rfl
theorem zFO {l m:List Row}{j:Nat} (h:j≤m.length):(costs a b l m)[j]? = some (cost a b l (m.drop j)):=by
 have e:=zEI (a:=a) (b:=b) j l m h
 obtain ⟨w,k,e2,_⟩:=zBO (zBB (a:=a) (b:=b) l (m.drop j))
 unfold cost
 rw [e2] at e ⊢
 have:((costs a b l m).drop j)[0]? = some w:=by rw [e]; rfl
 rw [List.getElem?_drop] at this
 simpa using this
theorem cost_rn (r:Row) (l:List Row):cost a b (r::l) []=cost a b l [] + costGone r:=by
 unfold cost
 obtain ⟨w,k,e,hk⟩:=zBO (zBB (a:=a) (b:=b) l [])
 rw [costs,e,zEk]
 rfl
def kindOf:Step→Int
 | .keep _=>0
 | .gone=>1
 | .put _=>2
theorem zCB:steps a b [] []=[]:=by rw [steps]
theorem zES (s:Row) (m:List Row):steps a b [] (s::m) = .put s::steps a b [] m:=by rw [steps]
theorem zER (r:Row) (l:List Row):steps a b (r::l) [] = .gone::steps a b l []:=by rw [steps]
theorem zFb {r s:Row}{l m:List Row} (h:costKeep a b r s+cost a b l m=cost a b (r::l) (s::m)):steps a b (r::l) (s::m) = .keep (changes a b r s)::steps a b l m:=by
 rw [steps]; simp only [h,if_true]
theorem zFc {r s:Row}{l m:List Row} (h:¬ costKeep a b r s+cost a b l m=cost a b (r::l) (s::m)) (h2:costGone r+cost a b l (s::m)=cost a b (r::l) (s::m)):steps a b (r::l) (s::m) = .gone::steps a b l (s::m):=by
 rw [steps]; simp only [if_neg h,h2,if_true]
theorem zFa {r s:Row}{l m:List Row} (h:¬ costKeep a b r s+cost a b l m=cost a b (r::l) (s::m)) (h2:¬ costGone r+cost a b l (s::m)=cost a b (r::l) (s::m)):steps a b (r::l) (s::m) = .put s::steps a b (r::l) m:=by
 rw [steps]; simp only [if_neg h,if_neg h2]
theorem zBH:∀ (n:Nat) (l m:List Row),l.length+m.length=n→(steps a b l m).length≤n
 | n,[],[],h=>by rw [zCB]; simp
 | n,[],s::m,h=>by
  rw [zES]
  have:=zBH (n - 1) [] m (by simp at h ⊢; omega)
  simp at h ⊢; omega
 | n,r::l,[],h=>by
  rw [zER]
  have:=zBH (n - 1) l [] (by simp at h ⊢; omega)
  simp at h ⊢; omega
 | n,r::l,s::m,h=>by
  by_cases h1:costKeep a b r s+cost a b l m=cost a b (r::l) (s::m)
  ·rw [zFb h1]
   have:=zBH (n - 2) l m (by simp at h ⊢; omega)
   simp at h ⊢; omega
  ·by_cases h2:costGone r+cost a b l (s::m)=cost a b (r::l) (s::m)
   ·rw [zFc h1 h2]
    have:=zBH (n - 1) l (s::m) (by simp at h ⊢; omega)
    simp at h ⊢; omega
   ·rw [zFa h1 h2]
    have:=zBH (n - 1) (r::l) m (by simp at h ⊢; omega)
    simp at h ⊢; omega
termination_by n l m=>l.length+m.length
theorem zBz (r:Row):(carried a b r).length=b.length:=by unfold carried; rw [List.length_map]
def chg (x:Row) (s:Row) (n:Nat):List (Nat×Cell):=((x.zip s).zipIdx n).filterMap fun x=>if x.1.1=x.1.2 then none else some (x.2,x.1.2)
theorem zDL (c d:Cell) (x s:Row) (n:Nat):chg (c::x) (d::s) n=if c=d then chg x s (n+1) else (n,d)::chg x s (n+1):=by
 unfold chg
 rw [List.zip_cons_cons,List.zipIdx_cons,List.filterMap_cons]
 by_cases h:c=d
 ·simp only [h,if_true]
 ·simp only [if_neg h]
theorem zHb:∀ (x s p:Row),x.length=s.length→setCells (p++x) (chg x s p.length)=p++s
 | [],[],p,_=>by simp [chg,setCells]
 | [],_::_,p,h=>by simp at h
 | _::_,[],p,h=>by simp at h
 | c::x,d::s,p,h=>by
  have ih:=zHb x s (p++[d]) (by simpa using h)
  rw [zDL]
  by_cases e:c=d
  ·rw [if_pos e]
   subst e
   simpa using ih
  ·rw [if_neg e]
   unfold setCells at ih ⊢
   rw [List.foldl_cons]
   have e2:(p++c::x).set p.length d=(p++[d])++x:=by simp
   show List.foldl _ ((p++c::x).set p.length d) _=_
   rw [e2]
   simpa using ih
theorem zDV {r s:Row} (h:s.length=b.length):setCells (carried a b r) (changes a b r s)=s:=zHb (carried a b r) s [] (by rw [zBz,h])
end
end ShM
namespace ShM
open Sx01
section
variable {a b:List Bytes}
theorem zBa (l m:List Row):(l=[]∧m=[]∧steps a b l m=[])∨(∃ s m',m=s::m'∧steps a b l m = .put s::steps a b l m') ∨
  (∃ r l',l=r::l'∧steps a b l m = .gone::steps a b l' m)∨∃ r l' s m',l=r::l'∧m=s::m'∧steps a b l m = .keep (changes a b r s)::steps a b l' m':=by
 cases l with
 | nil =>
  cases m with
  | nil=>exact .inl ⟨rfl,rfl,zCB⟩
  | cons s m=>exact .inr (.inl ⟨s,m,rfl,zES s m⟩)
 | cons r l =>
  cases m with
  | nil=>exact .inr (.inr (.inl ⟨r,l,rfl,zER r l⟩))
  | cons s m =>
   by_cases h1:costKeep a b r s+cost a b l m=cost a b (r::l) (s::m)
   ·exact .inr (.inr (.inr ⟨r,l,s,m,rfl,rfl,zFb h1⟩))
   ·by_cases h2:costGone r+cost a b l (s::m)=cost a b (r::l) (s::m)
    ·exact .inr (.inr (.inl ⟨r,l,rfl,zFc h1 h2⟩))
    ·exact .inr (.inl ⟨s,m,rfl,zFa h1 h2⟩)
theorem zFK (l:List Row) (s:Row) (t:List Step) (w:List Row):fates a b l (.put s::t) w=fates a b l t (w++[s]):=by
 cases l <;> rw [fates]
theorem zED (r:Row) (l:List Row) (k:List (Nat×Cell)) (t:List Step) (w:List Row):fates a b (r::l) (.keep k::t) w=(⟨w,some (setCells (carried a b r) k)⟩::(fates a b l t []).1,(fates a b l t []).2):=by rw [fates]
theorem zEE (r:Row) (l:List Row) (t:List Step) (w:List Row):fates a b (r::l) (.gone::t) w=(⟨w,none⟩::(fates a b l t []).1,(fates a b l t []).2):=by rw [fates]
theorem zCi (w:List Row):fates a b [] [] w=([],w):=by
 rw [fates] <;> (intros; contradiction)
theorem fates_ok:∀ (n:Nat) (l m w:List Row),l.length+m.length≤n→(∀ s∈m,s.length=b.length) →
  (fates a b l (steps a b l m) w).1.length=l.length∧(∀ f∈(fates a b l (steps a b l m) w).1,(∀ r,f.row=some r→r∈m)∧(∀ r∈f.before,r∈m∨r∈w)∧f.before.length≤w.length+m.length) ∧
  (∀ r∈(fates a b l (steps a b l m) w).2,r∈m∨r∈w)∧(fates a b l (steps a b l m) w).2.length≤w.length+m.length:=by
 intro n
 induction n with
 | zero =>
  intro l m w hn hw
  have h1:l=[]:=List.eq_nil_of_length_eq_zero (by omega)
  have h2:m=[]:=List.eq_nil_of_length_eq_zero (by omega)
  subst h1 h2
  rw [zCB,zCi]
  simp
 | succ n ih =>
  intro l m w hn hw
  rcases zBa (a:=a) (b:=b) l m with ⟨rfl,rfl,e⟩ | ⟨s,m',rfl,e⟩ | ⟨r,l',rfl,e⟩ | ⟨r,l',s,m',rfl,rfl,e⟩
  ·rw [e,zCi]
   simp
  ·rw [e,zFK]
   obtain ⟨i1,i2,i3,i4⟩:=ih l m' (w++[s]) (by simp at hn; omega) (fun s hs=>hw s (List.mem_cons_of_mem _ hs))
   refine ⟨i1,fun f hf=>?_,fun r hr=>?_,?_⟩
   ·obtain ⟨j1,j2,j3⟩:=i2 f hf
    refine ⟨fun r hr=>List.mem_cons_of_mem _ (j1 r hr),fun r hr=>?_,?_⟩
    ·rcases j2 r hr with h | h
     ·exact .inl (List.mem_cons_of_mem _ h)
     ·rw [List.mem_append,List.mem_singleton] at h
      rcases h with h | h
      ·exact .inr h
      ·exact .inl (by simp [h])
    ·simp at j3 ⊢; omega
   ·rcases i3 r hr with h | h
    ·exact .inl (List.mem_cons_of_mem _ h)
    ·rw [List.mem_append,List.mem_singleton] at h
     rcases h with h | h
     ·exact .inr h
     ·exact .inl (by simp [h])
   ·simp at i4 ⊢; omega
  ·rw [e,zEE]
   obtain ⟨i1,i2,i3,i4⟩:=ih l' m [] (by simp at hn; omega) hw
   refine ⟨by simp [i1],fun f hf=>?_,fun r hr=>?_,?_⟩
   ·rcases List.mem_cons.mp hf with h | h
    ·subst h
     exact ⟨fun r h=>by simp at h,fun r h=>.inr h,by simp⟩
    ·obtain ⟨j1,j2,j3⟩:=i2 f h
     refine ⟨j1,fun r hr=>.inl ?_,by simp at j3 ⊢; omega⟩
     rcases j2 r hr with h | h
     ·exact h
     ·simp at h
   ·rcases i3 r hr with h | h
    ·exact .inl h
    ·simp at h
   ·simp at i4 ⊢; omega
  ·rw [e,zED]
   obtain ⟨i1,i2,i3,i4⟩:=ih l' m' [] (by simp at hn; omega) (fun s hs=>hw s (List.mem_cons_of_mem _ hs))
   refine ⟨by simp [i1],fun f hf=>?_,fun r hr=>?_,?_⟩
   ·rcases List.mem_cons.mp hf with h | h
    ·subst h
     refine ⟨fun r h=>?_,fun r h=>.inr h,by simp⟩
     rw [zDV (hw s (by simp))] at h
     have h:=Option.some.inj h
     simp [←h]
    ·obtain ⟨j1,j2,j3⟩:=i2 f h
     refine ⟨fun r hr=>List.mem_cons_of_mem _ (j1 r hr),fun r hr=>.inl ?_,by simp at j3 ⊢; omega⟩
     rcases j2 r hr with h | h
     ·exact List.mem_cons_of_mem _ h
     ·simp at h
   ·rcases i3 r hr with h | h
    ·exact .inl (List.mem_cons_of_mem _ h)
    ·simp at h
   ·simp at i4 ⊢; omega
end
theorem dups_le {α:Type} [BEq α] [LawfulBEq α]:∀ (n:Nat) (l:List α),l.length≤n→l.eraseDups.length≤l.length
 | 0,l,h=>by
  have:l=[]:=List.eq_nil_of_length_eq_zero (by omega)
  subst this
  simp
 | n+1,[],h=>by simp
 | n+1,x::l,h=>by
  rw [List.eraseDups_cons]
  have h1:=dups_le n (l.filter fun b=>!b == x) (Nat.le_trans (List.length_filter_le _ _) (by simpa using h))
  have h2:=List.length_filter_le (fun b=>!b == x) l
  simp
  omega
theorem zCx {α:Type} [BEq α] [LawfulBEq α]:∀ (l:List α),l.eraseDups.length=l.length→l.Nodup
 | [],_=>by simp
 | x::l,h=>by
  rw [List.eraseDups_cons] at h
  have h1:=dups_le _ (l.filter fun b=>!b == x) (Nat.le_refl _)
  have h2:=List.length_filter_le (fun b=>!b == x) l
  have h3:(l.filter fun b=>!b == x).length=l.length:=by simp at h; omega
  have h4:l.filter (fun b=>!b == x)=l:=List.filter_eq_self.mpr (List.length_filter_eq_length_iff.mp h3)
  rw [h4] at h
  have ih:=zCx l (by simpa using h)
  refine List.nodup_cons.mpr ⟨fun hm=>?_,ih⟩
  have:=List.length_filter_eq_length_iff.mp h3 x hm
  simp at this
theorem zGi {α β:Type} [BEq α] [LawfulBEq α] [BEq β] [LawfulBEq β] (f:α→β) (hf:∀ x y,f x=f y→x=y):∀ (n:Nat) (l:List α),l.length≤n→(l.map f).eraseDups.length=l.eraseDups.length
 | 0,l,h=>by
  have:l=[]:=List.eq_nil_of_length_eq_zero (by omega)
  subst this
  rfl
 | n+1,[],h=>rfl
 | n+1,x::l,h=>by
  rw [List.map_cons,List.eraseDups_cons,List.eraseDups_cons]
  have e:(l.map f).filter (fun b=>!b == f x)=(l.filter fun b=>!b == x).map f:=by
   rw [List.filter_map]
   congr 1
   refine List.filter_congr fun y _=>?_
   show (!f y == f x)=(!y == x)
   by_cases h:y=x
   ·subst h; simp
   ·have h2:f y≠f x:=fun z=>h (hf _ _ z)
    rw [beq_eq_false_iff_ne.mpr h,beq_eq_false_iff_ne.mpr h2]
  rw [e,List.length_cons,List.length_cons,zGi f hf n (l.filter fun b=>!b == x) (Nat.le_trans (List.length_filter_le _ _) (by simpa using h))]
theorem zGm (x y:Bytes) (h:(x.map fun (c:Nat)=>(c:Int))=y.map fun (c:Nat)=>(c:Int)):x=y:=(List.map_inj_right (fun _ _ e=>by omega)).mp h
theorem zHC (ns:List Bytes):((ns.map fun n=>n.map fun (x:Nat)=>(x:Int)).eraseDups).length=ns.eraseDups.length:=zGi _ zGm _ ns (Nat.le_refl _)
end ShM
namespace ShM
open Sx01
structure WF (s:Sheet):Prop where
 nd:s.cols.Nodup
 c1:1≤s.cols.length
 c64:s.cols.length≤64
 nm:∀ n∈s.cols,n.length≤64
 r256:s.rows.length≤256
 wid:∀ r∈s.rows,r.length=s.cols.length
 cel:∀ r∈s.rows,∀ c∈r,c.length≤64
theorem zCk {cols:List Bytes}{r:Row} (n:Bytes) (h:∀ c∈r,c.length≤64):(cellOf cols r n).length≤64:=by
 unfold cellOf
 split
 ·rename_i k _
  by_cases hk:k < r.length
  ·rw [List.getD_eq_getElem?_getD,List.getElem?_eq_getElem hk]
   exact h _ (List.getElem_mem hk)
  ·rw [List.getD_eq_getElem?_getD,List.getElem?_eq_none (by omega)]
   simp
 ·simp
theorem zEJ (l:List Bytes):colsOk l=true↔1≤l.length∧l.length≤64∧l.eraseDups.length=l.length∧∀ n∈l,n.length≤64:=by
 unfold colsOk COLS
 simp [List.all_eq_true]
theorem wf_sheet {s:Sheet} (h:sheetOk s=true):WF s:=by
 unfold sheetOk at h
 rw [Bool.and_eq_true,Bool.and_eq_true] at h
 obtain ⟨h1,h2,h3⟩:=h
 obtain ⟨c1,c2,c3,c4⟩:=(zEJ _).mp h1
 rw [List.all_eq_true] at h3
 refine ⟨zCx _ c3,c1,c2,c4,of_decide_eq_true h2,fun r hr=>?_,fun r hr c hc=>?_⟩
 ·have:=h3 r hr
  rw [Bool.and_eq_true] at this
  exact eq_of_beq this.1
 ·have:=h3 r hr
  rw [Bool.and_eq_true,List.all_eq_true] at this
  exact of_decide_eq_true (this.2 c hc)
theorem zEa (n:Bytes) (p:Option Bytes) (l:List Bytes) (x:Bytes):x∈putBehind n p l↔x=n∨x∈l:=by
 unfold putBehind
 split
 ·rename_i k _
  rw [List.mem_append,List.mem_cons]
  constructor
  ·rintro (h | h | h)
   ·exact .inr (List.mem_of_mem_take h)
   ·exact .inl h
   ·exact .inr (List.mem_of_mem_drop h)
  ·rintro (h | h)
   ·exact .inr (.inl h)
   ·rw [←List.take_append_drop (k+1) l,List.mem_append] at h
    rcases h with h | h
    ·exact .inl h
    ·exact .inr (.inr h)
 ·rw [List.mem_cons]
theorem zCa (n:Bytes) (p:Option Bytes) (l:List Bytes):(putBehind n p l).length=l.length+1:=by
 unfold putBehind
 split
 ·simp
  omega
 ·rfl
theorem zC5 {n:Bytes}{p:Option Bytes}{l:List Bytes} (h:l.Nodup) (hn:n∉l):(putBehind n p l).Nodup:=by
 unfold putBehind
 split
 ·rename_i k _
  have h0:=List.take_append_drop (k+1) l
  rw [←h0,List.nodup_append] at h
  obtain ⟨h1,h2,h3⟩:=h
  rw [List.nodup_append]
  refine ⟨h1,List.nodup_cons.mpr ⟨fun z=>hn (List.mem_of_mem_drop z),h2⟩,fun x hx y hy=>?_⟩
  rcases List.mem_cons.mp hy with z | z
  ·subst z
   intro e
   subst e
   exact hn (List.mem_of_mem_take hx)
  ·exact h3 x hx y z
 ·exact List.nodup_cons.mpr ⟨hn,h⟩
theorem zDj (w:Bytes→Bool):∀ (m:List Bytes) (p:Option Bytes) (l:List Bytes),l.Nodup→(filledIn w p m l).Nodup∧(filledIn w p m l).length≤l.length+m.length∧∀ x∈filledIn w p m l,x∈l∨(x∈m∧w x=true)
 | [],p,l,h=>by
  rw [filledIn]
  exact ⟨h,Nat.le_refl _,fun x hx=>.inl hx⟩
 | n::m,p,l,h=>by
  rw [filledIn]
  by_cases c:w n=true∧l.contains n=false
  ·rw [if_pos c]
   have nn:n∉l:=fun z=>by
    have:=List.contains_iff_mem.mpr z
    rw [c.2] at this
    cases this
   obtain ⟨i1,i2,i3⟩:=zDj w m (some n) (putBehind n p l) (zC5 h nn)
   refine ⟨i1,?_,fun x hx=>?_⟩
   ·rw [zCa] at i2
    simp
    omega
   ·rcases i3 x hx with z | ⟨z1,z2⟩
    ·rcases (zEa n p l x).mp z with z | z
     ·exact .inr ⟨by simp [z],by rw [z]; exact c.1⟩
     ·exact .inl z
    ·exact .inr ⟨by simp [z1],z2⟩
  ·rw [if_neg c]
   obtain ⟨i1,i2,i3⟩:=zDj w m (some n) l h
   refine ⟨i1,?_,fun x hx=>?_⟩
   ·simp
    omega
   ·rcases i3 x hx with z | ⟨z1,z2⟩
    ·exact .inl z
    ·exact .inr ⟨by simp [z1],z2⟩
theorem zBS {o a b:Sheet} (ha:WF a) (hb:WF b):(joinedCols o a b).Nodup∧(joinedCols o a b).length≤128∧(∀ n∈joinedCols o a b,n.length≤64)∧∀ n∈joinedCols o a b,n∈a.cols∨n∈b.cols:=by
 unfold joinedCols
 have key:∀ (x y:Sheet),WF x→WF y→(filledIn (staysCol o a b) none y.cols (x.cols.filter (staysCol o a b))).Nodup∧(filledIn (staysCol o a b) none y.cols (x.cols.filter (staysCol o a b))).length≤128 ∧
   (∀ n∈filledIn (staysCol o a b) none y.cols (x.cols.filter (staysCol o a b)),n.length≤64)∧∀ n∈filledIn (staysCol o a b) none y.cols (x.cols.filter (staysCol o a b)),n∈x.cols∨n∈y.cols:=by
  intro x y hx hy
  obtain ⟨i1,i2,i3⟩:=zDj (staysCol o a b) y.cols none (x.cols.filter (staysCol o a b)) (hx.nd.filter _)
  have h1:=List.length_filter_le (staysCol o a b) x.cols
  have h2:=hx.c64
  have h3:=hy.c64
  refine ⟨i1,by omega,fun n hn=>?_,fun n hn=>?_⟩
  ·rcases i3 n hn with z | ⟨z,_⟩
   ·exact hx.nm n (List.mem_filter.mp z).1
   ·exact hy.nm n z
  ·rcases i3 n hn with z | ⟨z,_⟩
   ·exact .inl (List.mem_filter.mp z).1
   ·exact .inr z
 by_cases e:a.cols=o.cols
 ·simp only [if_pos e]
  obtain ⟨k1,k2,k3,k4⟩:=key b a hb ha
  exact ⟨k1,k2,k3,fun n hn=>(k4 n hn).symm⟩
 ·simp only [if_neg e]
  exact key a b ha hb
theorem zEN {o a b:Sheet}{cols:List Bytes}{l m:List Row} (hl:∀ r∈l,∀ c∈r,c.length≤64) (hm:∀ r∈m,∀ c∈r,c.length≤64) :
  (∀ r∈bothPut o a b cols l m,r.length=cols.length∧∀ c∈r,c.length≤64)∧(bothPut o a b cols l m).length≤l.length+m.length:=by
 have key:∀ (x:Sheet) (l:List Row),(∀ r∈l,∀ c∈r,c.length≤64)→∀ r∈l.map (fun r=>cols.map fun n=>cellOf x.cols r n),r.length=cols.length∧∀ c∈r,c.length≤64:=by
  intro x l hl r hr
  obtain ⟨q,hq,rfl⟩:=List.mem_map.mp hr
  refine ⟨by rw [List.length_map],fun c hc=>?_⟩
  obtain ⟨n,_,rfl⟩:=List.mem_map.mp hc
  exact zCk n (hl q hq)
 unfold bothPut
 simp only
 split
 ·exact ⟨key a l hl,by rw [List.length_map]; omega⟩
 ·refine ⟨fun r hr=>?_,by rw [List.length_append,List.length_map,List.length_map]; omega⟩
  rcases List.mem_append.mp hr with z | z
  ·exact key a l hl r z
  ·exact key b m hm r z
theorem zEX {o x:Sheet}{ro rx:Row} (n:Bytes) (h1:∀ c∈ro,c.length≤64) (h2:∀ c∈rx,c.length≤64):(seen o x ro rx n).length≤64:=by
 unfold seen
 split
 ·exact zCk n h1
 ·exact zCk n h2
theorem three_le {o a b:Cell} (h1:a.length≤64) (h2:b.length≤64):(three o a b).1.length≤64:=by
 unfold three
 split
 ·exact h1
 ·split
  ·exact h2
  ·split
   ·exact h1
   ·exact h1
theorem zDR {o a b:Sheet}{cols:List Bytes}{ro:Row}{ra rb:Option Row}{t:Row×List (Nat×Nat)} (h:threeRow o a b cols ro ra rb=some t) (h0:∀ c∈ro,c.length≤64)
  (h1:∀ r,ra=some r→∀ c∈r,c.length≤64) (h2:∀ r,rb=some r→∀ c∈r,c.length≤64):t.1.length=cols.length∧(∀ c∈t.1,c.length≤64)∧t.2.length≤cols.length+1:=by
 cases ra with
 | none =>
  cases rb with
  | none=>simp [threeRow] at h
  | some y =>
   simp only [threeRow] at h
   split at h
   ·have h:=Option.some.inj h
    subst h
    refine ⟨by simp,fun c hc=>?_,by simp⟩
    obtain ⟨n,_,rfl⟩:=List.mem_map.mp hc
    exact zEX n h0 (h2 y rfl)
   ·cases h
 | some x =>
  cases rb with
  | none =>
   simp only [threeRow] at h
   split at h
   ·have h:=Option.some.inj h
    subst h
    refine ⟨by simp,fun c hc=>?_,by simp⟩
    obtain ⟨n,_,rfl⟩:=List.mem_map.mp hc
    exact zEX n h0 (h1 x rfl)
   ·cases h
  | some y =>
   simp only [threeRow] at h
   have h:=Option.some.inj h
   subst h
   refine ⟨by simp,fun c hc=>?_,?_⟩
   ·obtain ⟨n,hn,rfl⟩:=List.mem_map.mp hc
    obtain ⟨m,_,rfl⟩:=List.mem_map.mp hn
    exact three_le (zEX m h0 (h1 x rfl)) (zEX m h0 (h2 y rfl))
   ·refine Nat.le_trans (List.length_filterMap_le _ _) ?_
    simp
def zFX (x:Sheet) (f:Fate):Prop:=(∀ r,f.row=some r→r∈x.rows)∧(∀ r∈f.before,r∈x.rows)∧f.before.length≤256
theorem zC0 {o a b:Sheet}{cols:List Bytes} (ho:WF o) (ha:WF a) (hb:WF b):∀ (l:List Row) (f g:List Fate) (k:Nat),(∀ r∈l,r∈o.rows)→(∀ x∈f,zFX a x)→(∀ x∈g,zFX b x) →
  (∀ r∈(threeRows o a b cols l f g k).1,r.length=cols.length∧∀ c∈r,c.length≤64)
 | [],f,g,k,_,_,_=>by simp [threeRows]
 | _::_,[],g,k,_,_,_=>by simp [threeRows]
 | _::_,_::_,[],k,_,_,_=>by simp [threeRows]
 | r::l,x::f,y::g,k,h0,h1,h2=>by
  obtain ⟨x1,x2,x3⟩:=h1 x (by simp)
  obtain ⟨y1,y2,y3⟩:=h2 y (by simp)
  have hp:=(zEN (o:=o) (a:=a) (b:=b) (cols:=cols) (l:=x.before) (m:=y.before) (fun r hr=>ha.cel r (x2 r hr)) (fun r hr=>hb.cel r (y2 r hr))).1
  have ih:=fun k=>zC0 (cols:=cols) ho ha hb l f g k (fun r hr=>h0 r (by simp [hr])) (fun z hz=>h1 z (by simp [hz])) (fun z hz=>h2 z (by simp [hz]))
  intro q hq
  rw [threeRows] at hq
  simp only at hq
  split at hq
  ·rcases List.mem_append.mp hq with z | z
   ·exact hp q z
   ·exact ih _ q z
  ·rename_i t ht
   rcases List.mem_append.mp hq with z | z
   ·exact hp q z
   ·rcases List.mem_cons.mp z with z | z
    ·subst z
     obtain ⟨t1,t2,_⟩:=zDR ht (ho.cel r (h0 r (by simp))) (fun r hr=>ha.cel r (x1 r hr)) (fun r hr=>hb.cel r (y1 r hr))
     exact ⟨t1,t2⟩
    ·exact ih _ q z
theorem zA4 {o x:Sheet} (hx:WF x):(fatesOf o x).1.length=o.rows.length∧(∀ f∈(fatesOf o x).1,zFX x f)∧(∀ r∈(fatesOf o x).2,r∈x.rows)∧(fatesOf o x).2.length≤256:=by
 have h:=fates_ok (a:=o.cols) (b:=x.cols) _ o.rows x.rows [] (Nat.le_refl _) hx.wid
 have h256:=hx.r256
 obtain ⟨h1,h2,h3,h4⟩:=h
 refine ⟨h1,fun f hf=>?_,fun r hr=>?_,?_⟩
 ·obtain ⟨j1,j2,j3⟩:=h2 f hf
  refine ⟨j1,fun r hr=>?_,by simp at j3; omega⟩
  rcases j2 r hr with z | z
  ·exact z
  ·simp at z
 ·rcases h3 r hr with z | z
  ·exact z
  ·simp at z
 ·have h4:(fatesOf o x).2.length≤([]:List Row).length+x.rows.length:=h4
  simp at h4
  omega
theorem wf_join {o a b:Sheet} (ho:WF o) (ha:WF a) (hb:WF b) (h:¬ (COLS < (join o a b).1.cols.length∨ROWS < (join o a b).1.rows.length∨(join o a b).1.cols=[])):WF (join o a b).1:=by
 have h1:(join o a b).1.cols.length≤64:=Nat.le_of_not_lt fun z=>h (.inl z)
 have h2:(join o a b).1.rows.length≤256:=Nat.le_of_not_lt fun z=>h (.inr (.inl z))
 have h3:(join o a b).1.cols≠[]:=fun z=>h (.inr (.inr z))
 obtain ⟨j1,j2,j3,_⟩:=zBS (o:=o) ha hb
 obtain ⟨f1,f2,f3,f4⟩:=zA4 (o:=o) ha
 obtain ⟨g1,g2,g3,g4⟩:=zA4 (o:=o) hb
 have rows:∀ r∈(join o a b).1.rows,r.length=(join o a b).1.cols.length∧∀ c∈r,c.length≤64:=by
  intro r hr
  have hr:r∈(threeRows o a b (joinedCols o a b) o.rows (fatesOf o a).1 (fatesOf o b).1 0).1++bothPut o a b (joinedCols o a b) (fatesOf o a).2 (fatesOf o b).2:=hr
  rcases List.mem_append.mp hr with z | z
  ·exact zC0 ho ha hb o.rows _ _ 0 (fun _ h=>h) f2 g2 r z
  ·exact (zEN (fun r hr=>ha.cel r (f3 r hr)) (fun r hr=>hb.cel r (g3 r hr))).1 r z
 exact ⟨j1,List.length_pos_iff.mpr h3,h1,j3,h2,fun r hr=>(rows r hr).1,fun r hr=>(rows r hr).2⟩
end ShM
namespace ShM
open Sx01
def zE1 (b:List Bytes) (k:List (Nat×Cell)):Bool:=k.all fun x=>decide (x.1 < b.length) && cellOk x.2
def zFg (b:List Bytes) (s:Row):Bool:=s.length == b.length && s.all cellOk
def zA9 (a b:List Bytes):List Row→List Step→List Row→Option (List Row)
 | [],[],acc=>some acc
 | _::_,[],_=>none
 | l,.put s::t,acc=>if zFg b s=true then zA9 a b l t (acc++[s]) else none
 | [],.keep _::_,_=>none
 | r::l,.keep k::t,acc=>if zE1 b k=true then zA9 a b l t (acc++[setCells (carried a b r) k]) else none
 | [],.gone::_,_=>none
 | _::l,.gone::t,acc=>zA9 a b l t acc
section
variable {a b:List Bytes}
theorem zDa (l:List Row) (s:Row) (t:List Step) (acc:List Row):zA9 a b l (.put s::t) acc=if zFg b s=true then zA9 a b l t (acc++[s]) else none:=by
 cases l <;> rw [zA9]
theorem zDI:∀ (t:List Step) (l acc:List Row),zA9 a b l t acc=if t.all stepOk=true then (done a b l t).map (acc++·) else none
 | [],[],acc=>by simp [zA9,done]
 | [],_::_,acc=>by simp [zA9,done]
 | .put s::t,l,acc=>by
  rw [zDa,zDI t,List.all_cons]
  have e:done a b l (.put s::t)=if s.length=b.length then (done a b l t).map fun m=>s::m else none:=by cases l <;> rw [done]
  rw [e]
  have e2:stepOk (.put s)=s.all cellOk:=rfl
  rw [e2]
  unfold zFg
  by_cases h1:s.length=b.length
  ·by_cases h2:s.all cellOk=true
   ·simp only [h1,h2,beq_self_eq_true,Bool.and_self,Bool.true_and,if_true]
    by_cases h3:t.all stepOk=true
    ·simp only [h3,if_true]
     cases done a b l t <;> simp
    ·simp [h3]
   ·simp [h2]
  ·simp [h1]
 | .keep k::t,[],acc=>by simp [zA9,done]
 | .keep k::t,r::l,acc=>by
  rw [zA9,zDI t,List.all_cons,done]
  have e2:stepOk (.keep k)=k.all fun x=>cellOk x.2:=rfl
  rw [e2]
  have e3:zE1 b k=((k.all fun x=>decide (x.1 < b.length)) && k.all fun x=>cellOk x.2):=by
   unfold zE1
   clear e2
   induction k with
   | nil=>rfl
   | cons q k ih =>
    simp only [List.all_cons]
    rw [ih]
    cases decide (q.1 < b.length) <;> cases cellOk q.2 <;> cases (k.all fun x=>decide (x.1 < b.length)) <;> cases (k.all fun x=>cellOk x.2) <;> rfl
  rw [e3]
  cases h1:(k.all fun x=>decide (x.1 < b.length)) with
  | false=>simp
  | true =>
   cases h2:(k.all fun x=>cellOk x.2) with
   | false=>simp
   | true =>
    simp only [Bool.and_self,Bool.true_and,if_true]
    by_cases h3:t.all stepOk=true
    ·simp only [h3,if_true]
     cases done a b l t <;> simp
    ·simp [h3]
 | .gone::t,[],acc=>by simp [zA9,done]
 | .gone::t,r::l,acc=>by
  rw [zA9,zDI t,List.all_cons,done]
  rfl
end
def zB5 (s:Sheet) (cols:List Bytes) (steps:List Step):Option Sheet:=if colsOk cols=true then (match zA9 s.cols cols s.rows steps [] with
 | some l=>if l.length≤256 then some ⟨cols,l⟩ else none
 | none=>none) else none
theorem zHD (st:St) (k to:Int) (p:Patch):does st (.patch k to p)=if (slot k && slot to)=false then (st,ok (-1)) else match st.at_ k with
  | none=>(st,ok (-2))
  | some a=>match zB5 a p.cols p.steps with
   | none=>(st,ok (-3))
   | some b=>(st.set to.toNat (some b),ok b.rows.length):=by
 unfold does
 simp only
 split
 ·rfl
 ·cases st.at_ k with
  | none=>rfl
  | some a =>
   simp only
   unfold zB5 patch
   rw [zDI]
   cases h1:colsOk p.cols with
   | false=>simp
   | true =>
    simp only [if_true,Bool.true_eq_false,if_false]
    cases h2:p.steps.all stepOk with
    | false=>simp
    | true =>
     simp only [if_true,Bool.true_eq_false,if_false]
     cases h3:done a.cols p.cols a.rows p.steps with
     | none=>simp
     | some l =>
      simp only [Option.map_some,Option.bind_some,List.nil_append]
      unfold ROWS
      by_cases h4:l.length≤256
      ·rw [if_neg (by omega:¬ 256 < l.length),if_pos h4]
      ·rw [if_pos (by omega:256 < l.length),if_neg h4]
theorem zDW {b:List Bytes}:∀ (k:List (Nat×Cell)) (r:Row),zE1 b k=true→r.length=b.length→(∀ c∈r,c.length≤64)→(setCells r k).length=b.length∧∀ c∈setCells r k,c.length≤64
 | [],r,_,h1,h2=>⟨h1,h2⟩
 | x::k,r,hk,h1,h2=>by
  unfold zE1 at hk
  rw [List.all_cons,Bool.and_eq_true,Bool.and_eq_true] at hk
  have e:setCells r (x::k)=setCells (r.set x.1 x.2) k:=rfl
  rw [e]
  refine zDW k _ hk.2 (by rw [List.length_set]; exact h1) fun c hc=>?_
  rcases List.mem_or_eq_of_mem_set hc with z | z
  ·exact h2 c z
  ·rw [z]
   exact of_decide_eq_true hk.1.2
theorem zDH {a b:List Bytes}:∀ (t:List Step) (l acc:List Row),(∀ r∈l,∀ c∈r,c.length≤64)→(∀ r∈acc,r.length=b.length∧∀ c∈r,c.length≤64)→∀ m,zA9 a b l t acc=some m→∀ r∈m,r.length=b.length∧∀ c∈r,c.length≤64
 | [],[],acc,_,h2,m,e=>by
  rw [zA9] at e
  have e:=Option.some.inj e
  subst e
  exact h2
 | [],_::_,acc,_,h2,m,e=>by
  rw [zA9] at e
  cases e
 | .put s::t,l,acc,h1,h2,m,e=>by
  rw [zDa] at e
  split at e
  ·rename_i hp
   refine zDH t l _ h1 (fun r hr=>?_) m e
   rcases List.mem_append.mp hr with z | z
   ·exact h2 r z
   ·have z:r=s:=by simpa using z
    subst z
    unfold zFg at hp
    rw [Bool.and_eq_true,List.all_eq_true] at hp
    exact ⟨eq_of_beq hp.1,fun c hc=>of_decide_eq_true (hp.2 c hc)⟩
  ·cases e
 | .keep k::t,[],acc,_,h2,m,e=>by
  rw [zA9] at e
  cases e
 | .keep k::t,r::l,acc,h1,h2,m,e=>by
  rw [zA9] at e
  split at e
  ·rename_i hp
   refine zDH t l _ (fun r hr=>h1 r (by simp [hr])) (fun q hq=>?_) m e
   rcases List.mem_append.mp hq with z | z
   ·exact h2 q z
   ·have z:q=setCells (carried a b r) k:=by simpa using z
    subst z
    refine zDW k _ hp (zBz r) fun c hc=>?_
    unfold carried at hc
    obtain ⟨n,_,rfl⟩:=List.mem_map.mp hc
    exact zCk n (h1 r (by simp))
  ·cases e
 | .gone::t,[],acc,_,h2,m,e=>by
  rw [zA9] at e
  cases e
 | .gone::t,r::l,acc,h1,h2,m,e=>by
  rw [zA9] at e
  exact zDH t l acc (fun r hr=>h1 r (by simp [hr])) h2 m e
theorem wf_patch {s t:Sheet}{cols:List Bytes}{steps:List Step} (hs:WF s) (h:zB5 s cols steps=some t):WF t:=by
 unfold zB5 at h
 split at h
 ·rename_i hc
  split at h
  ·rename_i l hl
   split at h
   ·rename_i hn
    have h:=Option.some.inj h
    subst h
    obtain ⟨c1,c2,c3,c4⟩:=(zEJ _).mp hc
    have k:=zDH steps s.rows [] hs.cel (by simp) l hl
    exact ⟨zCx _ c3,c1,c2,c4,hn,fun r hr=>(k r hr).1,fun r hr=>(k r hr).2⟩
   ·cases h
  ·cases h
 ·cases h
def flat (ns:List (List Int)):List Int:=ns.flatMap fun n=>0::(n.length:Int)::n
theorem zEM:∀ (f:Nat) (l:List Int) (cs:List (List (List Int))),PyFlat.calls PySx01.shape f l=some cs→∃ ns:List (List Int),cs=ns.map (fun n=>[[0],n])∧l=flat ns
 | f,[],cs,h=>by
  have e:PyFlat.calls PySx01.shape f []=some []:=by rw [PyFlat.calls]
  rw [e] at h
  have h:=Option.some.inj h
  subst h
  exact ⟨[],rfl,rfl⟩
 | 0,p::r,cs,h=>by
  rw [PyFlat.calls] at h
  cases h
 | f+1,p::r,cs,h=>by
  rw [PyFlat.calls] at h
  unfold PyFlat.call PySx01.shape at h
  by_cases hp:p=0
  ·subst hp
   simp only [if_true,Nat.not_lt_zero,if_false,List.drop_zero,List.take_zero] at h
   cases r with
   | nil=>simp [PyFlat.rows,PyFlat.row] at h
   | cons n r =>
    simp only [PyFlat.rows,PyFlat.row] at h
    by_cases hn:0≤n∧n.toNat≤r.length
    ·simp only [if_pos hn] at h
     cases h2:PyFlat.calls PySx01.shape f (r.drop n.toNat) with
     | none =>
      unfold PySx01.shape at h2
      rw [h2] at h
      cases h
     | some cs2 =>
      obtain ⟨ns,e1,e2⟩:=zEM f _ cs2 h2
      unfold PySx01.shape at h2
      rw [h2] at h
      have h:=Option.some.inj h
      subst h
      refine ⟨r.take n.toNat::ns,by rw [e1]; rfl,?_⟩
      unfold flat at e2 ⊢
      rw [List.flatMap_cons,←e2,List.length_take]
      have:((min n.toNat r.length:Nat):Int)=n:=by omega
      rw [this]
      simp
    ·simp only [if_neg hn] at h
     cases h
  ·simp only [if_neg hp] at h
   cases h
def zEd:St→List Sx01.Call→List (List Int)
 | _,[]=>[]
 | s,x::xs=>((does s x).2.v::(does s x).2.l)::zEd (does s x).1 xs
def AskC:Sx01.Call→Prop
 | .sheet _ l r=>Sx01Neutral.names l=true∧r.length≤20∧∀ x∈r,Sx01Neutral.row x=true
 | .patch _ _ p=>Sx01Neutral.names p.cols=true∧p.steps.length≤60∧∀ x∈p.steps,Sx01Neutral.stepAsked x=true
 | _=>True
abbrev zAd:Sx01.Call→List Int:=Sx01Neutral.told.numbersOf
theorem ask_one {n:List Int} (h1:Sx01Neutral.asked1 [n]=true) (h2:Sx01Neutral.told n=true):∃ x,Sx01Neutral.callOf n=some x∧zAd x=n∧AskC x:=by
 unfold Sx01Neutral.told at h2
 cases e:Sx01Neutral.callOf n with
 | none=>rw [e] at h2; cases h2
 | some x =>
  rw [e] at h2
  have h2:(Sx01Neutral.told.numbersOf x == n)=true:=h2
  refine ⟨x,rfl,eq_of_beq h2,?_⟩
  unfold Sx01Neutral.asked1 at h1
  simp only [List.headD_cons] at h1
  rw [e] at h1
  cases x with
  | sheet k l r =>
   simp only [Bool.and_eq_true,List.all_eq_true] at h1
   exact ⟨h1.2.2.1,of_decide_eq_true h1.2.2.2.1,h1.2.2.2.2⟩
  | patch k to p =>
   simp only [Bool.and_eq_true,List.all_eq_true] at h1
   exact ⟨h1.2.2.1,of_decide_eq_true h1.2.2.2.1,h1.2.2.2.2⟩
  | new_=>trivial
  | diff j k=>trivial
  | join o a b to=>trivial
  | look k=>trivial
theorem ask_all:∀ (ns:List (List Int)),(∀ n∈ns,Sx01Neutral.asked1 [n]=true∧Sx01Neutral.told n=true)→∃ xs:List Sx01.Call,ns=xs.map zAd∧(∀ x∈xs,AskC x)∧∀ s,PyFlat.played Sx01Neutral.step s (ns.map fun n=>[n])=zEd s xs
 | [],_=>⟨[],rfl,by simp,fun s=>by simp [PyFlat.played,zEd]⟩
 | n::ns,h=>by
  obtain ⟨x,e1,e2,e3⟩:=ask_one (h n (by simp)).1 (h n (by simp)).2
  obtain ⟨xs,f1,f2,f3⟩:=ask_all ns fun m hm=>h m (by simp [hm])
  refine ⟨x::xs,by rw [List.map_cons,e2,←f1],fun y hy=>?_,fun s=>?_⟩
  ·rcases List.mem_cons.mp hy with z | z
   ·rw [z]; exact e3
   ·exact f2 y z
  ·rw [List.map_cons,PyFlat.played,zEd,f3]
   have:Sx01Neutral.step s [n]=((does s x).1,(does s x).2.v::(does s x).2.l):=by
    unfold Sx01Neutral.step
    simp only [List.headD_cons]
    rw [e1]
   rw [this]
theorem asked_all {l:List Int} (h:PySx01.answers_asked l=true):∃ xs:List Sx01.Call,l=flat (xs.map zAd)∧xs.length≤12∧(∀ x∈xs,AskC x)∧PySx01.answers l=PyFlat.told (zEd fresh xs):=by
 unfold PySx01.answers_asked at h
 cases e:PySx01.calls l with
 | none=>rw [e] at h; cases h
 | some cs =>
  rw [e] at h
  simp only [Bool.and_eq_true] at h
  obtain ⟨h1,h2⟩:=h
  unfold PySx01.calls at e
  cases e1:PyFlat.calls PySx01.shape l.length l with
  | none=>rw [e1] at e; cases e
  | some cs2 =>
   obtain ⟨ns,q1,q2⟩:=zEM _ _ _ e1
   rw [e1] at e
   have e:=Option.some.inj e
   have e3:cs=ns.map fun n=>[n]:=by
    rw [←e,q1,List.map_map]
    rfl
   subst e3
   unfold Sx01Neutral.asked at h2
   simp only [Bool.and_eq_true,List.all_eq_true] at h2
   obtain ⟨xs,f1,f2,f3⟩:=ask_all ns fun n hn=>by
    have:=h2.2.2 [n] (List.mem_map.mpr ⟨n,hn,rfl⟩)
    exact ⟨this.1,this.2⟩
   refine ⟨xs,by rw [←f1]; exact q2,?_,f2,?_⟩
   ·have:=of_decide_eq_true h2.2.1
    rw [List.length_map,f1,List.length_map] at this
    exact this
   ·unfold PySx01.answers PySx01.calls
    rw [e1]
    simp only
    rw [e,show Sx01Neutral.start=fresh from rfl,f3]
end ShM
namespace Sh
theorem scm {N P:List PySem.Str}{sc:PySem.Scope} (a:sc.kind = .function:=by rfl) (b:sc.isCoroutine=false:=by rfl) (c:sc.isGenerator=false:=by rfl) (d:N.Nodup:=by decide +kernel) (e:N.take P.length=P:=by rfl) (f:∀ x∈P,sc.names.lookup x=some .local∨sc.names.lookup x=some .cell:=by decide +kernel) (g:∀ y∈sc.names,y.2≠ .free:=by decide +kernel):L2.FnScope N P sc:=⟨a,b,c,d,e,f,g⟩
end Sh
namespace Sh
open PySem PySem.Spec PyProof.Rows L2
def top (i:Nat):Stmt:=PySem.Challenge.pw_sheetsheld_s01_answers.main.body.getD i (.Pass ⟨0,0,0,0⟩)
theorem zAv {α β:Type}{F:α→β→Prop}:∀ {l:List α}{m:List β}{a:α}{b:β},Paired F l m→F a b→Paired F (l++[a]) (m++[b])
 | _,_,_,_,.nil,h=>.cons h .nil
 | _,_,_,_,.cons r t,h=>.cons r (zAv t h)
theorem zGE {α β:Type}{F:α→β→Prop}:∀ {l l':List α}{m m':List β},Paired F l m→Paired F l' m'→Paired F (l++l') (m++m')
 | _,_,_,_,.nil,h=>h
 | _,_,_,_,.cons r t,h=>.cons r (zGE t h)
theorem zAM {α β:Type}{F:α→β→Prop}{l:List α}{m:List β} (h:Paired F l m):l.length=m.length:=Paired.length h
theorem zAr {α β:Type}{F G:α→β→Prop} (f:∀ a b,F a b→G a b) {l:List α}{m:List β} (r:Paired F l m):Paired G l m:=Paired.mapP r f
theorem zAl {α β:Type}{F:α→β→Prop}{l:List α}{m:List β} (h:Paired F l m) {i:Nat}{a:α} (e:l[i]? = some a):∃ b,m[i]? = some b∧F a b:=zD1 h e
theorem zAm {α β:Type}{F:α→β→Prop}:∀ {l:List α}{m:List β},Paired F l m→∀ {i:Nat}{b:β},m[i]? = some b→∃ a,l[i]? = some a∧F a b
 | _,_,.nil,_,_,e=>by simp at e
 | _,_,.cons r t,0,b,e=>by simp at e; subst e; exact ⟨_,rfl,r⟩
 | _,_,.cons r t,i+1,b,e=>by
  obtain ⟨a,h1,h2⟩:=zAm t (i:=i) (b:=b) (by simpa using e)
  exact ⟨a,by simpa using h1,h2⟩
theorem pr_set {α β:Type}{F:α→β→Prop}{a:α}{b:β} (h:F a b):∀ {l:List α}{m:List β} (i:Nat),Paired F l m→Paired F (l.set i a) (m.set i b)
 | _,_,_,.nil=>.nil
 | _,_,0,.cons _ t=>.cons h t
 | _,_,i+1,.cons q t=>.cons q (pr_set h i t)
theorem zAh {α:Type}:∀ {l:List α}{i:Nat}{x:α},l[i]? = some x→l.take (i+1)=l.take i++[x]
 | [],i,x,h=>by simp at h
 | a::l,0,x,h=>by
  have e:a=x:=Option.some.inj h
  subst e
  rfl
 | a::l,i+1,x,h=>by
  have ih:=zAh (l:=l) (i:=i) (x:=x) h
  show a::l.take (i+1)=a::l.take i++[x]
  rw [ih]
  rfl
theorem small {n m:Nat} (h:n≤m) (hm:m < sizeLine:=by decide):n < sizeLine:=Nat.lt_of_le_of_lt h hm
def SB (S:List Addr) (H H':Hp):Prop:=∀ b o,H b=some o→b∉S→H' b=some o
theorem _root_.L2.Same.sb {H H':Hp} (h:Same H H') (S:List Addr):SB S H H':=fun b o e _=>h b o e
theorem SB.trans {S:List Addr}{H H1 H2:Hp} (a:SB S H H1) (b:SB S H1 H2):SB S H H2:=fun c o e n=>b c o (a c o e n) n
theorem zDX {H:Hp}{p:Addr}{o:HO}:SB [p] H (upd H p o):=fun b q e n=>by rw [zAG (by simpa using n)]; exact e
theorem zAJ {H:Hp}{p:Addr}{o:HO} (h:H p=none):Same H (upd H p o):=fun b q e=>by rw [zAG (zAC e h)]; exact e
theorem _root_.L2.Same.upd {H H':Hp}{p:Addr}{o:HO} (s:Same H H') (h:H p=none):Same H (upd H' p o):=fun b q e=>by rw [zAG (zAC e h)]; exact s b q e
def zCr (b:Sx01.Bytes):List V:=b.map fun (c:Nat)=>V.int (c:Int)
def zEq (c:Sx01.Cell):List V:=c.map V.int
def zBq (H:Hp) (v:V) (b:Sx01.Bytes):Prop:=∃ a,v = .ref a∧H a=some (.tup (zCr b))
def IsCel (K:Fg) (H:Hp) (v:V) (c:Sx01.Cell):Prop:=∃ a,v = .ref a∧SqT K H a (zEq c)
def zBJ {α:Type} (K:Fg) (R:Hp→V→α→Prop) (H:Hp) (v:V) (l:List α):Prop:=∃ a vs,v = .ref a∧SqT K H a vs∧Paired (R H) vs l
abbrev zAy (K:Fg):Hp→V→Sx01.Row→Prop:=zBJ K (IsCel K)
abbrev zDF (K:Fg):Hp→V→List Sx01.Row→Prop:=zBJ K (zAy K)
abbrev zA1 (K:Fg):Hp→V→List Sx01.Bytes→Prop:=zBJ K zBq
structure KTup (H H':Hp):Prop where
 tup:∀ b xs,H b=some (.tup xs)→H' b=some (.tup xs)
 frz:∀ b o u,H b=some (.frz o u)→H' b=some (.frz o u)
theorem _root_.L2.Same.kt {H H':Hp} (h:Same H H'):KTup H H':=⟨fun b xs e=>h b _ e,fun b o u e=>h b _ e⟩
theorem KTup.trans {H H1 H2:Hp} (a:KTup H H1) (b:KTup H1 H2):KTup H H2:=⟨fun c xs e=>b.tup c xs (a.tup c xs e),fun c o u e=>b.frz c o u (a.frz c o u e)⟩
theorem KTup.refl (H:Hp):KTup H H:=⟨fun _ _ e=>e,fun _ _ _ e=>e⟩
theorem kt_upd {H:Hp}{p:Addr}{o q:HO} (h:H p=some q) (n1:∀ xs,q≠.tup xs) (n2:∀ ob u,q≠.frz ob u):KTup H (upd H p o) :=
 ⟨fun b xs e=>by rw [zAG (zBA e h (fun z=>n1 xs z.symm))]; exact e,fun b ob u e=>by rw [zAG (zBA e h (fun z=>n2 ob u z.symm))]; exact e⟩
theorem zAi {H:Hp}{p:Addr}{o:HO}{xs:List V} (h:H p=some (.lst xs)):KTup H (upd H p o):=kt_upd h (fun _ z=>by cases z) (fun _ _ z=>by cases z)
theorem zBd {H:Hp}{p:Addr}{o:HO} (h:H p=none):KTup H (upd H p o):=(zAJ h).kt
theorem KTup.sqt {K:Fg}{H H':Hp}{a:Addr}{xs:List V} (k:KTup H H') (h:SqT K H a xs):SqT K H' a xs:=by
 rcases h with (h | ⟨o,h⟩) | h
 ·exact .inl (.inl (k.tup _ _ h))
 ·exact .inl (.inr ⟨o,k.frz _ _ _ h⟩)
 ·exact .inr h
def Mono {α:Type} (R:Hp→V→α→Prop):Prop:=∀ H H' v x,KTup H H'→R H v x→R H' v x
theorem mono_name:Mono zBq:=fun H H' v x k ⟨a,e,h⟩=>⟨a,e,k.tup _ _ h⟩
theorem mono_cel {K:Fg}:Mono (IsCel K):=fun H H' v x k ⟨a,e,h⟩=>⟨a,e,k.sqt h⟩
theorem zBt {α:Type}{K:Fg}{R:Hp→V→α→Prop} (m:Mono R):Mono (zBJ K R):=fun H H' v x k ⟨a,vs,e,h,p⟩=>⟨a,vs,e,k.sqt h,zAr (fun v y r=>m H H' v y k r) p⟩
theorem mono_row {K:Fg}:Mono (zAy K):=zBt mono_cel
theorem zBo {K:Fg}:Mono (zDF K):=zBt mono_row
theorem zAa {K:Fg}:Mono (zA1 K):=zBt mono_name
theorem Mono.pr {α:Type}{R:Hp→V→α→Prop} (m:Mono R) {H H':Hp}{vs:List V}{l:List α} (k:KTup H H') (p:Paired (R H) vs l):Paired (R H') vs l:=zAr (fun v y r=>m H H' v y k r) p
structure Cal (P:Program) (w:World) (K:Fg) (mg:MG) (base:Heap) (CX:CXT) (k:Nat) (x:Str) (ps:List Str) (sp:Sp):Prop where
 ex:∃ f fd,mg x=some (.ref f)∧PySem.W.keepIn K (.ref f)=true∧Binds K fd ps []∧FnOk P w K mg base CX k f fd ps sp
structure MCal (P:Program) (w:World) (K:Fg) (mg:MG) (base:Heap) (CX:CXT) (k:Nat) (C:Addr) (m:Str) (ps:List Str) (sp:Sp):Prop where
 ex:∃ f fd,Meth K C m f∧Binds K fd ps []∧FnOk P w K mg base CX k f fd ps sp
structure KCal (P:Program) (w:World) (K:Fg) (mg:MG) (base:Heap) (CX:CXT) (k:Nat) (x:Str) (C:Addr) (ps:List Str) (sp:Sp):Prop where
 ex:∃ f fd,Mk K C f∧mg x=some (.ref C)∧Binds K fd ps []∧FnOk P w K mg base CX k f fd ps sp
section
variable {X:Cx}{CX:CXT}{k:Nat}{C:Addr}{ps:List Str}{sp:Sp}{E:XK}{x m:Str}{p pos apos:Pos}{e o:Expr}{es:List Expr}{ta:TE}{t:TA}
theorem ec (c:Cal X.prog X.w X.K X.mg X.base CX k x ps sp) (hr:Room k X.A) (hx:zBX CX X E) (ha:PA X (e::es) t) (hg:Gl X x:=by rfl)
  (hdb:(x == ("__debug__":Str))=false:=by decide) (he:starEach (e::es) X.env=(false,eval e X.env)::starEach es X.env:=by rfl) (hpl:(backTo pos (starEach es X.env)).any (·.1)=false:=by rfl) :
  PE X (.Call (.Name x p) (e::es) [] pos) (zHN sp [] E t):=by
 obtain ⟨f,fd,h1,h2,h3,h4⟩:=c.ex
 exact pe_call h4 hr hg h1 h2 h3 .nil hx ha hdb he hpl
theorem em {pl:Sem Bool} (c:MCal X.prog X.w X.K X.mg X.base CX k C m ps sp) (cl:Cls X.K C) (hr:Room k X.A) (hx:zBX CX X E) (ho:PE X o ta) (ha:PA X (e::es) t)
    (hst:starEach (e::es) X.env=(false,eval e X.env)::starEach es X.env:=by rfl) (hpl:(backTo pos (starEach es X.env)).any (·.1)=false:=by rfl)
    (ht:eval (.Call (.Attribute o m apos) (e::es) [] pos) X.env=(do
      let ov ←eval o X.env
      standAt apos.atName
      let (f,first) ←holding [ov] (getMethod ov m pl)
      callWith pos f first (backTo pos (starEach (e::es) X.env)) (backToKw pos (keywordEach [] X.env))):=by rfl) :
    PE X (.Call (.Attribute o m apos) (e::es) [] pos) (zGy C m sp [] E ta t):=by
  obtain ⟨f,fd,h1,h2,h3⟩:=c.ex
  exact pe_meth ho cl h1 h3 hr h2 .nil hx ha hst hpl ht
theorem em0 {pl:Sem Bool} (c:MCal X.prog X.w X.K X.mg X.base CX k C m ps sp) (cl:Cls X.K C) (hr:Room k X.A) (hx:zBX CX X E) (ho:PE X o ta)
    (ht:eval (.Call (.Attribute o m apos) [] [] pos) X.env=(do
      let ov ←eval o X.env
      standAt apos.atName
      let (f,first) ←holding [ov] (getMethod ov m pl)
      callWith pos f first (backTo pos (starEach [] X.env)) (backToKw pos (keywordEach [] X.env))):=by rfl) :
    PE X (.Call (.Attribute o m apos) [] [] pos) (zGy C m sp [] E ta tNil):=by
  obtain ⟨f,fd,h1,h2,h3⟩:=c.ex
  exact pe_meth0 ho cl h1 h3 hr h2 .nil hx ht
theorem ek (c:KCal X.prog X.w X.K X.mg X.base CX k x C ps sp) (hr:Room (k+1) X.A) (hx:zBX CX X E) (ha:PA X (e::es) t) (hg:Gl X x:=by rfl)
  (hdb:(x == ("__debug__":Str))=false:=by decide) (he:starEach (e::es) X.env=(false,eval e X.env)::starEach es X.env:=by rfl) (hpl:(backTo pos (starEach es X.env)).any (·.1)=false:=by rfl) :
  PE X (.Call (.Name x p) (e::es) [] pos) (tMake C sp [] E t):=by
 obtain ⟨f,fd,h1,h2,h3,h4⟩:=c.ex
 exact pe_make h1 h4 hr hg h2 h3 .nil hx ha hdb he hpl
theorem ek0 (c:KCal X.prog X.w X.K X.mg X.base CX k x C ps sp) (hr:Room (k+1) X.A) (hx:zBX CX X E) (hg:Gl X x:=by rfl)
  (hdb:(x == ("__debug__":Str))=false:=by decide):PE X (.Call (.Name x p) [] [] pos) (tMake C sp [] E tNil):=by
 obtain ⟨f,fd,h1,h2,h3,h4⟩:=c.ex
 exact pe_make0 h1 h4 hr hg h2 h3 .nil hx hdb
def GI (mg:MG) (x:Str) (n:Int):Prop:=∃ t,mg x=some (.int n t)
theorem eg {n:Int} (h:GI X.mg x n) (hg:Gl X x:=by rfl) (hd:(x == ("__debug__":Str))=false:=by decide):PE X (.Name x pos) (tC (.int n)):=by
 obtain ⟨t,e⟩:=h
 exact zEe hg e ⟨t,rfl⟩ hd
end
def GT0 (K:Fg) (mg:MG) (x:Str) (a:Addr):Prop:=mg x=some (.ref a)∧∃ (o:Obj) (n:Nat),K.lookup a=some o∧o.cls = .type "tuple"∧o.data = .seq #[] n
theorem GT0.sq {K:Fg}{mg:MG}{x:Str}{a:Addr} (g:GT0 K mg x a) (H:Hp):SqT K H a []:=by
 obtain ⟨_,o,n,h1,h2,h3⟩:=g
 exact .inr ⟨o,#[],n,h1,h2,h3,Nat.zero_le _,.nil⟩
section
variable {X:Cx}{K:Fg}{e:Expr}{f:Str}{pos:Pos}{ta:TE}
theorem lenK (hK:X.K=K):zDs X (.builtin "len") (fun xs H Q=>∃ p ys,xs=[.ref p]∧(SqL K H p ys∨SqT K H p ys)∧Q (.int ys.length) H):=by
 subst hK
 exact zAL
theorem neK (hK:X.K=K) (hu:X.A.units+64 < cLine):OpR X (compareOp .NotEq) (rNeD K):=by
 subst hK
 exact zDb hu
theorem ixtK (hK:X.K=K):IxR X (rIxT K):=by
 subst hK
 exact zBW
theorem fldK (hK:X.K=K) (he:PE X e ta) (hb:attributeBase e f X.env (eval e X.env)=eval e X.env):PE X (.Attribute e f pos) (tFld K ta f):=by
 subst hK
 exact zAI he hb
end
theorem yes {σ:L2.St}{H:Hp}{A B:Hp→Prop} (h:A H):tYes σ H fun b H3=>if b=true then A H3 else B H3:=by
 show (if true=true then A H else B H)
 rw [if_pos rfl]
 exact h
def Shy:HO→Prop
 | .tup _=>True
 | .frz _ _=>True
 | .dT _=>True
 | .ins _ _ fs=>fs.length=3
 | _=>False
def KSh (H H':Hp):Prop:=∀ b o,H b=some o→Shy o→H' b=some o
theorem _root_.L2.Same.ks {H H':Hp} (h:Same H H'):KSh H H':=fun b o e _=>h b o e
theorem KSh.trans {H H1 H2:Hp} (a:KSh H H1) (b:KSh H1 H2):KSh H H2:=fun c o e s=>b c o (a c o e s) s
theorem KSh.kt {H H':Hp} (a:KSh H H'):KTup H H':=⟨fun b xs e=>a b _ e trivial,fun b ob u e=>a b _ e trivial⟩
theorem zCf {H H':Hp}{p C dx:Addr}{fs:List (Str×V)} (hp:H p=some (.ins C dx fs)) (n:fs.length≠3) (k:SB [p] H H'):KSh H H':=fun b o e s=>k b o e (by
 intro hm
 have z:b=p:=by simpa using hm
 subst z
 rw [hp] at e
 cases e
 exact n s)
theorem kt_sb {H H':Hp}{p C dx:Addr}{fs:List (Str×V)} (hp:H p=some (.ins C dx fs)) (k:SB [p] H H'):KTup H H' :=
 ⟨fun b xs e=>k b _ e (by simpa using zBA e hp (by intro q; cases q)),fun b ob u e=>k b _ e (by simpa using zBA e hp (by intro q; cases q))⟩
theorem SB.mono {S S':List Addr}{H H':Hp} (k:SB S H H') (h:∀ b∈S,b∈S'):SB S' H H':=fun b o e n=>k b o e fun z=>n (h b z)
theorem SB.new {S:List Addr}{H H':Hp}{p:Addr}{o:HO} (k:SB S H H') (h:H p=none):SB S H (upd H' p o):=fun b q e n=>by rw [zAG (zAC e h)]; exact k b q e n
theorem SB.refl {S:List Addr} (H:Hp):SB S H H:=fun _ _ e _=>e
theorem SB.free {S:List Addr}{H H':Hp} (k:SB S H H') {b:Addr} (n:b∉S) (h:H' b=none):H b=none:=by
 cases e:H b with
 | none=>rfl
 | some o =>
  rw [k b o e n] at h
  cases h
theorem lk0 {f:Str}{v:V}{r:List (Str×V)}:((f,v)::r).lookup f=some v:=by simp [List.lookup]
theorem lk1 {f g:Str}{v:V}{r:List (Str×V)} (h:(f == g)=false:=by decide +kernel):((g,v)::r).lookup f=r.lookup f:=by simp [List.lookup,h]
theorem pf0 {f:Str}{v:V}:putF f v []=[(f,v)]:=rfl
theorem pf1 {f g:Str}{v x:V}{r:List (Str×V)} (h:¬ g=f:=by decide +kernel):putF f v ((g,x)::r)=(g,x)::putF f v r:=by
 show (if g=f then _ else _)=_
 rw [if_neg h]
theorem pf2 {f:Str}{v x:V}{r:List (Str×V)}:putF f v ((f,x)::r)=(f,v)::r:=by
 show (if f=f then _ else _)=_
 rw [if_pos rfl]
end Sh
namespace Sh
open PySem PySem.Spec PyProof.Rows L2
def rf:Option (Option Value)→Option Addr
 | some (some (.ref f))=>some f
 | _=>none
def gA (K:Fg) (x:Str):Option Addr:=rf (PySem.W.nsIn K mainGlobals x)
def cA (K:Fg) (x:Str):Addr:=(gA K x).getD 0
def mAt (K:Fg) (C:Addr) (x:Str):Option Addr:=rf (PySem.W.findIn K (.ref C) x)
def nrm (fd:FuncData):FuncData:={ fd with kwdefaults:=.none,doc:=.none,pyModule:=.none,annotations:=none,code:=.none,closureTuple:=.none }
def exF (x q:Str) (st:Stmt):FuncData:=PySem.W.fnOf x q (zDk st) (zCQ st) (zAH st) .none .none .none .none none .none .none
def fv (K:Fg) (q:Str) (f:Addr):Option FuncData:=match K.lookup f with
 | some ⟨_,_,.func fd,_⟩=>match PySem.W.codeIn K fd.code q && PySem.W.keepIn K (.ref f) && PySem.W.isFn K (.ref f) with
  | true=>some (nrm fd)
  | false=>none
 | _=>none
def oG (K:Fg) (x:Str):Option FuncData:=(gA K x).bind (fv K x)
def oM (K:Fg) (cx x q:Str):Option FuncData:=(mAt K (cA K cx) x).bind (fv K q)
def oK (K:Fg) (x q:Str):Option FuncData:=(gA K x).bind fun C=>match PySem.W.makesIn K C && PySem.W.keepIn K (.ref C) with
 | true=>(mAt K C "__init__").bind (fv K q)
 | false=>none
def bCl (K:Fg) (x:Str):Bool:=PySem.W.plainGet K (cA K x) Str.empty && PySem.W.hasDictIn K (cA K x) && PySem.W.plainOver K (cA K x) && match PySem.W.findIn K (.ref (cA K x)) "__setattr__" with
 | some (some (.builtin s))=>s == "object.__setattr__"
 | _=>false
def bNA (K:Fg) (r:Str×Str):Bool:=match PySem.W.findIn K (.ref (cA K r.1)) r.2 with
 | some none=>true
 | _=>false
def bGI (K:Fg) (r:Str×Int):Bool:=match PySem.W.nsIn K mainGlobals r.1 with
 | some (some (.int m _))=>m == r.2
 | _=>false
def bNo (K:Fg) (x:Str):Bool:=match PySem.W.nsIn K mainGlobals x with
 | some none=>true
 | _=>false
def bEx (K:Fg) (x:Str):Bool:=(gA K x).isSome && PySem.W.excIn K (cA K x) excBm "Exception.__new__"
def bMr (K:Fg) (r:Str×Str×Bool):Bool:=PySem.W.mroIn K (cA K r.1) (.ref (cA K r.2.1)) == some r.2.2
def bT0 (K:Fg) (x:Str):Bool:=(gA K x).isSome && match K.lookup (cA K x) with
 | some ⟨.type t,_,.seq ⟨[]⟩ _,_⟩=>t == "tuple"
 | _=>false
def tbG:List (Str×Stmt):=[("answers",top 64),("is_cell",top 8),("is_row",top 9),("count_filled",top 11),("are_columns",top 7),("is_sheet",top 10),("write_all",top 51),("write_sheet",top 52),("write_settings",top 54),("write_steps",top 53),("settings_between",top 19),("keep_costs",top 18),("costs_of_row",top 21),("least_costs",top 20),("first_kinds",top 22),("steps_of_kinds",top 23),("difference",top 17),("row_put",top 46),("row_kept",top 47),("patched",top 45),("is_untold",top 38),("stays",top 40),("place_behind_neighbour",top 41),("joined_columns",top 39),("joined_sheet",top 43),("read_place",top 63)]
def tbM:List (Str×Str×Str×Stmt):=[("Sheet","has_column","Sheet.has_column",(zAK (top 6) 1)),("Sheet","cell_by_name","Sheet.cell_by_name",(zAK (top 6) 2)),("Sheet","row_by_names","Sheet.row_by_names",(zAK (top 6) 3)),("Reader","read_number","Reader.read_number",(zAK (top 49) 1)),("Reader","read_numbers","Reader.read_numbers",(zAK (top 49) 2)),("Reader","read_row","Reader.read_row",(zAK (top 49) 4)),("Reader","read_names","Reader.read_names",(zAK (top 49) 3)),("Reader","read_rows","Reader.read_rows",(zAK (top 49) 5)),("Reader","read_setting","Reader.read_setting",(zAK (top 49) 9)),("Reader","read_settings","Reader.read_settings",(zAK (top 49) 8)),("Reader","read_step","Reader.read_step",(zAK (top 49) 7)),("Reader","read_steps","Reader.read_steps",(zAK (top 49) 6)),("Doings","go_through","Doings.go_through",(zAK (top 25) 1)),("Doings","touches","Doings.touches",(zAK (top 25) 2)),("Doings","row_seen","Doings.row_seen",(zAK (top 25) 3)),("Doings","has_changed","Doings.has_changed",(zAK (top 25) 4)),("Doings","rows_put","Doings.rows_put",(zAK (top 25) 5)),("Joining","tell_columns","Joining.tell_columns",(zAK (top 37) 2)),("Joining","join_rows_put","Joining.join_rows_put",(zAK (top 37) 3)),("Joining","join_row_gone_in_one","Joining.join_row_gone_in_one",(zAK (top 37) 5)),("Joining","join_row_kept","Joining.join_row_kept",(zAK (top 37) 6)),("Joining","join_row","Joining.join_row",(zAK (top 37) 4)),("Joining","join_all","Joining.join_all",(zAK (top 37) 1)),("Desk","sheet_at","Desk.sheet_at",(zAK (top 62) 9)),("Desk","answer_new","Desk.answer_new",(zAK (top 62) 3)),("Desk","answer_sheet","Desk.answer_sheet",(zAK (top 62) 4)),("Desk","answer_diff","Desk.answer_diff",(zAK (top 62) 5)),("Desk","answer_patch","Desk.answer_patch",(zAK (top 62) 6)),("Desk","answer_join","Desk.answer_join",(zAK (top 62) 7)),("Desk","answer_look","Desk.answer_look",(zAK (top 62) 8)),("Desk","answer_call","Desk.answer_call",(zAK (top 62) 2)),("Desk","answer","Desk.answer",(zAK (top 62) 1))]
def tbK:List (Str×Str×Stmt):=[("Sheet","Sheet.__init__",(zAK (top 6) 0)),("Reader","Reader.__init__",(zAK (top 49) 0)),("Difference","Difference.__init__",(zAK (top 16) 0)),("Doings","Doings.__init__",(zAK (top 25) 0)),("Joining","Joining.__init__",(zAK (top 37) 0)),("Joined","Joined.__init__",(zAK (top 42) 0)),("Desk","Desk.__init__",(zAK (top 62) 0))]
def tbC:List Str:=["Sheet","Difference","Doings","Joining","Joined","Reader","Desk"]
def tbA:List (Str×Str):=[("Sheet","columns"),("Sheet","rows"),("Sheet","place_of"),("Difference","cost"),("Difference","steps"),("Doings","origin"),("Doings","sheet"),("Doings","kept_as"),("Doings","put_ahead"),("Doings","touched"),("Joining","origin"),("Joining","by_a"),("Joining","by_b"),("Joining","columns"),("Joining","rows"),("Joining","untold"),("Joined","sheet"),("Joined","untold"),("Reader","numbers"),("Reader","at"),("Desk","places")]
def tbI:List (Str×Int):=[("MOST_COLUMNS",64),("MOST_NAME_BYTES",64),("MOST_ROWS",256),("MOST_CELL_NUMBERS",64),("KEEP",0),("GONE",1),("PUT",2),("CELL_UNTOLD",1),("ROW_UNTOLD",2),("COLUMN_UNTOLD",3),("TAKER_A",1),("TAKER_B",2),("PLACES",4),("NEW",0),("SHEET",1),("DIFF",2),("PATCH",3),("JOIN",4)]
def tbN:List Str:=["enumerate","tuple","len","all","set","range","reversed","min","zip","any","list"]
def tbX:List Str:=["NoSuchPlace","NoSheetThere","NotFitting","NotJoinable"]
def tbR:List (Str×Str×Bool):=[("NoSuchPlace","NoSuchPlace",true),("NoSheetThere","NoSuchPlace",false),("NoSheetThere","NoSheetThere",true),("NotFitting","NoSuchPlace",false),("NotFitting","NoSheetThere",false),("NotFitting","NotFitting",true),("NotJoinable","NoSuchPlace",false),("NotJoinable","NoSheetThere",false),("NotJoinable","NotFitting",false),("NotJoinable","NotJoinable",true)]
abbrev Obs:=List (Option FuncData)×List (Option FuncData)×List (Option FuncData)×Bool
def obs (K:Fg):Obs:=(tbG.map fun r=>oG K r.1,tbM.map fun r=>oM K r.1 r.2.1 r.2.2.1,tbK.map fun r=>oK K r.1 r.2.1,
 tbC.all (bCl K) && (tbA.all (bNA K) && (tbI.all (bGI K) && (tbN.all (bNo K) && (tbX.all (bEx K) && (tbR.all (bMr K) && bT0 K "NOTHING"))))))
def due:Obs:=(tbG.map fun r=>some (exF r.1 r.1 r.2),tbM.map fun r=>some (exF r.2.1 r.2.2.1 r.2.2.2),tbK.map fun r=>some (exF "__init__" r.2.1 r.2.2),true)
end Sh
namespace Hd
open PySem PySem.W PyProof.Rows
def lC (F:Frag→Sh.Obs) (p:Program) (w:World):=at_ p w 9008 fun _ t=>F (fr t.heap)
theorem lC_s:Hd.lC=Hd.lC:=rfl
name_quick lC for Hd.lC by Hd.lC_s
set_option maxHeartbeats 0 in
theorem lC_q:∀ w,PySem.W.Fast.lC Sh.obs PySem.Challenge.pw_sheetsheld_s01_answers w=some Sh.due:=fun w=>by kernel_rfl
theorem lC_ok (w:World):at_ PySem.Challenge.pw_sheetsheld_s01_answers w 9008 (fun _ t=>Sh.obs (fr t.heap))=some Sh.due:=(congrFun (congrFun (congrFun PySem.W.Fast.lC_eq _) _) w).trans (lC_q w)
theorem at_fst {α β:Type}{p:Program}{w:World}{N:Nat}{f:Shared→Shared→α}{g:Shared→Shared→β}{a:α}{b:β} (h:at_ p w N (fun s t=>(f s t,g s t))=some (a,b)):at_ p w N f=some a:=by
 obtain ⟨s,t,e,r⟩:=at_of h
 unfold at_
 rw [e]
 exact congrArg some (Prod.mk.inj r).1
theorem at_snd {α β:Type}{p:Program}{w:World}{N:Nat}{f:Shared→Shared→α}{g:Shared→Shared→β}{a:α}{b:β} (h:at_ p w N (fun s t=>(f s t,g s t))=some (a,b)):at_ p w N g=some b:=by
 obtain ⟨s,t,e,r⟩:=at_of h
 unfold at_
 rw [e]
 exact congrArg some (Prod.mk.inj r).2
theorem left:LeftO PySem.Challenge.pw_sheetsheld_s01_answers (vw PySem.Challenge.pw_sheetsheld_s01_answers) [] (Xt PySem.Challenge.pw_sheetsheld_s01_answers) (fun t=>Sh.obs (fr t.heap)) (fun _=>Sh.due) 9008 :=
 left_of (fun w=>at_fst (lA_ok w)) (fun w=>at_snd (lA_ok w)) lC_ok
def hook:Hook:=⟨Sh.Obs,fun s=>Sh.obs (fr s.heap),fun _=>Sh.due,fun _ h=>∃ K:Frag,K.In h∧Sh.obs K=Sh.due,fun _ s e=>⟨fr s.heap,fr_in _,e⟩,fun _ _ _ ⟨K,X,e⟩ k=>⟨K,X.keeps k,e⟩⟩
end Hd
set_option maxHeartbeats 2000000
namespace Sh
open PySem PySem.Spec PyProof.Rows L2 ShM
structure Cs where
 sheet:Addr
 diff:Addr
 doings:Addr
 joining:Addr
 joined:Addr
 reader:Addr
 desk:Addr
 ePlace:Addr
 eSheet:Addr
 eFit:Addr
 eJoin:Addr
 nothing:Addr
structure TxS (K:Fg) (mg:MG) (c:Cs):Prop where
 cl:Cls K c.sheet
 nC:NoAttr K c.sheet "columns"
 nR:NoAttr K c.sheet "rows"
 nP:NoAttr K c.sheet "place_of"
 mostC:GI mg "MOST_COLUMNS" 64
 mostN:GI mg "MOST_NAME_BYTES" 64
 mostR:GI mg "MOST_ROWS" 256
 mostV:GI mg "MOST_CELL_NUMBERS" 64
 nothing:GT0 K mg "NOTHING" c.nothing
 enum:mg "enumerate" = none
 tuple:mg "tuple" = none
 len:mg "len" = none
 all:mg "all" = none
 set:mg "set" = none
def zCD (n:Sx01.Bytes):List Key:=n.map fun (c:Nat)=>Sum.inl (c:Int)
theorem zC9 (n:Sx01.Bytes):(zCD n).map kV=zCr n:=by
 unfold zCD zCr
 rw [List.map_map]
 rfl
theorem key_inj {a b:Sx01.Bytes} (h:zCD a=zCD b):a=b:=by
 unfold zCD at h
 have:Function.Injective (fun (c:Nat)=>(Sum.inl (c:Int):Key)):=fun x y e=>by
  have e2:=Sum.inl.inj e
  omega
 exact (List.map_inj_right (fun x y e=>this e)).mp h
abbrev shF (ca ra pa:Addr):List (Str×V):=[("columns",.ref ca),("rows",.ref ra),("place_of",.ref pa)]
def Places (cols:List Sx01.Bytes) (kvs:List (List Key×V)):Prop:=∀ n,valV kvs (zCD n)=(Sx01.placeOf cols n).map fun (k:Nat)=>V.int (k:Int)
structure SheetAt (K:Fg) (c:Cs) (H:Hp) (a:Addr) (s:Sx01.Sheet):Prop where
 ob:∃ dx ca ra pa kvs,H a=some (.ins c.sheet dx (shF ca ra pa))∧zA1 K H (.ref ca) s.cols∧zDF K H (.ref ra) s.rows∧H pa=some (.dT kvs)∧Places s.cols kvs
 wf:WF s
theorem SheetAt.ks {K:Fg}{c:Cs}{H H':Hp}{a:Addr}{s:Sx01.Sheet} (h:SheetAt K c H a s) (k:KSh H H'):SheetAt K c H' a s:=by
 obtain ⟨dx,ca,ra,pa,kvs,h1,h2,h3,h4,h5⟩:=h.ob
 exact ⟨⟨dx,ca,ra,pa,kvs,k _ _ h1 rfl,zAa _ _ _ _ k.kt h2,zBo _ _ _ _ k.kt h3,k _ _ h4 trivial,h5⟩,h.wf⟩
theorem SheetAt.same {K:Fg}{c:Cs}{H H':Hp}{a:Addr}{s:Sx01.Sheet} (h:SheetAt K c H a s) (k:Same H H'):SheetAt K c H' a s:=by
 obtain ⟨dx,ca,ra,pa,kvs,h1,h2,h3,h4,h5⟩:=h.ob
 exact ⟨⟨dx,ca,ra,pa,kvs,k _ _ h1,zAa _ _ _ _ k.kt h2,zBo _ _ _ _ k.kt h3,k _ _ h4,h5⟩,h.wf⟩
section
variable {P:Program}{w:World}{K:Fg}{mg:MG}{base:Heap}{c:Cs}
abbrev sHas:Stmt:=zAK (top 6) 1
theorem scHas:FnScope ["self","name"] ["self","name"] (zAH sHas):=scm
def spHas (K:Fg) (c:Cs):Sp:=fun vs H Q _=>∃ (a:Addr) (s:Sx01.Sheet) (v:V) (n:Sx01.Bytes),vs=[.ref a,v]∧SheetAt K c H a s∧zBq H v n∧Q (.bl (s.cols.contains n)) H
theorem zG2 (cols:List Sx01.Bytes) (n:Sx01.Bytes):(Sx01.placeOf cols n).isSome=cols.contains n:=by
 unfold Sx01.placeOf
 rw [List.findIdx?_isSome,List.contains_eq_any_beq]
 congr 1
 funext x
 exact Bool.beq_comm
theorem ok_has {f:Addr}{fd:FuncData} (F:Fun K "has_column" "Sheet.has_column" sHas f fd) (T:TxS K mg c):FnOk P w K mg base CX0 1 f fd ["self","name"] (spHas K c):=by
 refine F.ok scHas (fun vs H Q E h=>?_) (fun cdv A outer s H vs Q E hr h=>?_)
 ·obtain ⟨a,s,v,n,rfl,_⟩:=h
  rfl
 ·refine hide fun Gz zG=>?_
  obtain ⟨a,sh,v,n,rfl,S,⟨b,rfl,hb⟩,k⟩:=h
  have hu:=hu_of hr
  obtain ⟨dx,ca,ra,pa,kvs,h1,h2,h3,h4,h5⟩:=S.ob
  refine zG ?_; clear zG
  refine ⟨_,zAF (zAQ (zFB (zGK hu (pv 1) (zAI (pv 0) rfl)))),?_⟩
  refine ⟨_,rfl,_,rfl,a,c.sheet,dx,_,_,rfl,h1,T.cl,T.nP,(by rw [lk1,lk1,lk0]),pa,_,rfl,DGet.t (k:=zCD n) h4 (by rw [zC9]; exact hb),?_⟩
  rw [h5 n,Option.isSome_map,zG2]
  exact k
abbrev sCbn:Stmt:=zAK (top 6) 2
theorem scCbn:FnScope ["self","row","name"] ["self","row","name"] (zAH sCbn):=scm
def spCbn (K:Fg) (c:Cs):Sp:=fun vs H Q _=>∃ (a:Addr) (s:Sx01.Sheet) (vr v:V) (r:Sx01.Row) (n:Sx01.Bytes),vs=[.ref a,vr,v]∧SheetAt K c H a s∧zAy K H vr r∧r.length=s.cols.length∧zBq H v n ∧
 ∀ u,IsCel K H u (Sx01.cellOf s.cols r n)→Q u H
theorem place_lt {cols:List Sx01.Bytes}{n:Sx01.Bytes}{k:Nat} (h:Sx01.placeOf cols n=some k):k < cols.length:=by
 unfold Sx01.placeOf at h
 exact (List.findIdx?_eq_some_iff_getElem.mp h).1
theorem ok_cbn {f:Addr}{fd:FuncData} (F:Fun K "cell_by_name" "Sheet.cell_by_name" sCbn f fd) (T:TxS K mg c):FnOk P w K mg base CX0 1 f fd ["self","row","name"] (spCbn K c):=by
 refine F.ok scCbn (fun vs H Q E h=>?_) (fun cdv A outer s H vs Q E hr h=>?_)
 ·obtain ⟨a,s,vr,v,r,n,rfl,_⟩:=h
  rfl
 ·refine hide fun Gz zG=>?_
  obtain ⟨a,sh,vr,v,r,n,rfl,S,⟨ar,cs,rfl,hr1,hr2⟩,hlen,⟨b,rfl,hb⟩,k⟩:=h
  have hu:=hu_of hr
  obtain ⟨dx,ca,ra,pa,kvs,h1,h2,h3,h4,h5⟩:=S.ob
  refine zG ?_; clear zG
  refine ⟨_,zAD (zAk (pt_cmp (zGK hu (pv 2) (zAI (pv 0) rfl))) (zAF (zAQ (zAn zBW (pv 1) (pe_dget hu (zAI (pv 0) rfl) (pv 2) (fun _ _=>rfl)) (fun _ _=>rfl)))) zAY)
   (zAF (zAQ (zEe (v:=.ref c.nothing) rfl T.nothing.1 rfl))),?_⟩
  have g:=DGet.t (H:=H) (a:=pa) (b:=b) (k:=zCD n) h4 (by rw [zC9]; exact hb)
  rw [h5 n] at g
  refine ⟨_,rfl,_,rfl,a,c.sheet,dx,_,_,rfl,h1,T.cl,T.nP,(by rw [lk1,lk1,lk0]),pa,_,rfl,g,_,rfl,?_⟩
  unfold Sx01.cellOf at k
  cases e:Sx01.placeOf sh.cols n with
  | none =>
   rw [e] at k
   refine iteF ?_
   exact k _ ⟨_,rfl,T.nothing.sq H⟩
  | some j =>
   rw [e] at k g
   refine iteT ?_
   have lt:j < r.length:=by rw [hlen]; exact place_lt e
   obtain ⟨u,hu1,hu2⟩:=zAm hr2 (List.getElem?_eq_getElem lt)
   refine ⟨_,rfl,_,rfl,a,c.sheet,dx,_,_,rfl,h1,T.cl,T.nP,(by rw [lk1,lk1,lk0]),_,rfl,pa,_,rfl,g,ar,cs,(j:Int),u,rfl,rfl,hr1,zAO hu1,?_⟩
   refine k u ?_
   have e2:r.getD j []=r[j]:=by rw [List.getD_eq_getElem?_getD,List.getElem?_eq_getElem lt]; rfl
   show IsCel K H u (r.getD j [])
   rw [e2]
   exact hu2
end
end Sh
set_option maxHeartbeats 2000000
namespace Sh
open PySem PySem.Spec PyProof.Rows L2 ShM
theorem bt_all:bootBuiltins "all" = some (.builtin "all"):=by decide +kernel
theorem bt_any:bootBuiltins "any" = some (.builtin "any"):=by decide +kernel
theorem zAj:bootBuiltins "len" = some (.builtin "len"):=by decide +kernel
theorem bt_min:bootBuiltins "min" = some (.builtin "min"):=by decide +kernel
theorem bt_set:bootBuiltins "set" = some (.type "set"):=by decide +kernel
theorem zBD:bootBuiltins "tuple" = some (.type "tuple"):=by decide +kernel
theorem bt_list:bootBuiltins "list" = some (.type "list"):=by decide +kernel
section
variable {P:Program}{w:World}{K:Fg}{mg:MG}{base:Heap}{c:Cs}
abbrev zHd:Stmt:=zAK (top 6) 0
theorem scSInit:FnScope ["self","columns","rows","place","name"] ["self","columns","rows"] (zAH zHd):=scm
def zHR (K:Fg) (c:Cs):Sp:=fun vs H Q _=>∃ (p dx:Addr) (vc vr:V) (s:Sx01.Sheet),vs=[.ref p,vc,vr]∧H p=some (.ins c.sheet dx [])∧zA1 K H vc s.cols∧zDF K H vr s.rows∧WF s ∧
 ∀ H',SheetAt K c H' p s→SB [p] H H'→Q .non H'
theorem zG3 (l:List Sx01.Bytes) (x n:Sx01.Bytes) (h:x∉l):(Sx01.placeOf (l++[x]) n)=if n=x then some l.length else Sx01.placeOf l n:=by
 unfold Sx01.placeOf
 rw [List.findIdx?_append]
 by_cases e:n=x
 ·subst e
  rw [if_pos rfl]
  have:List.findIdx? (fun m=>m == n) l=none:=List.findIdx?_eq_none_iff.mpr fun y hy=>by
   refine beq_eq_false_iff_ne.mpr fun z=>h (z ▸ hy)
  rw [this]
  simp
 ·rw [if_neg e]
  have:List.findIdx? (fun m=>m == n) [x]=none:=List.findIdx?_eq_none_iff.mpr fun y hy=>by
   have z:y=x:=by simpa using hy
   rw [z]
   exact beq_eq_false_iff_ne.mpr fun q=>e q.symm
  rw [this]
  simp
theorem ok_sinit {f:Addr}{fd:FuncData} (F:Fun K "__init__" "Sheet.__init__" zHd f fd) (T:TxS K mg c):FnOk P w K mg base CX0 1 f fd ["self","columns","rows"] (zHR K c):=by
  refine F.ok scSInit (fun vs H Q E h=>?_) (fun cdv A outer s H vs Q E hr h=>?_)
  · obtain ⟨p,dx,vc,vr,s,rfl,_⟩:=h
    rfl
  · refine hide fun Gz zG=>?_
    obtain ⟨p,dx,vc,vr,sh,rfl,hp,hc,hrw,wf,k⟩:=h
    have hu:=hu_of hr
    obtain ⟨ca,cvs,rfl,hc1,hc2⟩:=id hc
    obtain ⟨ra,rvs,rfl,hr1,hr2⟩:=id hrw
    refine zG ?_; clear zG
    refine ⟨_,zAD (zA7 (pv 0) (pv 1) rfl) (zAD (zA7 (pv 0) (pv 2) rfl) (zAD (zA7 (pv 0) zGI rfl)
      (zAF (zA6 PassesOwn.never rfl (zCc rfl T.enum (zAA (pv 1) zAE)) (zB3 rfl (zAg (zAR (i:=3) scSInit.nd rfl (Or.inl rfl)) (zAg (zAR (i:=4) scSInit.nd rfl (Or.inl rfl)) zBb)))
        (zAF (ps_dput hu (zAI (pv 0) rfl) (pv 4) (pv 3) rfl)))))),?_⟩
    refine ⟨_,rfl,_,rfl,p,c.sheet,dx,[],rfl,hp,T.cl,T.nC,(by decide),?_⟩
    rw [pf0]
    refine ⟨_,rfl,_,rfl,p,c.sheet,dx,_,rfl,zAB,T.cl,T.nR,(by show 1 < 1000; decide),?_⟩
    rw [zBh,pf1,pf0]
    intro pd hpd
    have ne:p≠pd:=by
      intro z
      rw [←z,zAB] at hpd
      cases hpd
    have hpd0:H pd=none:=by rw [zAG ne.symm] at hpd; exact hpd
    refine ⟨_,rfl,p,c.sheet,dx,_,rfl,(by rw [zAG ne]; exact zAB),T.cl,T.nP,(by show 2 < 1000; decide),?_⟩
    rw [pf1,pf1,pf0]
    have hlen:=zAM hc2
    have base:∀ b o,H b=some o→b≠p→(upd (upd (upd H p (.ins c.sheet dx [("columns",.ref ca),("rows",.ref ra)])) pd (.dT [])) p (.ins c.sheet dx (shF ca ra pd))) b=some o:=fun b o e hb=>by
      rw [zAG hb,zAG (zAC e hpd0),zAG hb]
      exact e
    have ktOf:∀ H',(∀ b o,H b=some o→b≠p→H' b=some o)→KTup H H':=fun H' z=>⟨fun b xs e=>z b _ e (zBA e hp (by intro q; cases q)),fun b ob u e=>z b _ e (zBA e hp (by intro q; cases q))⟩
    refine ⟨_,rfl,ca,cvs,rfl,(ktOf _ base).sqt hc1,zCh (K:=K) (a:=ca) (xs:=cvs) (fun i σ H'=>∃ v3 v4 kvs,σ=[some (.ref p),some (.ref ca),some (.ref ra),v3,v4]∧H' p=some (.ins c.sheet dx (shF ca ra pd))∧H' pd=some (.dT kvs) ∧
      kvs.length≤i∧Places (sh.cols.take i) kvs∧∀ b o,H b=some o→b≠p→H' b=some o) ⟨none,none,[],rfl,zAB,(by rw [zAG ne.symm,zAB]),Nat.le_refl _,(fun n=>rfl),base⟩ ?_ ?_ ?_⟩
    · rintro i σ H' _ ⟨_,_,_,_,_,_,_,_,z⟩
      exact (ktOf H' z).sqt hc1
    · intro i x σ H' Tn hi hI hT
      refine hide fun Gz zG=>?_
      obtain ⟨v3,v4,kvs,rfl,e1,e2,e3,e4,z⟩:=hI
      obtain ⟨n,hn,a,rfl,ha⟩:=zAl hc2 hi
      refine zG ?_; clear zG
      have nT:∀ b o,H' b=some o→upd H' Tn (.tup [.int (i:Nat),.ref a]) b=some o:=fun b o e=>by rw [zAG (zAC e hT)]; exact e
      have ha':H' a=some (.tup (zCr n)):=z _ _ ha (zBA ha hp (by intro q; cases q))
      have il:i < cvs.length:=(List.getElem?_eq_some_iff.mp hi).1
      refine ⟨Tn,_,rfl,SqT.of zAB,rfl,_,_,rfl,_,_,rfl,rfl,?_⟩
      refine ⟨_,rfl,_,rfl,p,c.sheet,dx,_,_,rfl,nT _ _ e1,T.cl,T.nP,(by rw [lk1,lk1,lk0]),_,rfl,pd,_,rfl,DPut.t (k:=zCD n) (nT _ _ e2) (by rw [zC9]; exact nT _ _ ha') (small (m:=100) (by have:=wf.c64; omega)),?_⟩
      have npd:p≠pd:=ne
      refine ⟨_,_,_,rfl,(by rw [zAG npd]; exact nT _ _ e1),zAB,Nat.le_trans (zBu _ _ _) (by omega),fun m=>?_,fun b o e hb=>?_⟩
      · rw [zF0,zAh hn,zG3 _ _ _ ?_,e4 m]
        · by_cases q:m=n
          · subst q
            rw [if_pos rfl,if_pos rfl,List.length_take]
            have:min i sh.cols.length=i:=by omega
            rw [this]
            rfl
          · rw [if_neg q,if_neg (fun z=>q (key_inj z))]
        · intro hm
          obtain ⟨j,hj,ej⟩:=List.getElem_of_mem hm
          rw [List.length_take] at hj
          have e5:sh.cols[j]? = some n:=by
            rw [List.getElem_take] at ej
            rw [List.getElem?_eq_getElem (by omega),ej]
          have:=nd_ix wf.nd e5 hn
          omega
      · rw [zAG (zAC e hpd0)]
        exact nT _ _ (z b o e hb)
    · intro σ H' hI
      refine hide fun Gz zG=>?_
      obtain ⟨v3,v4,kvs,rfl,e1,e2,e3,e4,z⟩:=hI
      refine zG ?_; clear zG
      rw [hlen,List.take_length] at e4
      exact k H' ⟨⟨dx,ca,ra,pd,kvs,e1,zAa _ _ _ _ (ktOf H' z) hc,zBo _ _ _ _ (ktOf H' z) hrw,e2,e4⟩,wf⟩ fun b o e hb=>z b o e (by simpa using hb)
abbrev sRbn:Stmt:=zAK (top 6) 3
theorem scRbn:FnScope ["self","row","names","name"] ["self","row","names"] (zAH sRbn):=scm
def spRbn (K:Fg) (c:Cs):Sp:=fun vs H Q _=>∃ (a:Addr) (s:Sx01.Sheet) (vr vn:V) (r:Sx01.Row) (ns:List Sx01.Bytes),vs=[.ref a,vr,vn]∧SheetAt K c H a s∧zAy K H vr r∧r.length=s.cols.length∧zA1 K H vn ns∧ns.length≤1000 ∧
 ∀ u H',zAy K H' u (ns.map fun n=>Sx01.cellOf s.cols r n)→Same H H'→Q u H'
abbrev mCbn (P:Program) (w:World) (K:Fg) (mg:MG) (base:Heap) (c:Cs):Prop:=MCal P w K mg base CX0 1 c.sheet "cell_by_name" ["self","row","name"] (spCbn K c)
theorem ok_rbn {f:Addr}{fd:FuncData} (F:Fun K "row_by_names" "Sheet.row_by_names" sRbn f fd) (T:TxS K mg c) (m1:mCbn P w K mg base c):FnOk P w K mg base CX0 2 f fd ["self","row","names"] (spRbn K c):=by
 refine F.ok scRbn (fun vs H Q E h=>?_) (fun cdv A outer s H vs Q E hr h=>?_)
 ·obtain ⟨a,s,vr,vn,r,ns,rfl,_⟩:=h
  rfl
 ·refine hide fun Gz zG=>?_
  obtain ⟨a,sh,vr,vn,r,ns,rfl,S,hrow,hlen,hns,hn1000,k⟩:=h
  obtain ⟨na,nvs,rfl,hn1,hn2⟩:=id hns
  refine zG ?_; clear zG
  have hl:=zAM hn2
  refine ⟨_,zAF (zAQ (zAs zAe rfl T.tuple zBD (zAA (zCo (own:=[("name",3)]) rfl scRbn.nd (zBV (pv 2)) (zAp (by show blkC ["self","row","names","name"] (zAH sRbn) _ _=true; decide +kernel))
   (fun _ _ _ _ _=>zAR (i:=3) scRbn.nd rfl (Or.inl rfl)) (fun _ _ _ _ _=>zBE)
   (fun _ _ _ _ _=>em m1 T.cl hr zAU (pv 0) (zAA (pv 1) (zAA (pv 3) zAE)))) zAE))),?_⟩
  refine ⟨_,rfl,na,rfl,⟨_,hn1⟩,fun D hD=>zCG (K:=K) (a:=na) (xs:=nvs) (fun i H'=>∃ acc,H' D=some (.lst acc)∧Same H H'∧Paired (IsCel K H') acc ((ns.take i).map fun n=>Sx01.cellOf sh.cols r n)) ⟨[],zAB,zAJ hD,.nil⟩ ?_ ?_ ?_⟩
  ·rintro i H' _ ⟨acc,_,z,_⟩
   exact z.kt.sqt hn1
  ·rintro i x H' hi ⟨acc,e1,z,hp⟩
   obtain ⟨n,hn,hnm⟩:=zAl hn2 hi
   have il:i < nvs.length:=(List.getElem?_eq_some_iff.mp hi).1
   have al:=zAM hp
   rw [List.length_map,List.length_take] at al
   refine ⟨rfl,yes ⟨_,rfl,a,_,_,rfl,(S.same z).ob.choose_spec.choose_spec.choose_spec.choose_spec.choose_spec.1,(by rw [lk1,lk1,lk1]; rfl),_,rfl,_,rfl,a,sh,vr,x,r,n,rfl,S.same z,mono_row _ _ _ _ z.kt hrow,hlen,mono_name _ _ _ _ z.kt hnm,fun u hu=>?_⟩⟩
   refine ⟨acc,e1,small (m:=2000) (by omega),acc++[u],zAB,z.upd hD,?_⟩
   rw [zAh hn,List.map_append]
   exact zAv (mono_cel.pr (zAi e1) hp) (mono_cel _ _ _ _ (zAi e1) hu)
  ·rintro H' ⟨acc,e1,z,hp⟩
   rw [hl,List.take_length] at hp
   refine ⟨D,acc,rfl,.inl ⟨SqL.of e1,fun l hn=>?_⟩⟩
   exact k _ _ ⟨l,acc,rfl,SqT.of zAB,mono_cel.pr (zBd hn) hp⟩ (fun b o e=>by rw [zAG (zAC (z b o e) hn)]; exact z b o e)
abbrev zFf:Stmt:=top 8
theorem scIsCell:FnScope ["cell"] ["cell"] (zAH zFf):=scm
def zF6 (K:Fg):Sp:=fun vs H Q _=>∃ (v:V) (x:Sx01.Cell),vs=[v]∧IsCel K H v x∧Q (.bl (Sx01.cellOk x)) H
theorem ok_iscell {f:Addr}{fd:FuncData} (F:Fun K "is_cell" "is_cell" zFf f fd) (T:TxS K mg c):FnOk P w K mg base CX0 1 f fd ["cell"] (zF6 K):=by
 refine F.ok scIsCell (fun vs H Q E h=>?_) (fun cdv A outer s H vs Q E hr h=>?_)
 ·obtain ⟨v,x,rfl,_⟩:=h
  rfl
 ·refine hide fun Gz zG=>?_
  obtain ⟨v,x,rfl,⟨a,rfl,ha⟩,k⟩:=h
  refine zG ?_; clear zG
  refine ⟨_,zAF (zAQ (zB4 zFj (zAS zAL rfl T.len zAj (zAA (pv 0) zAE)) (eg T.mostV) (zAb _))),?_⟩
  refine ⟨_,rfl,a,_,rfl,.inr ha,_,_,rfl,rfl,?_⟩
  have e:decide (((zEq x).length:Int)≤64)=Sx01.cellOk x:=by
   unfold zEq Sx01.cellOk
   rw [List.length_map]
   by_cases h:x.length≤64
   ·rw [decide_eq_true h,decide_eq_true (by omega)]
   ·rw [decide_eq_false h,decide_eq_false (by omega)]
  show Q (V.bl (decide (((zEq x).length:Int)≤64))) H
  rw [e]
  exact k
abbrev zGA:Stmt:=top 9
theorem scIsRow:FnScope ["row","width","cell"] ["row","width"] (zAH zGA):=scm
def zHX (K:Fg):Sp:=fun vs H Q _=>∃ (v:V) (r:Sx01.Row) (n:Nat),vs=[v,.int (n:Int)]∧zAy K H v r∧r.length≤1000∧∀ H',Same H H'→Q (.bl (r.length == n && r.all Sx01.cellOk)) H'
abbrev zFx (P:Program) (w:World) (K:Fg) (mg:MG) (base:Heap):Prop:=Cal P w K mg base CX0 1 "is_cell" ["cell"] (zF6 K)
theorem ok_isrow {f:Addr}{fd:FuncData} (F:Fun K "is_row" "is_row" zGA f fd) (T:TxS K mg c) (c1:zFx P w K mg base):FnOk P w K mg base CX0 2 f fd ["row","width"] (zHX K):=by
 refine F.ok scIsRow (fun vs H Q E h=>?_) (fun cdv A outer s H vs Q E hr h=>?_)
 ·obtain ⟨v,r,n,rfl,_⟩:=h
  rfl
 ·refine hide fun Gz zG=>?_
  obtain ⟨v,r,n,rfl,hrow,h1000,k⟩:=h
  obtain ⟨a,cvs,rfl,hr1,hr2⟩:=id hrow
  refine zG ?_; clear zG
  have hl:=zAM hr2
  refine ⟨_,zAF (zAQ (pe_and (zB4 zBn (zAS zAL rfl T.len zAj (zAA (pv 0) zAE)) (pv 1) (zAb _)) (pe_one (zAS (cr_all rfl) rfl T.all bt_all (zAA (zCo (own:=[("cell",2)]) rfl scIsRow.nd (zBV (pv 0)) (zAp (by show blkC ["row","width","cell"] (zAH zGA) _ _=true; decide +kernel))
   (fun _ _ _ _ _=>zAR (i:=2) scIsRow.nd rfl (Or.inl rfl)) (fun _ _ _ _ _=>zBE) (fun _ _ _ _ _=>ec c1 hr zAU (zAA (pv 2) zAE))) zAE))))),?_⟩
  refine ⟨_,rfl,a,_,rfl,.inr hr1,_,rfl,rfl,_,rfl,?_⟩
  by_cases hn:r.length=n
  ·subst hn
   have e0:decide (V.int ((cvs.length:Nat):Int)=V.int ((r.length:Nat):Int))=true:=by rw [hl]; exact decide_eq_true rfl
   rw [e0]
   refine iteT ?_
   refine ⟨_,rfl,a,rfl,⟨_,hr1⟩,fun D hD=>zCG (K:=K) (a:=a) (xs:=cvs) (fun i H'=>H' D=some (.lst (((r.take i).map Sx01.cellOk).map V.bl))∧Same H H') ⟨zAB,zAJ hD⟩ ?_ ?_ ?_⟩
   ·rintro i H' _ ⟨_,z⟩
    exact z.kt.sqt hr1
   ·rintro i x H' hi ⟨e1,z⟩
    obtain ⟨y,hy,hc⟩:=zAl hr2 hi
    have il:i < cvs.length:=(List.getElem?_eq_some_iff.mp hi).1
    refine ⟨rfl,yes ⟨_,rfl,x,y,rfl,mono_cel _ _ _ _ z.kt hc,_,e1,small (m:=2000) (by rw [List.length_map,List.length_map,List.length_take]; omega),?_,z.upd hD⟩⟩
    rw [zAB,zAh hy,List.map_append,List.map_append]
    rfl
   ·rintro H' ⟨e1,z⟩
    rw [hl,List.take_length] at e1
    refine ⟨D,r.map Sx01.cellOk,rfl,SqL.of e1,?_⟩
    have e2:(r.map Sx01.cellOk).all id=(r.length == r.length && r.all Sx01.cellOk):=by
     rw [List.all_map,beq_self_eq_true,Bool.true_and]
     rfl
    rw [e2]
    exact k H' z
  ·have e0:decide (V.int ((cvs.length:Nat):Int)=V.int ((n:Nat):Int))=false:=decide_eq_false fun z=>by
    have z2:=V.int.inj z
    omega
   rw [e0]
   refine iteF ?_
   have e2:false=(r.length == n && r.all Sx01.cellOk):=by
    rw [beq_eq_false_iff_ne.mpr hn,Bool.false_and]
   have k2:=k H (Same.refl H)
   rw [←e2] at k2
   exact k2
abbrev zGB:Stmt:=top 11
theorem scCount:FnScope ["row","cell"] ["row"] (zAH zGB):=scm
def zHZ (K:Fg):Sp:=fun vs H Q _=>∃ (v:V) (r:Sx01.Row),vs=[v]∧zAy K H v r∧r.length≤1000∧∀ H',Same H H'→Q (.int (Sx01.nonEmpty r:Nat)) H'
def celD (x:Sx01.Cell):PyData:=.tuple (x.map PyData.int)
theorem dp_ints {K:Fg}{H:Hp}:∀ x:List Int,DpAll K H (x.map V.int) (x.map PyData.int)
 | []=>.nil
 | a::r=>.cons (.int a) (dp_ints r)
theorem IsCel.dp {K:Fg}{H:Hp}{v:V}{x:Sx01.Cell} (h:IsCel K H v x):Dp K H v (celD x):=by
 obtain ⟨a,rfl,ha⟩:=h
 exact .tup ha (dp_ints x)
theorem zGg:∀ x y:List Int,PyData.eqvAll (x.map PyData.int) (y.map PyData.int)=decide (x=y)
 | [],[]=>rfl
 | [],_::_=>rfl
 | _::_,[]=>rfl
 | a::x,b::y=>by
  show (PyData.eqv (.int a) (.int b) && PyData.eqvAll (x.map PyData.int) (y.map PyData.int))=_
  rw [zGg x y]
  show ((a == b) && decide (x=y))=decide (a::x=b::y)
  by_cases h1:a=b
  ·subst h1
   by_cases h2:x=y
   ·subst h2
    simp
   ·simp [h2]
  ·simp [h1]
theorem zBj (x y:Sx01.Cell):PyData.eqv (celD x) (celD y)=decide (x=y):=zGg x y
theorem zCT:∀ x:List Int,PyData.canLayAll0 (x.map PyData.int)=true
 | []=>rfl
 | a::r=>by
  show (PyData.canLay0 (.int a) && PyData.canLayAll0 (r.map PyData.int))=true
  rw [zCT r]
  rfl
theorem zCy:∀ x:List Int,PyData.depthAll (x.map PyData.int)=0
 | []=>rfl
 | a::r=>by
  show max (PyData.depth (.int a)) (PyData.depthAll (r.map PyData.int))=0
  rw [zCy r]
  rfl
theorem zAf (x:Sx01.Cell):SeqAt.shaped (celD x)=true:=by
 unfold SeqAt.shaped
 have h1:PyData.canLay0 (celD x)=true:=zCT x
 have h2:PyData.depth (celD x)=1:=by
  show PyData.depthAll (x.map PyData.int)+1=1
  rw [zCy]
 rw [h1,h2]
 rfl
theorem ok_count {f:Addr}{fd:FuncData} (F:Fun K "count_filled" "count_filled" zGB f fd) (T:TxS K mg c):FnOk P w K mg base CX0 1 f fd ["row"] (zHZ K):=by
 refine F.ok scCount (fun vs H Q E h=>?_) (fun cdv A outer s H vs Q E hr h=>?_)
 ·obtain ⟨v,r,rfl,_⟩:=h
  rfl
 ·obtain ⟨v,r,rfl,hrow,h1000,k⟩:=h
  obtain ⟨a,cvs,rfl,hr1,hr2⟩:=id hrow
  have hl:=zAM hr2
  refine ⟨_,zAF (zAQ (zAS zAL rfl T.len zAj (zAA (zCo (own:=[("cell",1)]) rfl scCount.nd (zBV (pv 0)) (zAp (by show blkC ["row","cell"] (zAH zGB) _ _=true; decide +kernel))
   (fun _ _ _ _ _=>zAR (i:=1) scCount.nd rfl (Or.inl rfl)) (fun _ _ _ _ _=>zFh (zAX (neK (K:=K) rfl hr.units) (pv 1) (zEe (v:=.ref c.nothing) rfl T.nothing.1 rfl) (zAb _))) (fun _ _ _ _ _=>pv 1)) zAE))),?_⟩
  refine ⟨_,rfl,a,rfl,⟨_,hr1⟩,fun D hD=>zCG (K:=K) (a:=a) (xs:=cvs) (fun i H'=>∃ acc,H' D=some (.lst acc)∧acc.length=((r.take i).filter fun x=>x != []).length∧Same H H') ⟨[],zAB,rfl,zAJ hD⟩ ?_ ?_ ?_⟩
  ·rintro i H' _ ⟨_,_,_,z⟩
   exact z.kt.sqt hr1
  ·rintro i x H' hi ⟨acc,e1,e2,z⟩
   obtain ⟨y,hy,hc⟩:=zAl hr2 hi
   have il:i < cvs.length:=(List.getElem?_eq_some_iff.mp hi).1
   have al:acc.length≤1000:=by
    rw [e2]
    refine Nat.le_trans (List.length_filter_le _ _) ?_
    rw [List.length_take]
    omega
   refine ⟨rfl,_,rfl,celD y,celD [],(mono_cel _ _ _ _ z.kt hc).dp,IsCel.dp ⟨_,rfl,T.nothing.sq H'⟩,zAf y,zAf [],_,rfl,?_⟩
   rw [zBj]
   rw [zAh hy,List.filter_append]
   by_cases hy0:y=[]
   ·rw [decide_eq_true hy0]
    refine iteF ⟨acc,e1,?_,z⟩
    rw [List.length_append,e2]
    simp [hy0]
   ·rw [decide_eq_false hy0]
    refine iteT ⟨_,rfl,acc,e1,small (m:=2000) (by omega),acc++[x],zAB,?_,z.upd hD⟩
    rw [List.length_append,List.length_append,e2]
    simp [hy0]
  ·rintro H' ⟨acc,e1,e2,z⟩
   rw [hl,List.take_length] at e2
   refine ⟨D,acc,rfl,.inl (SqL.of e1),?_⟩
   rw [e2]
   exact k H' z
abbrev sAre:Stmt:=top 7
theorem scAre:FnScope ["names","name"] ["names"] (zAH sAre):=scm
def spAre (K:Fg):Sp:=fun vs H Q _=>∃ (v:V) (ns:List Sx01.Bytes),vs=[v]∧zA1 K H v ns∧ns.length≤8∧∀ H',Same H H'→Q (.bl (Sx01.colsOk ns)) H'
theorem ok_are {f:Addr}{fd:FuncData} (F:Fun K "are_columns" "are_columns" sAre f fd) (T:TxS K mg c):FnOk P w K mg base CX0 1 f fd ["names"] (spAre K):=by
  refine F.ok scAre (fun vs H Q E h=>?_) (fun cdv A outer s H vs Q E hr h=>?_)
  · obtain ⟨v,ns,rfl,_⟩:=h
    rfl
  · obtain ⟨v,ns,rfl,hns,h8,k⟩:=h
    obtain ⟨a,nvs,rfl,hn1,hn2⟩:=id hns
    have hl:=zAM hn2
    refine ⟨_,zAD (zAk (zBm (zEb zFj zFj zAZ (zAS zAL rfl T.len zAj (zAA (pv 0) zAE)) (eg T.mostC))) (zAF (zAQ zEf)) zAY)
      (zAD (zAk (zAX op_ne (zAS call_lenS rfl T.len zAj (zAA (zAs (call_setT rfl hr.units) rfl T.set bt_set (zAA (pv 0) zAE)) zAE)) (zAS zAL rfl T.len zAj (zAA (pv 0) zAE)) (zAb _)) (zAF (zAQ zEf)) zAY)
      (zAF (zAQ (zAS (cr_all rfl) rfl T.all bt_all (zAA (zCo (own:=[("name",1)]) rfl scAre.nd (zBV (pv 0)) (zAp (by show blkC ["names","name"] (zAH sAre) _ _=true; decide +kernel))
        (fun _ _ _ _ _=>zAR (i:=1) scAre.nd rfl (Or.inl rfl)) (fun _ _ _ _ _=>zBE) (fun _ _ _ _ _=>zB4 zFj (zAS (lenK (K:=K) rfl) rfl T.len zAj (zAA (pv 1) zAE)) (eg T.mostN) (zAb _))) zAE))))),?_⟩
    refine ⟨_,rfl,a,_,rfl,.inr hn1,_,_,rfl,rfl,_,rfl,?_⟩
    by_cases h1:1≤ns.length
    · have e1:decide ((1:Int)≤((nvs.length:Nat):Int))=true:=decide_eq_true (by omega)
      rw [e1]
      refine iteT ⟨_,_,rfl,rfl,_,rfl,?_⟩
      have e2:decide (((nvs.length:Nat):Int)≤64)=true:=decide_eq_true (by omega)
      show (if (!decide (((nvs.length:Nat):Int)≤64))=true then _ else _)
      rw [e2]
      refine iteF ?_
      obtain ⟨ps,hps1,hps2⟩:∃ ps:List Addr,nvs=ps.map V.ref∧Paired (fun p n=>H p=some (.tup (n.map V.int))) ps (ns.map fun n=>n.map fun (x:Nat)=>(x:Int)):=by
        clear hns hn1 hl k h8 h1 e1 e2
        induction hn2 with
        | nil=>exact ⟨[],rfl,.nil⟩
        | cons r t ih =>
          obtain ⟨p,rfl,hp⟩:=r
          obtain ⟨ps,rfl,q⟩:=ih
          refine ⟨p::ps,rfl,.cons ?_ q⟩
          unfold zCr at hp
          rw [List.map_map]
          exact hp
      refine ⟨_,rfl,a,ps,_,rfl,hps1 ▸ hn1,hps2,(by rw [List.length_map]; exact h8),fun q hq=>⟨q,_,rfl,zAB,_,rfl,a,_,rfl,.inr ((zBd hq).sqt hn1),rfl,_,rfl,?_⟩⟩
      rw [zHC]
      have z0:Same H (upd H q (SetO q ns.eraseDups.length)):=zAJ hq
      by_cases h2:ns.eraseDups.length=ns.length
      · have e3:decide (V.int ((ns.eraseDups.length:Nat):Int)=V.int ((nvs.length:Nat):Int))=true:=decide_eq_true (by rw [h2,hl])
        rw [e3]
        refine iteF ?_
        refine ⟨_,rfl,a,rfl,⟨_,z0.kt.sqt hn1⟩,fun D hD=>zCG (K:=K) (a:=a) (xs:=nvs) (fun i H'=>H' D=some (.lst (((ns.take i).map fun n=>decide (n.length≤64)).map V.bl))∧Same H H') ⟨zAB,z0.upd (z0.free hD)⟩ ?_ ?_ ?_⟩
        · rintro i H' _ ⟨_,z⟩
          exact z.kt.sqt hn1
        · rintro i x H' hi ⟨f1,z⟩
          obtain ⟨y,hy,b,rfl,hb⟩:=zAl hn2 hi
          have il:i < nvs.length:=(List.getElem?_eq_some_iff.mp hi).1
          refine ⟨rfl,yes ⟨_,rfl,b,_,rfl,.inr (SqT.of (z _ _ hb)),_,_,rfl,rfl,_,f1,small (m:=2000) (by rw [List.length_map,List.length_map,List.length_take]; omega),?_,z.upd (z0.free hD)⟩⟩
          rw [zAB,zAh hy,List.map_append,List.map_append]
          have e5:decide (((zCr y).length:Int)≤64)=decide (y.length≤64):=by
            unfold zCr
            rw [List.length_map]
            by_cases h:y.length≤64
            · rw [decide_eq_true h,decide_eq_true (by omega)]
            · rw [decide_eq_false h,decide_eq_false (by omega)]
          show some (HO.lst (_++[V.bl (decide (((zCr y).length:Int)≤64))]))=_
          rw [e5]
          rfl
        · rintro H' ⟨f1,z⟩
          rw [hl,List.take_length] at f1
          refine ⟨D,_,rfl,SqL.of f1,?_⟩
          have e2:(ns.map fun n=>decide (n.length≤64)).all id=Sx01.colsOk ns:=by
            unfold Sx01.colsOk
            rw [decide_eq_true h1,decide_eq_true h2,List.all_map]
            have:decide (ns.length≤Sx01.COLS)=true:=decide_eq_true (Nat.le_trans h8 (by decide))
            rw [this]
            rfl
          rw [e2]
          exact k H' z
      · have e3:decide (V.int ((ns.eraseDups.length:Nat):Int)=V.int ((nvs.length:Nat):Int))=false:=decide_eq_false fun z=>by
          have z2:=V.int.inj z
          omega
        rw [e3]
        refine iteT ?_
        have e4:Sx01.colsOk ns=false:=by
          unfold Sx01.colsOk
          rw [decide_eq_false h2,Bool.false_and,Bool.and_false,Bool.and_false]
        have k2:=k _ z0
        rw [e4] at k2
        exact k2
    · have e1:decide ((1:Int)≤((nvs.length:Nat):Int))=false:=decide_eq_false (by omega)
      rw [e1]
      refine iteF ⟨_,rfl,?_⟩
      have e4:Sx01.colsOk ns=false:=by
        unfold Sx01.colsOk
        rw [decide_eq_false h1,Bool.false_and]
      have k2:=k _ (Same.refl H)
      rw [e4] at k2
      exact k2
end
end Sh
set_option maxHeartbeats 2000000
namespace Sh
open PySem PySem.Spec PyProof.Rows L2 ShM
structure TxR (K:Fg) (mg:MG) (c:Cs):Prop where
 cl:Cls K c.reader
 nN:NoAttr K c.reader "numbers"
 nA:NoAttr K c.reader "at"
 keep:GI mg "KEEP" 0
 gone:GI mg "GONE" 1
 put:GI mg "PUT" 2
 tuple:mg "tuple" = none
 range:mg "range" = none
def Tk (N:List Int) (i:Nat) (t:List Int):Prop:=∃ rest,N.drop i=t++rest
theorem Tk.head {N:List Int}{i:Nat}{z:Int}{t:List Int} (h:Tk N i (z::t)):N[i]? = some z∧Tk N (i+1) t:=by
 obtain ⟨rest,h⟩:=h
 constructor
 ·have e:(N.drop i)[0]? = some z:=by rw [h]; rfl
  rw [List.getElem?_drop] at e
  simpa using e
 ·refine ⟨rest,?_⟩
  have e:(N.drop i).drop 1=t++rest:=by rw [h]; rfl
  rw [List.drop_drop] at e
  exact e
theorem Tk.app {N:List Int}{i:Nat}{t u:List Int} (h:Tk N i (t++u)):Tk N i t∧Tk N (i+t.length) u:=by
 obtain ⟨rest,h⟩:=h
 refine ⟨⟨u++rest,by rw [h,List.append_assoc]⟩,rest,?_⟩
 have e:(N.drop i).drop t.length=u++rest:=by rw [h,List.append_assoc,List.drop_left]
 rw [List.drop_drop] at e
 exact e
theorem Tk.len {N:List Int}{i:Nat}{t:List Int} (h:Tk N i t) (hi:i≤N.length):i+t.length≤N.length:=by
 obtain ⟨rest,h⟩:=h
 have e:=congrArg List.length h
 rw [List.length_drop,List.length_append] at e
 omega
theorem Tk.cut {N:List Int}{i:Nat}{t:List Int} (h:Tk N i t) (hi:i≤N.length):cutV (N.map V.int) (some (i:Int)) (some ((i+t.length:Nat):Int))=t.map V.int:=by
 have hl:=h.len hi
 obtain ⟨rest,h⟩:=h
 unfold cutV
 rw [HT.sIx_nat,HT.sIx_nat,List.length_map,Nat.min_eq_left hi,Nat.min_eq_left hl,←List.map_drop,h]
 rw [show i+t.length - i=t.length by omega,←List.map_take,List.take_left]
abbrev rdF (na:Addr) (i:Int):List (Str×V):=[("numbers",.ref na),("at",.int i)]
def RdAt (c:Cs) (H:Hp) (p na:Addr) (N:List Int) (i:Nat):Prop:=(∃ dx,H p=some (.ins c.reader dx (rdF na i)))∧H na=some (.lst (N.map V.int))
theorem RdAt.same {c:Cs}{H H':Hp}{p na:Addr}{N:List Int}{i:Nat} (h:RdAt c H p na N i) (k:Same H H'):RdAt c H' p na N i:=by
 obtain ⟨⟨dx,h1⟩,h2⟩:=h
 exact ⟨⟨dx,k _ _ h1⟩,k _ _ h2⟩
theorem RdAt.kt {c:Cs}{H H':Hp}{p na:Addr}{N:List Int}{i:Nat} (h:RdAt c H p na N i) (k:SB [p] H H'):KTup H H':=by
 obtain ⟨⟨dx,h1⟩,h2⟩:=h
 exact kt_sb h1 k
theorem RdAt.ks {c:Cs}{H H':Hp}{p na:Addr}{N:List Int}{i:Nat} (h:RdAt c H p na N i) (k:SB [p] H H'):KSh H H':=by
 obtain ⟨⟨dx,h1⟩,h2⟩:=h
 exact zCf h1 (by show (2:Nat)≠3; decide) k
section
variable {P:Program}{w:World}{K:Fg}{mg:MG}{base:Heap}{c:Cs}
abbrev zHh:Stmt:=zAK (top 49) 0
theorem scRInit:FnScope ["self","numbers"] ["self","numbers"] (zAH zHh):=scm
def zHV (c:Cs):Sp:=fun vs H Q _=>∃ (p dx na:Addr) (N:List Int),vs=[.ref p,.ref na]∧H p=some (.ins c.reader dx [])∧H na=some (.lst (N.map V.int))∧∀ H',RdAt c H' p na N 0→SB [p] H H'→Q .non H'
theorem ok_rinit {f:Addr}{fd:FuncData} (F:Fun K "__init__" "Reader.__init__" zHh f fd) (T:TxR K mg c):FnOk P w K mg base CX0 1 f fd ["self","numbers"] (zHV c):=by
 refine F.ok scRInit (fun vs H Q E h=>?_) (fun cdv A outer s H vs Q E hr h=>?_)
 ·obtain ⟨p,dx,na,N,rfl,_⟩:=h
  rfl
 ·refine hide fun Gz zG=>?_
  obtain ⟨p,dx,na,N,rfl,hp,hn,k⟩:=h
  refine zG ?_; clear zG
  refine ⟨_,zAD (zA7 (pv 0) (pv 1) rfl) (zAF (zA7 (pv 0) zAZ rfl)),?_⟩
  refine ⟨_,rfl,_,rfl,p,c.reader,dx,[],rfl,hp,T.cl,T.nN,(by decide),?_⟩
  rw [pf0]
  refine ⟨_,rfl,p,c.reader,dx,_,rfl,zAB,T.cl,T.nA,(by show 1 < 1000; decide),?_⟩
  rw [zBh,pf1,pf0]
  exact k _ ⟨⟨dx,zAB⟩,by rw [zAG (zBA hn hp (by intro q; cases q))]; exact hn⟩ zDX
abbrev sNum:Stmt:=zAK (top 49) 1
theorem scNum:FnScope ["self","number"] ["self"] (zAH sNum):=scm
def spNum (c:Cs):Sp:=fun vs H Q _=>∃ (p na:Addr) (N:List Int) (i:Nat) (z:Int),vs=[.ref p]∧RdAt c H p na N i∧N[i]? = some z∧∀ H',RdAt c H' p na N (i+1)→SB [p] H H'→Q (.int z) H'
theorem ok_num {f:Addr}{fd:FuncData} (F:Fun K "read_number" "Reader.read_number" sNum f fd) (T:TxR K mg c):FnOk P w K mg base CX0 1 f fd ["self"] (spNum c):=by
 refine F.ok scNum (fun vs H Q E h=>?_) (fun cdv A outer s H vs Q E hr h=>?_)
 ·obtain ⟨p,na,N,i,z,rfl,_⟩:=h
  rfl
 ·refine hide fun Gz zG=>?_
  obtain ⟨p,na,N,i,z,rfl,⟨⟨dx,h1⟩,h2⟩,hz,k⟩:=h
  refine zG ?_; clear zG
  refine ⟨_,zAD (zAN (i:=1) scNum.nd rfl (Or.inl rfl) (zAn zAc (zAI (pv 0) rfl) (zAI (pv 0) rfl) (fun _ _=>rfl))) (zAD (zE4 (pv 0) zAZ in_add) (zAF (zAQ (pv 1)))),?_⟩
  refine ⟨_,rfl,p,c.reader,dx,_,_,rfl,h1,T.cl,T.nN,lk0,_,rfl,p,c.reader,dx,_,_,rfl,h1,T.cl,T.nA,(by rw [lk1,lk0]),na,_,_,V.int z,rfl,rfl,SqL.of h2,zAO (by rw [List.getElem?_map,hz]; rfl),?_⟩
  refine ⟨_,rfl,p,c.reader,dx,_,_,rfl,h1,T.cl,T.nA,(by rw [lk1,lk0]),_,_,rfl,rfl,dx,_,h1,(by show 2 < 1000; decide),?_⟩
  rw [pf1,pf2]
  refine ⟨_,rfl,?_⟩
  exact k _ ⟨⟨dx,zAB⟩,by rw [zAG (zBA h2 h1 (by intro q; cases q))]; exact h2⟩ zDX
abbrev mNum (P:Program) (w:World) (K:Fg) (mg:MG) (base:Heap) (c:Cs):Prop:=MCal P w K mg base CX0 1 c.reader "read_number" ["self"] (spNum c)
def spRd {α:Type} (c:Cs) (R:Hp→V→α→Prop) (tok:α→List Int) (ok:α→Prop):Sp:=fun vs H Q _=>∃ (p na:Addr) (N:List Int) (i:Nat) (x:α),vs=[.ref p]∧RdAt c H p na N i∧Tk N i (tok x)∧ok x ∧
 ∀ v H',R H' v x→RdAt c H' p na N (i+(tok x).length)→SB [p] H H'→Q v H'
def zBY (H:Hp) (v:V) (x:List Int):Prop:=∃ a,v = .ref a∧H a=some (.tup (x.map V.int))
theorem zFE:Mono zBY:=fun H H' v x k ⟨a,e,h⟩=>⟨a,e,k.tup _ _ h⟩
abbrev sNums:Stmt:=zAK (top 49) 2
theorem scNums:FnScope ["self","length","begin"] ["self"] (zAH sNums):=scm
theorem ok_nums {f:Addr}{fd:FuncData} (F:Fun K "read_numbers" "Reader.read_numbers" sNums f fd) (T:TxR K mg c) (m1:mNum P w K mg base c):FnOk P w K mg base CX0 2 f fd ["self"] (spRd c zBY Sx01.ofCell (fun _=>True)):=by
 refine F.ok scNums (fun vs H Q E h=>?_) (fun cdv A outer s H vs Q E hr h=>?_)
 ·obtain ⟨p,na,N,i,x,rfl,_⟩:=h
  rfl
 ·refine hide fun Gz zG=>?_
  obtain ⟨p,na,N,i,x,rfl,R,tk,_,k⟩:=h
  obtain ⟨⟨dx,h1⟩,h2⟩:=id R
  obtain ⟨t0,t1⟩:=tk.head
  refine zG ?_; clear zG
  have il:i < N.length:=(List.getElem?_eq_some_iff.mp t0).1
  refine ⟨_,zAD (zAN (i:=1) scNums.nd rfl (Or.inl rfl) (em0 m1 T.cl hr zAU (pv 0))) (zAD (zAN (i:=2) scNums.nd rfl (Or.inl rfl) (zAI (pv 0) rfl)) (zAD (zE4 (pv 0) (pv 1) in_add)
   (zAF (zAQ (zAs zAe rfl T.tuple zBD (zAA (zGG zHa (zAI (pv 0) rfl) (zEc (pv 2)) (zEc (zAI (pv 0) rfl))) zAE)))))),?_⟩
  refine ⟨_,rfl,p,dx,_,rfl,h1,(by rw [lk1,lk1]; rfl),p,na,N,i,_,rfl,R,t0,fun H1 R1 s1=>?_⟩
  obtain ⟨⟨dx1,g1⟩,g2⟩:=R1
  refine ⟨_,rfl,p,c.reader,dx1,_,_,rfl,g1,T.cl,T.nA,(by rw [lk1,lk0]),?_⟩
  refine ⟨_,rfl,p,c.reader,dx1,_,_,rfl,g1,T.cl,T.nA,(by rw [lk1,lk0]),_,rfl,_,_,rfl,rfl,dx1,_,g1,(by show 2 < 1000; decide),?_⟩
  rw [pf1,pf2]
  have g2':upd H1 p (.ins c.reader dx1 (rdF na (((i+1:Nat):Int)+(x.length:Int)))) na=some (.lst (N.map V.int)):=by rw [zAG (zBA g2 g1 (by intro q; cases q))]; exact g2
  refine ⟨_,rfl,p,c.reader,dx1,_,_,rfl,zAB,T.cl,T.nN,lk0,_,rfl,_,rfl,_,rfl,p,c.reader,dx1,_,_,rfl,zAB,T.cl,T.nA,(by rw [lk1,lk0]),_,rfl,na,_,rfl,SqL.of g2',fun q hq=>?_⟩
  refine ⟨q,_,rfl,.inl ⟨SqL.of zAB,fun l hl=>?_⟩⟩
  have ec:(((i+1:Nat):Int)+(x.length:Int))=((i+1+x.length:Nat):Int):=by omega
  rw [ec] at hq hl g2' ⊢
  rw [t1.cut il] at hl ⊢
  have npq:p≠q:=fun z=>by rw [←z,zAB] at hq; cases hq
  have hl1:upd H1 p (.ins c.reader dx1 (rdF na ((i+1+x.length:Nat):Int))) l=none:=by
   cases hz:upd H1 p (.ins c.reader dx1 (rdF na ((i+1+x.length:Nat):Int))) l with
   | none=>rfl
   | some o=>rw [zAG (zAC hz hq),hz] at hl; cases hl
  have npl:p≠l:=fun z=>by rw [←z,zAB] at hl1; cases hl1
  refine k _ _ ⟨l,rfl,zAB⟩ ⟨⟨dx1,?_⟩,?_⟩ ?_
  ·rw [zAG npl,zAG npq,zAB]
   have:(i+(Sx01.ofCell x).length:Nat)=i+1+x.length:=by
    show i+(x.length+1)=_
    omega
   rw [this]
  ·rw [zAG (zAC g2' hl1),zAG (zAC g2' hq)]
   exact g2'
  ·intro b o e hb
   have hb':b≠p:=by simpa using hb
   have e1:=s1 b o e hb
   have e2:upd H1 p (.ins c.reader dx1 (rdF na ((i+1+x.length:Nat):Int))) b=some o:=by rw [zAG hb']; exact e1
   rw [zAG (zAC e2 hl1),zAG (zAC e2 hq)]
   exact e2
def tokL {α:Type} (tok:α→List Int) (xs:List α):List Int:=(xs.length:Int)::xs.flatMap tok
def okL {α:Type} (ok:α→Prop) (xs:List α):Prop:=xs.length≤1000∧∀ x∈xs,ok x
theorem zEZ {α:Type}{R:Hp→V→α→Prop}{tok:α→List Int}{ok:α→Prop} (mono:Mono R) {M:Str}{H:Hp}{Q:VK}{p na:Addr}{N:List Int}{i:Nat}{xs:List α} (hM:(M == ("numbers":Str))=false) (hM2:(M == ("at":Str))=false)
  (h:RdAt c H p na N i) (tk:Tk N i (tokL tok xs)) (hok:okL ok xs) (k:∀ v H',zBJ K R H' v xs→RdAt c H' p na N (i+(tokL tok xs).length)→SB [p] H H'→Q v H') :
  tSeq (tAsg (zGy c.reader "read_number" (spNum c) [] E0 (tVar 0) tNil) (zDu 1)) (tRet (tCB (fun xs H Q=>∃ p ys,xs=[.ref p]∧((SqL K H p ys∧∀ l,H l=none→Q (.ref l) (upd H l (.tup ys)))∨(SqT K H p ys∧Q (.ref p) H)))
   (zBl (tLc (iRng1 (zBl (tVar 1) tNil)) (zDu 2) tYes (zGy c.reader M (spRd c R tok ok) [] E0 (tVar 0) tNil) [2]) tNil))) { nx:=fun _ H'=>Q .non H',rt:=Q } [some (.ref p),none,none] H:=by
 obtain ⟨⟨dx,h1⟩,h2⟩:=id h
 obtain ⟨t0,t1⟩:=tk.head
 obtain ⟨hn,hall⟩:=hok
 refine ⟨_,rfl,p,dx,_,rfl,h1,(by rw [lk1,lk1]; rfl),p,na,N,i,_,rfl,h,t0,fun H1 R1 s1=>?_⟩
 obtain ⟨⟨dx1,g1⟩,g2⟩:=id R1
 refine ⟨_,rfl,(xs.length:Int),rfl,by omega,by omega,fun D hD=>lc_range (n:=xs.length) (fun j H'=>∃ acc,H' D=some (.lst acc)∧Paired (R H') acc (xs.take j)∧RdAt c H' p na N (i+1+((xs.take j).flatMap tok).length)∧SB [p] H1 H')
  ⟨[],zAB,.nil,⟨⟨dx1,by rw [zAG (zAC g1 hD)]; exact g1⟩,by rw [zAG (zAC g2 hD)]; exact g2⟩,(SB.refl H1).new hD⟩ ?_ ?_⟩
 ·rintro j H' hj ⟨acc,e1,hp,R2,s2⟩
  obtain ⟨⟨dx2,q1⟩,q2⟩:=id R2
  have hx:=List.getElem?_eq_getElem hj
  have al:=zAM hp
  rw [List.length_take] at al
  have split:xs.flatMap tok=(xs.take j).flatMap tok++(tok xs[j]++(xs.drop (j+1)).flatMap tok):=by
   rw [←List.flatMap_cons,←List.flatMap_append,←List.drop_eq_getElem_cons hj,List.take_append_drop]
  rw [split] at t1
  have t2:=t1.app.2.app.1
  refine ⟨rfl,yes ⟨_,rfl,p,dx2,_,rfl,q1,(by rw [lk1 hM,lk1 hM2]; rfl),p,na,N,_,xs[j],rfl,R2,t2,hall _ (List.getElem_mem hj),fun v H4 rv R4 s4=>?_⟩⟩
  have nDp:D≠p:=zBA e1 q1 (by intro q; cases q)
  have e4:H4 D=some (.lst acc):=s4 _ _ e1 (by simpa using nDp)
  obtain ⟨⟨dx4,r1⟩,r2⟩:=id R4
  refine ⟨acc,e4,small (m:=2000) (by omega),acc++[v],zAB,?_,⟨⟨dx4,?_⟩,?_⟩,(s2.trans s4).new hD⟩
  ·rw [zAh hx]
   exact zAv (mono.pr (R2.kt s4 |>.trans (zAi e4)) hp) (mono _ _ _ _ (zAi e4) rv)
  ·rw [zAG nDp.symm,r1,zAh hx,List.flatMap_append,List.length_append]
   have:([xs[j]]:List α).flatMap tok=tok xs[j]:=by simp
   rw [this,Nat.add_assoc (i+1)]
  ·rw [zAG (zAC g2 hD)]
   exact r2
 ·rintro H' ⟨acc,e1,hp,R2,s2⟩
  rw [List.take_length] at hp R2
  refine ⟨D,acc,rfl,.inl ⟨SqL.of e1,fun l hl=>?_⟩⟩
  refine k _ _ ⟨l,acc,rfl,SqT.of zAB,mono.pr (zBd hl) hp⟩ ?_ ((s1.trans s2).new ?_)
  ·have e:i+(tokL tok xs).length=i+1+(xs.flatMap tok).length:=by
    show i+((xs.flatMap tok).length+1)=_
    omega
   rw [e]
   exact R2.same (zAJ hl)
  ·obtain ⟨⟨dx2,q1⟩,q2⟩:=R2
   exact (s1.trans s2).free (by simpa using (zAC q1 hl).symm) hl
abbrev sRRow:Stmt:=zAK (top 49) 4
theorem scRRow:FnScope ["self","length","count"] ["self"] (zAH sRRow):=scm
theorem ok_RRow {f:Addr}{fd:FuncData} (F:Fun K "read_row" "Reader.read_row" sRRow f fd) (T:TxR K mg c) (m1:mNum P w K mg base c) (m2:MCal P w K mg base CX0 2 c.reader "read_numbers" ["self"] (spRd c (zBY) (Sx01.ofCell) (fun _=>True))):FnOk P w K mg base CX0 3 f fd ["self"] (spRd c (zBJ K (zBY)) (tokL (Sx01.ofCell)) (okL (fun _=>True))):=by
 refine F.ok scRRow (fun vs H Q E h=>?_) (fun cdv A outer s H vs Q E hr h=>?_)
 ·obtain ⟨p,na,N,i,x,rfl,_⟩:=h
  rfl
 ·refine hide fun Gz zG=>?_
  obtain ⟨p,na,N,i,x,rfl,R,tk,ho,k⟩:=h
  refine zG ?_; clear zG
  refine ⟨_,zAD (zAN (i:=1) scRRow.nd rfl (Or.inl rfl) (em0 m1 T.cl (hr.mono (by decide)) zAU (pv 0))) (zAF (zAQ (zAs zAe rfl T.tuple zBD (zAA (zCo (own:=[("count",2)]) rfl scRRow.nd (zB2 rfl T.range (zAA (pv 1) zAE)) (zAp (by show blkC ["self","length","count"] (zAH sRRow) _ _=true; decide +kernel))
   (fun _ _ _ _ _=>zAR (i:=2) scRRow.nd rfl (Or.inl rfl)) (fun _ _ _ _ _=>zBE) (fun _ _ _ _ _=>em0 m2 T.cl hr zAU (pv 0))) zAE)))),?_⟩
  exact zEZ zFE (by decide +kernel) (by decide +kernel) R tk ho k
abbrev zFe:Stmt:=zAK (top 49) 3
theorem scRNames:FnScope ["self"] ["self"] (zAH zFe):=scm
theorem ok_RNames {f:Addr}{fd:FuncData} (F:Fun K "read_names" "Reader.read_names" zFe f fd) (T:TxR K mg c) (m2:MCal P w K mg base CX0 3 c.reader "read_row" ["self"] (spRd c (zBJ K zBY) (tokL Sx01.ofCell) (okL (fun _=>True)))):FnOk P w K mg base CX0 4 f fd ["self"] (spRd c (zBJ K zBY) (tokL Sx01.ofCell) (okL (fun _=>True))):=by
 refine F.ok scRNames (fun vs H Q E h=>?_) (fun cdv A outer s H vs Q E hr h=>?_)
 ·obtain ⟨p,na,N,i,x,rfl,_⟩:=h
  rfl
 ·refine hide fun Gz zG=>?_
  obtain ⟨p,na,N,i,x,rfl,R,tk,ho,k⟩:=h
  obtain ⟨⟨dx,h1⟩,h2⟩:=id R
  refine zG ?_; clear zG
  refine ⟨_,zAF (zAQ (em0 m2 T.cl hr zAU (pv 0))),?_⟩
  exact ⟨_,rfl,p,dx,_,rfl,h1,(by rw [lk1,lk1]; rfl),p,na,N,i,x,rfl,R,tk,ho,k⟩
abbrev zF9:Stmt:=zAK (top 49) 5
theorem scRRows:FnScope ["self","length","count"] ["self"] (zAH zF9):=scm
theorem ok_RRows {f:Addr}{fd:FuncData} (F:Fun K "read_rows" "Reader.read_rows" zF9 f fd) (T:TxR K mg c) (m1:mNum P w K mg base c) (m2:MCal P w K mg base CX0 3 c.reader "read_row" ["self"] (spRd c (zBJ K zBY) (tokL Sx01.ofCell) (okL (fun _=>True)))):FnOk P w K mg base CX0 4 f fd ["self"] (spRd c (zBJ K (zBJ K zBY)) (tokL (tokL Sx01.ofCell)) (okL (okL (fun _=>True)))):=by
 refine F.ok scRRows (fun vs H Q E h=>?_) (fun cdv A outer s H vs Q E hr h=>?_)
 ·obtain ⟨p,na,N,i,x,rfl,_⟩:=h
  rfl
 ·refine hide fun Gz zG=>?_
  obtain ⟨p,na,N,i,x,rfl,R,tk,ho,k⟩:=h
  refine zG ?_; clear zG
  refine ⟨_,zAD (zAN (i:=1) scRRows.nd rfl (Or.inl rfl) (em0 m1 T.cl (hr.mono (by decide)) zAU (pv 0))) (zAF (zAQ (zAs zAe rfl T.tuple zBD (zAA (zCo (own:=[("count",2)]) rfl scRRows.nd (zB2 rfl T.range (zAA (pv 1) zAE)) (zAp (by show blkC ["self","length","count"] (zAH zF9) _ _=true; decide +kernel))
   (fun _ _ _ _ _=>zAR (i:=2) scRRows.nd rfl (Or.inl rfl)) (fun _ _ _ _ _=>zBE) (fun _ _ _ _ _=>em0 m2 T.cl hr zAU (pv 0))) zAE)))),?_⟩
  exact zEZ (zBt zFE) (by decide +kernel) (by decide +kernel) R tk ho k
def zBI (x:Nat×Sx01.Cell):List Int:=(x.1:Int)::Sx01.ofCell x.2
def zCV (K:Fg) (H:Hp) (v:V) (x:Nat×Sx01.Cell):Prop:=∃ a u,v = .ref a∧SqT K H a [.int (x.1:Nat),u]∧IsCel K H u x.2
theorem mono_set {K:Fg}:Mono (zCV K):=fun H H' v x k ⟨a,u,e,h,h2⟩=>⟨a,u,e,k.sqt h,mono_cel _ _ _ _ k h2⟩
abbrev sRSet:Stmt:=zAK (top 49) 9
theorem scRSet:FnScope ["self","place"] ["self"] (zAH sRSet):=scm
abbrev mNums (P:Program) (w:World) (K:Fg) (mg:MG) (base:Heap) (c:Cs):Prop:=MCal P w K mg base CX0 2 c.reader "read_numbers" ["self"] (spRd c zBY Sx01.ofCell (fun _=>True))
theorem ok_RSet {f:Addr}{fd:FuncData} (F:Fun K "read_setting" "Reader.read_setting" sRSet f fd) (T:TxR K mg c) (m1:mNum P w K mg base c) (m2:mNums P w K mg base c):FnOk P w K mg base CX0 3 f fd ["self"] (spRd c (zCV K) zBI (fun _=>True)):=by
 refine F.ok scRSet (fun vs H Q E h=>?_) (fun cdv A outer s H vs Q E hr h=>?_)
 ·obtain ⟨p,na,N,i,x,rfl,_⟩:=h
  rfl
 ·refine hide fun Gz zG=>?_
  obtain ⟨p,na,N,i,x,rfl,R,tk,_,k⟩:=h
  obtain ⟨⟨dx,h1⟩,h2⟩:=id R
  obtain ⟨t0,t1⟩:=tk.head
  refine zG ?_; clear zG
  refine ⟨_,zAD (zAN (i:=1) scRSet.nd rfl (Or.inl rfl) (em0 m1 T.cl (hr.mono (by decide)) zAU (pv 0))) (zAF (zAQ (zBg (zAA (pv 1) (zAA (em0 m2 T.cl hr zAU (pv 0)) zAE))))),?_⟩
  refine ⟨_,rfl,p,dx,_,rfl,h1,(by rw [lk1,lk1]; rfl),p,na,N,i,_,rfl,R,t0,fun H1 R1 s1=>?_⟩
  obtain ⟨⟨dx1,g1⟩,g2⟩:=id R1
  refine ⟨_,rfl,_,rfl,p,dx1,_,rfl,g1,(by rw [lk1,lk1]; rfl),p,na,N,i+1,x.2,rfl,R1,t1,trivial,fun v H2 hv R2 s2=>⟨(by show 2≤sizeLine; decide),fun t ht=>?_⟩⟩
  obtain ⟨⟨dx2,q1⟩,q2⟩:=id R2
  obtain ⟨a,rfl,ha⟩:=hv
  refine k _ _ ⟨t,.ref a,rfl,SqT.of zAB,a,rfl,(zBd ht).sqt (SqT.of ha)⟩ ?_ ((s1.trans s2).new ((s1.trans s2).free (by simpa using (zAC q1 ht).symm) ht))
  have e:i+(zBI x).length=i+1+(Sx01.ofCell x.2).length:=by
   show i+((Sx01.ofCell x.2).length+1)=_
   omega
  rw [e]
  exact R2.same (zAJ ht)
abbrev zF8:Stmt:=zAK (top 49) 8
theorem scRSets:FnScope ["self","length","count"] ["self"] (zAH zF8):=scm
theorem ok_RSets {f:Addr}{fd:FuncData} (F:Fun K "read_settings" "Reader.read_settings" zF8 f fd) (T:TxR K mg c) (m1:mNum P w K mg base c) (m2:MCal P w K mg base CX0 3 c.reader "read_setting" ["self"] (spRd c (zCV K) (zBI) (fun _=>True))):FnOk P w K mg base CX0 4 f fd ["self"] (spRd c (zBJ K (zCV K)) (tokL (zBI)) (okL (fun _=>True))):=by
 refine F.ok scRSets (fun vs H Q E h=>?_) (fun cdv A outer s H vs Q E hr h=>?_)
 ·obtain ⟨p,na,N,i,x,rfl,_⟩:=h
  rfl
 ·refine hide fun Gz zG=>?_
  obtain ⟨p,na,N,i,x,rfl,R,tk,ho,k⟩:=h
  refine zG ?_; clear zG
  refine ⟨_,zAD (zAN (i:=1) scRSets.nd rfl (Or.inl rfl) (em0 m1 T.cl (hr.mono (by decide)) zAU (pv 0))) (zAF (zAQ (zAs zAe rfl T.tuple zBD (zAA (zCo (own:=[("count",2)]) rfl scRSets.nd (zB2 rfl T.range (zAA (pv 1) zAE)) (zAp (by show blkC ["self","length","count"] (zAH zF8) _ _=true; decide +kernel))
   (fun _ _ _ _ _=>zAR (i:=2) scRSets.nd rfl (Or.inl rfl)) (fun _ _ _ _ _=>zBE) (fun _ _ _ _ _=>em0 m2 T.cl hr zAU (pv 0))) zAE)))),?_⟩
  exact zEZ mono_set (by decide +kernel) (by decide +kernel) R tk ho k
def zCK:Sx01.Step→List Int:=Sx01Neutral.told.stepTold
def zCn:Sx01.Step→Prop
 | .keep l=>l.length≤1000
 | .gone=>True
 | .put r=>r.length≤1000
def zCU (K:Fg) (H:Hp) (v:V) (x:Sx01.Step):Prop:=∃ a u,v = .ref a∧SqT K H a [.int (kindOf x),u]∧match x with
 | .keep l=>zBJ K (zCV K) H u l
 | .gone=>True
 | .put r=>zAy K H u r
theorem zD8 {K:Fg}:Mono (zCU K):=fun H H' v x k ⟨a,u,e,h,h2⟩=>⟨a,u,e,k.sqt h,by
 cases x with
 | keep l=>exact zBt mono_set _ _ _ _ k h2
 | gone=>trivial
 | put r=>exact mono_row _ _ _ _ k h2⟩
theorem zGN {K:Fg}{H:Hp}{v:V}{r:List (List Int)} (h:zBJ K zBY H v r):zAy K H v r:=by
 obtain ⟨a,vs,rfl,h1,h2⟩:=h
 exact ⟨a,vs,rfl,h1,zAr (fun v x ⟨b,e,z⟩=>⟨b,e,SqT.of z⟩) h2⟩
theorem nums_rows {K:Fg}{H:Hp}{v:V}{r:List (List (List Int))} (h:zBJ K (zBJ K zBY) H v r):zDF K H v r:=by
 obtain ⟨a,vs,rfl,h1,h2⟩:=h
 exact ⟨a,vs,rfl,h1,zAr (fun v x z=>zGN z) h2⟩
abbrev zHe:Stmt:=zAK (top 49) 7
theorem scRStep:FnScope ["self","kind"] ["self"] (zAH zHe):=scm
theorem ok_RStep {f:Addr}{fd:FuncData} (F:Fun K "read_step" "Reader.read_step" zHe f fd) (T:TxR K mg c) (m1:mNum P w K mg base c) (m2:MCal P w K mg base CX0 4 c.reader "read_settings" ["self"] (spRd c (zBJ K (zCV K)) (tokL zBI) (okL (fun _=>True))))
    (m3:MCal P w K mg base CX0 3 c.reader "read_row" ["self"] (spRd c (zBJ K zBY) (tokL Sx01.ofCell) (okL (fun _=>True)))):FnOk P w K mg base CX0 5 f fd ["self"] (spRd c (zCU K) zCK zCn):=by
  refine F.ok scRStep (fun vs H Q E h=>?_) (fun cdv A outer s H vs Q E hr h=>?_)
  · obtain ⟨p,na,N,i,x,rfl,_⟩:=h
    rfl
  · refine hide fun Gz zG=>?_
    obtain ⟨p,na,N,i,x,rfl,R,tk,ho,k⟩:=h
    obtain ⟨⟨dx,h1⟩,h2⟩:=id R
    refine zG ?_; clear zG
    refine ⟨_,zAD (zAN (i:=1) scRStep.nd rfl (Or.inl rfl) (em0 m1 T.cl (hr.mono (by decide)) zAU (pv 0)))
      (zAD (zAk (zAX zBn (pv 1) (eg T.keep) (zAb _)) (zAF (zAQ (zBg (zAA (eg T.keep) (zAA (em0 m2 T.cl hr zAU (pv 0)) zAE))))) zAY)
      (zAD (zAk (zAX zBn (pv 1) (eg T.put) (zAb _)) (zAF (zAQ (zBg (zAA (eg T.put) (zAA (em0 m3 T.cl (hr.mono (by decide)) zAU (pv 0)) zAE))))) zAY)
      (zAF (zAQ (zBg (zAA (eg T.gone) (zAA (zBg zAE) zAE))))))),?_⟩
    have fin:∀ (H0 H2:Hp) (u:V) (j:Nat) (t:Addr),SB [p] H H2→RdAt c H2 p na N j→j=i+(zCK x).length→H2 t=none→(match x with
        | .keep l=>zBJ K (zCV K) H2 u l
        | .gone=>True
        | .put r=>zAy K H2 u r)→Q (.ref t) (upd H2 t (.tup [.int (kindOf x),u])):=by
      intro H0 H2 u j t s2 R2 ej ht hu
      subst ej
      obtain ⟨⟨dx2,q1⟩,q2⟩:=id R2
      refine k _ _ ⟨t,u,rfl,SqT.of zAB,?_⟩ (R2.same (zAJ ht)) (s2.new (s2.free (by simpa using (zAC q1 ht).symm) ht))
      cases x with
      | keep l=>exact zBt mono_set _ _ _ _ (zBd ht) hu
      | gone=>trivial
      | put r=>exact mono_row _ _ _ _ (zBd ht) hu
    cases x with
    | keep l =>
      obtain ⟨t0,t1⟩:=Tk.head (show Tk N i (0::tokL zBI l) from tk)
      refine ⟨_,rfl,p,dx,_,rfl,h1,(by rw [lk1,lk1]; rfl),p,na,N,i,_,rfl,R,t0,fun H1 R1 s1=>?_⟩
      obtain ⟨⟨dx1,g1⟩,g2⟩:=id R1
      refine ⟨_,rfl,rfl,_,rfl,iteT ?_⟩
      refine ⟨_,rfl,p,dx1,_,rfl,g1,(by rw [lk1,lk1]; rfl),p,na,N,i+1,l,rfl,R1,t1,⟨ho,fun _ _=>trivial⟩,fun v H2 hv R2 s2=>⟨(by show 2≤sizeLine; decide),fun t ht=>?_⟩⟩
      exact fin H H2 v _ t (s1.trans s2) R2 (by show i+1+(tokL zBI l).length=i+((tokL zBI l).length+1); omega) ht hv
    | put r =>
      obtain ⟨t0,t1⟩:=Tk.head (show Tk N i (2::tokL Sx01.ofCell r) from tk)
      refine ⟨_,rfl,p,dx,_,rfl,h1,(by rw [lk1,lk1]; rfl),p,na,N,i,_,rfl,R,t0,fun H1 R1 s1=>?_⟩
      obtain ⟨⟨dx1,g1⟩,g2⟩:=id R1
      refine ⟨_,rfl,rfl,_,rfl,iteF ?_⟩
      refine ⟨_,rfl,rfl,_,rfl,iteT ?_⟩
      refine ⟨_,rfl,p,dx1,_,rfl,g1,(by rw [lk1,lk1]; rfl),p,na,N,i+1,r,rfl,R1,t1,⟨ho,fun _ _=>trivial⟩,fun v H2 hv R2 s2=>⟨(by show 2≤sizeLine; decide),fun t ht=>?_⟩⟩
      exact fin H H2 v _ t (s1.trans s2) R2 (by show i+1+(tokL Sx01.ofCell r).length=i+((tokL Sx01.ofCell r).length+1); omega) ht (zGN hv)
    | gone =>
      obtain ⟨t0,t1⟩:=Tk.head (show Tk N i (1::[]) from tk)
      refine ⟨_,rfl,p,dx,_,rfl,h1,(by rw [lk1,lk1]; rfl),p,na,N,i,_,rfl,R,t0,fun H1 R1 s1=>?_⟩
      obtain ⟨⟨dx1,g1⟩,g2⟩:=id R1
      refine ⟨_,rfl,rfl,_,rfl,iteF ?_⟩
      refine ⟨_,rfl,rfl,_,rfl,iteF ?_⟩
      refine ⟨Nat.zero_le _,fun u hu=>⟨(by show 2≤sizeLine; decide),fun t ht=>?_⟩⟩
      exact fin H _ (.ref u) _ t (s1.new (s1.free (by simpa using (zAC g1 hu).symm) hu)) (R1.same (zAJ hu)) rfl ht trivial
abbrev zEY:Stmt:=zAK (top 49) 6
theorem scRSteps:FnScope ["self","length","count"] ["self"] (zAH zEY):=scm
theorem ok_RSteps {f:Addr}{fd:FuncData} (F:Fun K "read_steps" "Reader.read_steps" zEY f fd) (T:TxR K mg c) (m1:mNum P w K mg base c) (m2:MCal P w K mg base CX0 5 c.reader "read_step" ["self"] (spRd c (zCU K) (zCK) (zCn))):FnOk P w K mg base CX0 6 f fd ["self"] (spRd c (zBJ K (zCU K)) (tokL (zCK)) (okL (zCn))):=by
 refine F.ok scRSteps (fun vs H Q E h=>?_) (fun cdv A outer s H vs Q E hr h=>?_)
 ·obtain ⟨p,na,N,i,x,rfl,_⟩:=h
  rfl
 ·refine hide fun Gz zG=>?_
  obtain ⟨p,na,N,i,x,rfl,R,tk,ho,k⟩:=h
  refine zG ?_; clear zG
  refine ⟨_,zAD (zAN (i:=1) scRSteps.nd rfl (Or.inl rfl) (em0 m1 T.cl (hr.mono (by decide)) zAU (pv 0))) (zAF (zAQ (zAs zAe rfl T.tuple zBD (zAA (zCo (own:=[("count",2)]) rfl scRSteps.nd (zB2 rfl T.range (zAA (pv 1) zAE)) (zAp (by show blkC ["self","length","count"] (zAH zEY) _ _=true; decide +kernel))
   (fun _ _ _ _ _=>zAR (i:=2) scRSteps.nd rfl (Or.inl rfl)) (fun _ _ _ _ _=>zBE) (fun _ _ _ _ _=>em0 m2 T.cl hr zAU (pv 0))) zAE)))),?_⟩
  exact zEZ zD8 (by decide +kernel) (by decide +kernel) R tk ho k
end
end Sh
set_option maxHeartbeats 2000000
namespace Sh
open PySem PySem.Spec PyProof.Rows L2 ShM
structure TxW (K:Fg) (mg:MG) (c:Cs):Prop where
 cl:Cls K c.sheet
 nC:NoAttr K c.sheet "columns"
 nR:NoAttr K c.sheet "rows"
 keep:GI mg "KEEP" 0
 put:GI mg "PUT" 2
 len:mg "len" = none
theorem zBf {α:Type}{f:α→List Int}{m:Nat}:∀ {xs:List α},(∀ x∈xs,(f x).length≤m)→(xs.flatMap f).length≤m * xs.length
 | [],_=>by simp
 | x::xs,h=>by
  rw [List.flatMap_cons,List.length_append,List.length_cons,Nat.mul_add]
  have h1:=h x (by simp)
  have h2:=zBf (f:=f) (m:=m) (xs:=xs) fun y hy=>h y (by simp [hy])
  omega
theorem zBT {α:Type}{f:α→List Int}{m:Nat}{xs:List α} (i:Nat) (h:∀ x∈xs,(f x).length≤m):((xs.take i).flatMap f).length≤m * xs.length:=by
 refine Nat.le_trans (zBf (m:=m) fun x hx=>h x (List.mem_of_mem_take hx)) ?_
 exact Nat.mul_le_mul_left _ (by rw [List.length_take]; omega)
theorem zBe {α:Type}{f:α→List Int}{xs:List α}{i:Nat}{x:α} (h:xs[i]? = some x):(xs.take (i+1)).flatMap f=(xs.take i).flatMap f++f x:=by
 rw [zAh h,List.flatMap_append]
 simp
def LstOf {α:Type} (R:Hp→V→α→Prop) (H:Hp) (v:V) (l:List α):Prop:=∃ a vs,v = .ref a∧H a=some (.lst vs)∧Paired (R H) vs l
theorem LstOf.same {α:Type}{R:Hp→V→α→Prop} (m:Mono R) {H H':Hp}{v:V}{l:List α} (h:LstOf R H v l) (k:Same H H'):LstOf R H' v l:=by
 obtain ⟨a,vs,e,h1,h2⟩:=h
 exact ⟨a,vs,e,k _ _ h1,m.pr k.kt h2⟩
theorem zGS {K:Fg}{H:Hp}{v:V}{n:Sx01.Bytes} (h:zBq H v n):IsCel K H v (n.map fun (x:Nat)=>(x:Int)):=by
 obtain ⟨a,e,h⟩:=h
 refine ⟨a,e,?_⟩
 unfold zCr at h
 unfold zEq
 rw [List.map_map]
 exact SqT.of h
theorem zG4 {K:Fg}{H:Hp}{v:V}{ns:List Sx01.Bytes} (h:zA1 K H v ns):zAy K H v (ns.map fun n=>n.map fun (x:Nat)=>(x:Int)):=by
 obtain ⟨a,vs,e,h1,h2⟩:=h
 refine ⟨a,vs,e,h1,?_⟩
 clear h1 e
 induction h2 with
 | nil=>exact .nil
 | cons r t ih=>exact .cons (zGS r) ih
theorem zC8 (n:Sx01.Bytes):Sx01.ofBytes n=Sx01.ofCell (n.map fun (x:Nat)=>(x:Int)):=by
 unfold Sx01.ofBytes Sx01.ofCell
 rw [List.length_map]
section
variable {P:Program}{w:World}{K:Fg}{mg:MG}{base:Heap}{c:Cs}
abbrev sWAll:Stmt:=top 51
theorem scWAll:FnScope ["cells","numbers","cell"] ["cells"] (zAH sWAll):=scm
def spWAll (K:Fg):Sp:=fun vs H Q _=>∃ (v:V) (xs:Sx01.Row),vs=[v]∧(zAy K H v xs∨LstOf (IsCel K) H v xs)∧xs.length≤1000∧(∀ x∈xs,x.length≤100) ∧
 ∀ H' l,H' l=some (.lst ((xs.flatMap Sx01.ofCell).map V.int))→Same H H'→H l=none→Q (.ref l) H'
theorem ok_wall {f:Addr}{fd:FuncData} (F:Fun K "write_all" "write_all" sWAll f fd) (T:TxW K mg c):FnOk P w K mg base CX0 1 f fd ["cells"] (spWAll K):=by
  refine F.ok scWAll (fun vs H Q E h=>?_) (fun cdv A outer s H vs Q E hr h=>?_)
  · obtain ⟨v,xs,rfl,_⟩:=h
    rfl
  · refine hide fun Gz zG=>?_
    obtain ⟨v,xs,rfl,hv,h1000,h100,k⟩:=h
    refine zG ?_; clear zG
    have lim:∀ i,((xs.take i).flatMap Sx01.ofCell).length≤101000:=fun i=>by
      have:=zBT (f:=Sx01.ofCell) (m:=101) (xs:=xs) i fun x hx=>by
        show x.length+1≤101
        have:=h100 x hx
        omega
      omega
    have turn:∀ (i:Nat) (D a:Addr) (x:Sx01.Cell) (H':Hp) (R:Hp→Prop),xs[i]? = some x→H' D=some (.lst (((xs.take i).flatMap Sx01.ofCell).map V.int))→SqT K H' a (zEq x)→H D=none→Same H H' →
        (∀ H2,H2 D=some (.lst (((xs.take (i+1)).flatMap Sx01.ofCell).map V.int))→Same H H2→R H2) →
        (∃ l ys y,V.ref D = .ref l∧[V.int ((zEq x).length:Nat)]=[y]∧H' l=some (.lst ys)∧ys.length < sizeLine∧∃ l2 b zs ws,V.ref D = .ref l2∧[V.ref a]=[.ref b]∧upd H' l (.lst (ys++[y])) l2=some (.lst zs)∧SqT K (upd H' l (.lst (ys++[y]))) b ws∧zs.length+ws.length≤sizeLine∧R (upd (upd H' l (.lst (ys++[y]))) l2 (.lst (zs++ws)))):=by
      intro i D a x H' R hx e1 hc hD z hR
      have hl:=lim i
      have hx100:=h100 x (List.mem_of_getElem? hx)
      refine ⟨D,_,_,rfl,rfl,e1,small (m:=200000) (by rw [List.length_map]; omega),D,a,_,_,rfl,rfl,zAB,(zAi e1).sqt hc,Nat.le_of_lt (small (m:=300000) (by unfold zEq; simp only [List.length_append,List.length_map,List.length_cons,List.length_nil]; omega)),?_⟩
      rw [zBh]
      refine hR _ ?_ (z.upd hD)
      rw [zAB,zBe hx,List.map_append]
      unfold zEq Sx01.ofCell
      rw [List.length_map,List.map_cons,List.append_assoc]
      rfl
    rcases hv with hv | hv
    · obtain ⟨a,vs,rfl,ha,hp⟩:=hv
      have hl:=zAM hp
      refine ⟨_,zAD (zAN (i:=1) scWAll.nd rfl (Or.inl rfl) (zAo zAE)) (zAD (zA6 PassesOwn.never rfl (zBV (pv 0)) (zAR (i:=2) scWAll.nd rfl (Or.inl rfl))
        (zAD (zAT (zAw PySem.F.plainAttrs_list PySem.F.slot_list_append PySem.F.type_list_append zAW (pv 1) (zAA (zAS zAL rfl T.len zAj (zAA (pv 2) zAE)) zAE)))
        (zAF (zAT (zAw PySem.F.plainAttrs_list PySem.F.slot_list_extend PySem.F.type_list_extend zCs (pv 1) (zAA (pv 2) zAE)))))) (zAF (zAQ (pv 1)))),?_⟩
      refine ⟨Nat.zero_le _,fun D hD=>?_⟩
      refine ⟨_,rfl,a,rfl,⟨_,(zBd hD).sqt ha⟩,zCw (K:=K) (a:=a) (xs:=vs) (fun i σ H'=>∃ u,σ=[some (.ref a),some (.ref D),u]∧H' D=some (.lst (((xs.take i).flatMap Sx01.ofCell).map V.int))∧Same H H') ⟨none,rfl,zAB,zAJ hD⟩ ?_ ?_ ?_⟩
      · rintro i σ H' _ ⟨u,_,_,z⟩
        exact z.kt.sqt ha
      · rintro i x σ H' hi ⟨u,rfl,e1,z⟩
        obtain ⟨y,hy,hc⟩:=zAl hp hi
        obtain ⟨b,rfl,hb⟩:=mono_cel _ _ _ _ z.kt hc
        obtain ⟨l,ys,q,r1,r2,r3,r4,l2,b2,zs,ws,r5,r6,r7,r8,r9,r10⟩:=turn i D b y H' (fun H2=>∃ u,([some (.ref a),some (.ref D),some (.ref b)]:L2.St)=[some (.ref a),some (.ref D),u]∧H2 D=some (.lst (((xs.take (i+1)).flatMap Sx01.ofCell).map V.int))∧Same H H2) hy e1 hb hD z (fun H2 g1 g2=>⟨_,rfl,g1,g2⟩)
        refine ⟨_,rfl,.inl ⟨rfl,_,SqL.of e1⟩,_,rfl,b,_,rfl,.inr hb,l,ys,q,r1,r2,r3,r4,?_⟩
        cases r1
        exact ⟨_,rfl,.inl ⟨rfl,_,SqL.of zAB⟩,_,rfl,l2,b2,zs,ws,r5,r6,r7,r8,r9,r10⟩
      · rintro σ H' ⟨u,rfl,e1,z⟩
        rw [hl,List.take_length] at e1
        exact ⟨_,rfl,k H' D e1 z hD⟩
    · obtain ⟨a,vs,rfl,ha,hp⟩:=hv
      have hl:=zAM hp
      refine ⟨_,zAD (zAN (i:=1) scWAll.nd rfl (Or.inl rfl) (zAo zAE)) (zAD (zA6 PassesOwn.never rfl (zBi (pv 0)) (zAR (i:=2) scWAll.nd rfl (Or.inl rfl))
        (zAD (zAT (zAw PySem.F.plainAttrs_list PySem.F.slot_list_append PySem.F.type_list_append zAW (pv 1) (zAA (zAS zAL rfl T.len zAj (zAA (pv 2) zAE)) zAE)))
        (zAF (zAT (zAw PySem.F.plainAttrs_list PySem.F.slot_list_extend PySem.F.type_list_extend zCs (pv 1) (zAA (pv 2) zAE)))))) (zAF (zAQ (pv 1)))),?_⟩
      refine ⟨Nat.zero_le _,fun D hD=>?_⟩
      refine ⟨_,rfl,a,rfl,⟨_,SqL.of (zAJ hD _ _ ha)⟩,zBw (K:=K) (a:=a) (xs:=vs) (fun i σ H'=>∃ u,σ=[some (.ref a),some (.ref D),u]∧H' D=some (.lst (((xs.take i).flatMap Sx01.ofCell).map V.int))∧Same H H') ⟨none,rfl,zAB,zAJ hD⟩ ?_ ?_ ?_⟩
      · rintro i σ H' _ ⟨u,_,_,z⟩
        exact SqL.of (z _ _ ha)
      · rintro i x σ H' hi ⟨u,rfl,e1,z⟩
        obtain ⟨y,hy,hc⟩:=zAl hp hi
        obtain ⟨b,rfl,hb⟩:=mono_cel _ _ _ _ z.kt hc
        obtain ⟨l,ys,q,r1,r2,r3,r4,l2,b2,zs,ws,r5,r6,r7,r8,r9,r10⟩:=turn i D b y H' (fun H2=>∃ u,([some (.ref a),some (.ref D),some (.ref b)]:L2.St)=[some (.ref a),some (.ref D),u]∧H2 D=some (.lst (((xs.take (i+1)).flatMap Sx01.ofCell).map V.int))∧Same H H2) hy e1 hb hD z (fun H2 g1 g2=>⟨_,rfl,g1,g2⟩)
        refine ⟨_,rfl,.inl ⟨rfl,_,SqL.of e1⟩,_,rfl,b,_,rfl,.inr hb,l,ys,q,r1,r2,r3,r4,?_⟩
        cases r1
        exact ⟨_,rfl,.inl ⟨rfl,_,SqL.of zAB⟩,_,rfl,l2,b2,zs,ws,r5,r6,r7,r8,r9,r10⟩
      · rintro σ H' ⟨u,rfl,e1,z⟩
        rw [hl,List.take_length] at e1
        exact ⟨_,rfl,k H' D e1 z hD⟩
abbrev cWAll (P:Program) (w:World) (K:Fg) (mg:MG) (base:Heap):Prop:=Cal P w K mg base CX0 1 "write_all" ["cells"] (spWAll K)
abbrev sWSh:Stmt:=top 52
theorem scWSh:FnScope ["sheet","numbers","row"] ["sheet"] (zAH sWSh):=scm
def spWSh (K:Fg) (c:Cs):Sp:=fun vs H Q _=>∃ (a:Addr) (s:Sx01.Sheet),vs=[.ref a]∧SheetAt K c H a s∧∀ H' l,H' l=some (.lst ((Sx01.ofSheet s).map V.int))→Same H H'→H l=none→Q (.ref l) H'
theorem ok_wsh {f:Addr}{fd:FuncData} (F:Fun K "write_sheet" "write_sheet" sWSh f fd) (T:TxW K mg c) (c1:cWAll P w K mg base):FnOk P w K mg base CX0 2 f fd ["sheet"] (spWSh K c):=by
  refine F.ok scWSh (fun vs H Q E h=>?_) (fun cdv A outer s H vs Q E hr h=>?_)
  · obtain ⟨a,s,rfl,_⟩:=h
    rfl
  · obtain ⟨a,sh,rfl,S,k⟩:=h
    refine hide fun Gz zG=>?_
    obtain ⟨dx,ca,ra,pa,kvs,h1,h2,h3,h4,h5⟩:=S.ob
    obtain ⟨_,cvs,e0,hc1,hc2⟩:=id h2
    cases e0
    obtain ⟨_,rvs,e0,hr1,hr2⟩:=id h3
    cases e0
    refine zG ?_; clear zG
    have hcl:=zAM hc2
    have hrl:=zAM hr2
    have wf:=S.wf
    have limr:∀ r∈sh.rows,(r.flatMap Sx01.ofCell).length≤4160:=fun r hr=>by
      have:=zBf (f:=Sx01.ofCell) (m:=65) (xs:=r) fun x hx=>by
        show x.length+1≤65
        have:=wf.cel r hr x hx
        omega
      have h1:=wf.wid r hr
      have h2:=wf.c64
      have h3:65 * r.length≤65 * 64:=Nat.mul_le_mul_left _ (by omega)
      omega
    have limc:(sh.cols.flatMap Sx01.ofBytes).length≤4160:=by
      have:=zBf (f:=Sx01.ofBytes) (m:=65) (xs:=sh.cols) fun x hx=>by
        show (x.map fun (c:Nat)=>(c:Int)).length+1≤65
        have:=wf.nm x hx
        rw [List.length_map]
        omega
      have h2:=wf.c64
      have h3:65 * sh.cols.length≤65 * 64:=Nat.mul_le_mul_left _ (by omega)
      omega
    have lim:∀ i,((sh.rows.take i).flatMap fun r=>r.flatMap Sx01.ofCell).length≤1064960:=fun i=>by
      have:=zBT (f:=fun (r:Sx01.Row)=>r.flatMap Sx01.ofCell) (m:=4160) (xs:=sh.rows) i limr
      have h2:=wf.r256
      have h3:4160 * sh.rows.length≤4160 * 256:=Nat.mul_le_mul_left _ (by omega)
      omega
    refine ⟨_,zAD (zAN (i:=1) scWSh.nd rfl (Or.inl rfl) (zA8 zGM (zAo (zAA (zAS zAL rfl T.len zAj (zAA (zAI (pv 0) rfl) zAE)) zAE)) (ec c1 hr zAU (zAA (zAI (pv 0) rfl) zAE))))
      (zAD (zAT (zAw PySem.F.plainAttrs_list PySem.F.slot_list_append PySem.F.type_list_append zAW (pv 1) (zAA (zAS zAL rfl T.len zAj (zAA (zAI (pv 0) rfl) zAE)) zAE)))
      (zAD (zA6 PassesOwn.never rfl (zBV (zAI (pv 0) rfl)) (zAR (i:=2) scWSh.nd rfl (Or.inl rfl)) (zAF (zAT (zAw PySem.F.plainAttrs_list PySem.F.slot_list_extend PySem.F.type_list_extend zBc (pv 1) (zAA (ec c1 hr zAU (zAA (pv 2) zAE)) zAE)))))
      (zAF (zAQ (pv 1))))),?_⟩
    refine ⟨_,rfl,a,c.sheet,dx,_,_,rfl,h1,T.cl,T.nC,lk0,ca,_,rfl,.inr hc1,(by show 1≤sizeLine; decide),fun l1 hl1=>?_⟩
    have z1:Same H (upd H l1 (.lst [.int (cvs.length:Nat)])):=zAJ hl1
    refine ⟨_,rfl,a,c.sheet,dx,_,_,rfl,z1 _ _ h1,T.cl,T.nC,lk0,.ref ca,_,rfl,.inl (zG4 (zAa _ _ _ _ z1.kt h2)),(by rw [List.length_map]; have:=wf.c64; omega),(fun x hx=>?_),fun H2 l2 e2 z2 n2=>?_⟩
    · obtain ⟨n,hn,rfl⟩:=List.mem_map.mp hx
      have:=wf.nm n hn
      rw [List.length_map]
      omega
    · have ef:(List.map (fun n=>List.map (fun (x:Nat)=>(x:Int)) n) sh.cols).flatMap Sx01.ofCell=sh.cols.flatMap Sx01.ofBytes:=by
        rw [List.flatMap_map]
        congr 1
        funext n
        exact (zC8 n).symm
      rw [ef] at e2
      refine ⟨l1,l2,_,_,rfl,rfl,z2 _ _ zAB,e2,Nat.le_of_lt (small (m:=10000) (by simp only [List.length_cons,List.length_nil,List.length_map]; omega)),fun D hD=>?_⟩
      have z3:Same H H2:=z1.trans z2
      have hD0:H D=none:=z3.free hD
      have z4:Same H (upd H2 D (.lst ([.int (cvs.length:Nat)]++List.map V.int (sh.cols.flatMap Sx01.ofBytes)))):=z3.upd hD0
      refine ⟨_,rfl,.inl ⟨rfl,_,SqL.of zAB⟩,_,rfl,a,c.sheet,dx,_,_,rfl,z4 _ _ h1,T.cl,T.nR,(by rw [lk1,lk0]),ra,_,rfl,.inr (z4.kt.sqt hr1),D,_,_,rfl,rfl,zAB,small (m:=10000) (by simp only [List.length_append,List.length_cons,List.length_nil,List.length_map]; omega),?_⟩
      rw [zBh]
      have z5:Same H (upd H2 D (.lst ([.int (cvs.length:Nat)]++List.map V.int (sh.cols.flatMap Sx01.ofBytes)++[.int (rvs.length:Nat)]))):=z3.upd hD0
      refine ⟨_,rfl,a,c.sheet,dx,_,_,rfl,z5 _ _ h1,T.cl,T.nR,(by rw [lk1,lk0]),ra,rfl,⟨_,z5.kt.sqt hr1⟩,zCw (K:=K) (a:=ra) (xs:=rvs) (fun i σ H'=>∃ u,σ=[some (.ref a),some (.ref D),u]∧H' D=some (.lst (((sh.cols.length:Int)::(sh.cols.flatMap Sx01.ofBytes++((sh.rows.length:Int)::(sh.rows.take i).flatMap fun r=>r.flatMap Sx01.ofCell))).map V.int))∧Same H H') ⟨none,rfl,?_,z5⟩ ?_ ?_ ?_⟩
      · rw [zAB,hcl,hrl]
        simp
      · rintro i σ H' _ ⟨u,_,_,z⟩
        exact z.kt.sqt hr1
      · rintro i x σ H' hi ⟨u,rfl,e1,z⟩
        obtain ⟨y,hy,hc⟩:=zAl hr2 hi
        have my:=List.mem_of_getElem? hy
        refine ⟨_,rfl,.inl ⟨rfl,_,SqL.of e1⟩,_,rfl,x,y,rfl,.inl (mono_row _ _ _ _ z.kt hc),(by have:=wf.wid y my; have:=wf.c64; omega),(fun q hq=>by have:=wf.cel y my q hq; omega),fun H3 l3 e3 z3 n3=>?_⟩
        have li:=lim i
        have ly:=limr y my
        refine ⟨D,l3,_,_,rfl,rfl,z3 _ _ e1,e3,Nat.le_of_lt (small (m:=2000000) (by simp only [List.length_append,List.length_cons,List.length_map]; omega)),_,rfl,?_,fun b o e=>?_⟩
        · rw [zAB,zBe hy]
          simp
        · rw [zAG (zAC e hD0)]
          exact z3 _ _ (z b o e)
      · rintro σ H' ⟨u,rfl,e1,z⟩
        rw [hrl,List.take_length] at e1
        exact ⟨_,rfl,k H' D e1 z hD0⟩
abbrev sWSe:Stmt:=top 54
theorem scWSe:FnScope ["settings","numbers","place","cell"] ["settings"] (zAH sWSe):=scm
def spWSe (K:Fg):Sp:=fun vs H Q _=>∃ (v:V) (l:List (Nat×Sx01.Cell)),vs=[v]∧LstOf (zCV K) H v l∧l.length≤64∧(∀ x∈l,x.2.length≤64) ∧
 ∀ H' q,H' q=some (.lst (((l.length:Int)::l.flatMap zBI).map V.int))→Same H H'→H q=none→Q (.ref q) H'
theorem ok_wse {f:Addr}{fd:FuncData} (F:Fun K "write_settings" "write_settings" sWSe f fd) (T:TxW K mg c) (c1:cWAll P w K mg base):FnOk P w K mg base CX0 2 f fd ["settings"] (spWSe K):=by
  refine F.ok scWSe (fun vs H Q E h=>?_) (fun cdv A outer s H vs Q E hr h=>?_)
  · obtain ⟨v,l,rfl,_⟩:=h
    rfl
  · refine hide fun Gz zG=>?_
    obtain ⟨v,l,rfl,⟨a,vs,rfl,ha,hp⟩,h64,hc64,k⟩:=h
    refine zG ?_; clear zG
    have hl:=zAM hp
    have lim:∀ i,((l.take i).flatMap zBI).length≤4224:=fun i=>by
      have:=zBT (f:=zBI) (m:=66) (xs:=l) i fun x hx=>by
        show (x.2.length+1)+1≤66
        have:=hc64 x hx
        omega
      have h3:66 * l.length≤66 * 64:=Nat.mul_le_mul_left _ (by omega)
      omega
    refine ⟨_,zAD (zAN (i:=1) scWSe.nd rfl (Or.inl rfl) (zAo (zAA (zAS zAL rfl T.len zAj (zAA (pv 0) zAE)) zAE)))
      (zAD (zA6 PassesOwn.never rfl (zBi (pv 0)) (zB3 rfl (zAg (zAR (i:=2) scWSe.nd rfl (Or.inl rfl)) (zAg (zAR (i:=3) scWSe.nd rfl (Or.inl rfl)) zBb)))
        (zAD (zAT (zAw PySem.F.plainAttrs_list PySem.F.slot_list_append PySem.F.type_list_append zAW (pv 1) (zAA (pv 2) zAE)))
        (zAF (zAT (zAw PySem.F.plainAttrs_list PySem.F.slot_list_extend PySem.F.type_list_extend zBc (pv 1) (zAA (ec c1 hr zAU (zAA (zAo (zAA (pv 3) zAE)) zAE)) zAE))))))
      (zAF (zAQ (pv 1)))),?_⟩
    refine ⟨_,rfl,a,_,rfl,.inl (SqL.of ha),(by show 1≤sizeLine; decide),fun D hD=>?_⟩
    refine ⟨_,rfl,a,rfl,⟨_,SqL.of (zAJ hD _ _ ha)⟩,zBw (K:=K) (a:=a) (xs:=vs) (fun i σ H'=>∃ u u2,σ=[some (.ref a),some (.ref D),u,u2]∧H' D=some (.lst (((l.length:Int)::(l.take i).flatMap zBI).map V.int))∧Same H H') ⟨none,none,rfl,by rw [zAB,hl]; rfl,zAJ hD⟩ ?_ ?_ ?_⟩
    · rintro i σ H' _ ⟨u,u2,_,_,z⟩
      exact SqL.of (z _ _ ha)
    · rintro i x σ H' hi ⟨u,u2,rfl,e1,z⟩
      obtain ⟨y,hy,hc⟩:=zAl hp hi
      obtain ⟨b,q,rfl,hb,hq⟩:=mono_set _ _ _ _ z.kt hc
      have my:=List.mem_of_getElem? hy
      have li:=lim i
      refine ⟨b,_,rfl,hb,rfl,_,_,rfl,_,_,rfl,rfl,?_⟩
      refine ⟨_,rfl,.inl ⟨rfl,_,SqL.of e1⟩,_,rfl,D,_,_,rfl,rfl,e1,small (m:=10000) (by simp only [List.length_cons,List.length_map]; omega),?_⟩
      refine ⟨_,rfl,.inl ⟨rfl,_,SqL.of zAB⟩,_,rfl,(by show 1≤sizeLine; decide),fun l1 hl1=>?_⟩
      have hDl:D≠l1:=fun w=>by rw [←w,zAB] at hl1; cases hl1
      refine ⟨.ref l1,[y.2],rfl,.inr ⟨l1,_,rfl,zAB,.cons (mono_cel _ _ _ _ ((zAi e1).trans (zBd hl1)) hq) .nil⟩,(by show 1≤1000; decide),(fun x hx=>?_),fun H3 l3 e3 z3 n3=>?_⟩
      · have:=hc64 y my
        have hx:x=y.2:=by simpa using hx
        rw [hx]
        omega
      · have hy64:=hc64 y my
        refine ⟨D,l3,_,_,rfl,rfl,z3 _ _ (by rw [zAG hDl,zAB]),e3,Nat.le_of_lt (small (m:=20000) (by simp only [List.length_append,List.length_cons,List.length_map,List.length_nil,List.flatMap_cons,List.flatMap_nil,Sx01.ofCell]; omega)),_,_,rfl,?_,fun b' o e=>?_⟩
        · rw [zAB,zBe hy]
          simp [zBI]
        · rw [zAG (zAC e hD)]
          refine z3 _ _ ?_
          have e':upd H' D (.lst (List.map V.int ((l.length:Int)::(l.take i).flatMap zBI)++[V.int (y.1:Nat)])) b' = some o:=by rw [zAG (zAC e hD)]; exact z b' o e
          rw [zAG (zAC e' hl1)]
          exact e'
    · rintro σ H' ⟨u,u2,rfl,e1,z⟩
      rw [hl,List.take_length] at e1
      exact ⟨_,rfl,k H' D e1 z hD⟩
abbrev cWSe (P:Program) (w:World) (K:Fg) (mg:MG) (base:Heap):Prop:=Cal P w K mg base CX0 2 "write_settings" ["settings"] (spWSe K)
def IsStepL (K:Fg) (H:Hp) (v:V) (x:Sx01.Step):Prop:=∃ a u,v = .ref a∧SqT K H a [.int (kindOf x),u]∧match x with
 | .keep l=>LstOf (zCV K) H u l
 | .gone=>True
 | .put r=>zAy K H u r
theorem IsStepL.same {K:Fg}{H H':Hp}{v:V}{x:Sx01.Step} (h:IsStepL K H v x) (k:Same H H'):IsStepL K H' v x:=by
 obtain ⟨a,u,e,h1,h2⟩:=h
 refine ⟨a,u,e,k.kt.sqt h1,?_⟩
 cases x with
 | keep l=>exact LstOf.same mono_set h2 k
 | gone=>trivial
 | put r=>exact mono_row _ _ _ _ k.kt h2
def StepSm (x:Sx01.Step):Prop:=match x with
 | .keep l=>l.length≤64∧∀ y∈l,y.2.length≤64
 | .gone=>True
 | .put r=>r.length≤64∧∀ y∈r,y.length≤64
theorem StepSm.len {x:Sx01.Step} (h:StepSm x):(Sx01.ofStep x).length≤4226:=by
 cases x with
 | keep l =>
  obtain ⟨h1,h2⟩:=h
  have:=zBf (f:=zBI) (m:=66) (xs:=l) fun x hx=>by
   show (x.2.length+1)+1≤66
   have:=h2 x hx
   omega
  have h3:66 * l.length≤66 * 64:=Nat.mul_le_mul_left _ (by omega)
  show (l.flatMap zBI).length+1+1≤4226
  omega
 | gone=>show 1≤4226; omega
 | put r =>
  obtain ⟨h1,h2⟩:=h
  have:=zBf (f:=Sx01.ofCell) (m:=65) (xs:=r) fun x hx=>by
   show x.length+1≤65
   have:=h2 x hx
   omega
  have h3:65 * r.length≤65 * 64:=Nat.mul_le_mul_left _ (by omega)
  show (r.flatMap Sx01.ofCell).length+1≤4226
  omega
abbrev sWSt:Stmt:=top 53
theorem scWSt:FnScope ["steps","numbers","kind","content"] ["steps"] (zAH sWSt):=scm
def spWSt (K:Fg):Sp:=fun vs H Q _=>∃ (v:V) (l:List Sx01.Step),vs=[v]∧LstOf (IsStepL K) H v l∧l.length≤512∧(∀ x∈l,StepSm x) ∧
 ∀ H' q,H' q=some (.lst (((l.length:Int)::l.flatMap Sx01.ofStep).map V.int))→Same H H'→H q=none→Q (.ref q) H'
theorem ok_wst {f:Addr}{fd:FuncData} (F:Fun K "write_steps" "write_steps" sWSt f fd) (T:TxW K mg c) (c1:cWAll P w K mg base) (c2:cWSe P w K mg base):FnOk P w K mg base CX0 3 f fd ["steps"] (spWSt K):=by
  refine F.ok scWSt (fun vs H Q E h=>?_) (fun cdv A outer s H vs Q E hr h=>?_)
  · obtain ⟨v,l,rfl,_⟩:=h
    rfl
  · refine hide fun Gz zG=>?_
    obtain ⟨v,l,rfl,⟨a,vs,rfl,ha,hp⟩,h512,hsm,k⟩:=h
    refine zG ?_; clear zG
    have hl:=zAM hp
    have lim:∀ i,((l.take i).flatMap Sx01.ofStep).length≤2163712:=fun i=>by
      have:=zBT (f:=Sx01.ofStep) (m:=4226) (xs:=l) i fun x hx=>(hsm x hx).len
      have h3:4226 * l.length≤4226 * 512:=Nat.mul_le_mul_left _ (by omega)
      omega
    refine ⟨_,zAD (zAN (i:=1) scWSt.nd rfl (Or.inl rfl) (zAo (zAA (zAS zAL rfl T.len zAj (zAA (pv 0) zAE)) zAE)))
      (zAD (zA6 PassesOwn.never rfl (zBi (pv 0)) (zB3 rfl (zAg (zAR (i:=2) scWSt.nd rfl (Or.inl rfl)) (zAg (zAR (i:=3) scWSt.nd rfl (Or.inl rfl)) zBb)))
        (zAD (zAT (zAw PySem.F.plainAttrs_list PySem.F.slot_list_append PySem.F.type_list_append zAW (pv 1) (zAA (pv 2) zAE)))
        (zAF (zAk (zAX zBn (pv 2) (eg T.keep) (zAb _)) (zAF (zAT (zAw PySem.F.plainAttrs_list PySem.F.slot_list_extend PySem.F.type_list_extend zBc (pv 1) (zAA (ec c2 hr zAU (zAA (pv 3) zAE)) zAE))))
          (zAF (zAk (zAX zBn (pv 2) (eg T.put) (zAb _)) (zAF (zAT (zAw PySem.F.plainAttrs_list PySem.F.slot_list_extend PySem.F.type_list_extend zBc (pv 1) (zAA (ec c1 (hr.mono (by decide)) zAU (zAA (pv 3) zAE)) zAE)))) zAY))))))
      (zAF (zAQ (pv 1)))),?_⟩
    refine ⟨_,rfl,a,_,rfl,.inl (SqL.of ha),(by show 1≤sizeLine; decide),fun D hD=>?_⟩
    refine ⟨_,rfl,a,rfl,⟨_,SqL.of (zAJ hD _ _ ha)⟩,zBw (K:=K) (a:=a) (xs:=vs) (fun i σ H'=>∃ u u2,σ=[some (.ref a),some (.ref D),u,u2]∧H' D=some (.lst (((l.length:Int)::(l.take i).flatMap Sx01.ofStep).map V.int))∧Same H H') ⟨none,none,rfl,by rw [zAB,hl]; rfl,zAJ hD⟩ ?_ ?_ ?_⟩
    · rintro i σ H' _ ⟨u,u2,_,_,z⟩
      exact SqL.of (z _ _ ha)
    · rintro i x σ H' hi ⟨u,u2,rfl,e1,z⟩
      obtain ⟨y,hy,hc⟩:=zAl hp hi
      obtain ⟨b,q,rfl,hb0,hq⟩:=hc
      have hb:=z.kt.sqt hb0
      have my:=List.mem_of_getElem? hy
      have li:=lim i
      have sm:=hsm y my
      have smL:=sm.len
      have z1:Same H (upd H' D (.lst (List.map V.int ((l.length:Int)::(l.take i).flatMap Sx01.ofStep)++[V.int (kindOf y)]))):=z.upd hD
      refine ⟨b,_,rfl,hb,rfl,_,_,rfl,_,_,rfl,rfl,?_⟩
      refine ⟨_,rfl,.inl ⟨rfl,_,SqL.of e1⟩,_,rfl,D,_,_,rfl,rfl,e1,small (m:=3000000) (by simp only [List.length_cons,List.length_map]; omega),?_⟩
      have kt1:KTup H' (upd H' D (.lst (List.map V.int ((l.length:Int)::(l.take i).flatMap Sx01.ofStep)++[V.int (kindOf y)]))):=zAi e1
      cases y with
      | keep m =>
        obtain ⟨s1,s2⟩:=sm
        obtain ⟨qa,qs,rfl,hqa,hqp⟩:=hq
        have nq:qa≠D:=zAC hqa hD
        refine ⟨_,rfl,rfl,_,rfl,iteT ?_⟩
        refine ⟨_,rfl,.inl ⟨rfl,_,SqL.of zAB⟩,_,rfl,.ref qa,m,rfl,⟨qa,qs,rfl,(by rw [zAG nq]; exact z _ _ hqa),mono_set.pr (z.kt.trans kt1) hqp⟩,s1,s2,fun H3 l3 e3 z3 n3=>?_⟩
        have hsm2:(m.flatMap zBI).length+2≤4226:=smL
        refine ⟨D,l3,_,_,rfl,rfl,z3 _ _ zAB,e3,Nat.le_of_lt (small (m:=4000000) (by simp only [List.length_append,List.length_cons,List.length_map,List.length_nil]; omega)),_,_,rfl,?_,fun b' o e=>?_⟩
        · rw [zAB,zBe hy]
          simp [Sx01.ofStep,ShM.kindOf]
          rfl
        · rw [zAG (zAC e hD)]
          exact z3 _ _ (z1 b' o e)
      | put r =>
        obtain ⟨s1,s2⟩:=sm
        refine ⟨_,rfl,rfl,_,rfl,iteF ?_⟩
        refine ⟨_,rfl,rfl,_,rfl,iteT ?_⟩
        refine ⟨_,rfl,.inl ⟨rfl,_,SqL.of zAB⟩,_,rfl,q,r,rfl,.inl (mono_row _ _ _ _ (z.kt.trans kt1) hq),(by omega),(fun x hx=>by have:=s2 x hx; omega),fun H3 l3 e3 z3 n3=>?_⟩
        have hsm2:(r.flatMap Sx01.ofCell).length+1≤4226:=smL
        refine ⟨D,l3,_,_,rfl,rfl,z3 _ _ zAB,e3,Nat.le_of_lt (small (m:=4000000) (by simp only [List.length_append,List.length_cons,List.length_map,List.length_nil]; omega)),_,_,rfl,?_,fun b' o e=>?_⟩
        · rw [zAB,zBe hy]
          simp [Sx01.ofStep,ShM.kindOf]
        · rw [zAG (zAC e hD)]
          exact z3 _ _ (z1 b' o e)
      | gone =>
        refine ⟨_,rfl,rfl,_,rfl,iteF ?_⟩
        refine ⟨_,rfl,rfl,_,rfl,iteF ?_⟩
        refine ⟨_,_,rfl,?_,z1⟩
        rw [zAB,zBe hy]
        simp [Sx01.ofStep,ShM.kindOf]
    · rintro σ H' ⟨u,u2,rfl,e1,z⟩
      rw [hl,List.take_length] at e1
      exact ⟨_,rfl,k H' D e1 z hD⟩
end
end Sh
set_option maxHeartbeats 2000000
namespace Sh
open PySem PySem.Spec PyProof.Rows L2 ShM
structure TxD (K:Fg) (mg:MG) (c:Cs):Prop where
 clS:Cls K c.sheet
 nC:NoAttr K c.sheet "columns"
 nR:NoAttr K c.sheet "rows"
 cl:Cls K c.diff
 nCo:NoAttr K c.diff "cost"
 nSt:NoAttr K c.diff "steps"
 keep:GI mg "KEEP" 0
 gone:GI mg "GONE" 1
 put:GI mg "PUT" 2
 len:mg "len" = none
 enum:mg "enumerate" = none
 range:mg "range" = none
 rev:mg "reversed" = none
 min:mg "min" = none
abbrev zAt (l:List Nat):List V:=l.map fun (n:Nat)=>V.int (n:Int)
def NatsAt (H:Hp) (v:V) (l:List Nat):Prop:=∃ a,v = .ref a∧H a=some (.lst (zAt l))
theorem NatsAt.same {H H':Hp}{v:V}{l:List Nat} (h:NatsAt H v l) (k:Same H H'):NatsAt H' v l:=by
 obtain ⟨a,e,h⟩:=h
 exact ⟨a,e,k _ _ h⟩
def TabAt (H:Hp) (v:V) (t:List (List Nat)):Prop:=∃ a vs,v = .ref a∧H a=some (.lst vs)∧Paired (NatsAt H) vs t
theorem TabAt.same {H H':Hp}{v:V}{l:List (List Nat)} (h:TabAt H v l) (k:Same H H'):TabAt H' v l:=by
 obtain ⟨a,vs,e,h,p⟩:=h
 exact ⟨a,vs,e,k _ _ h,zAr (fun v x z=>z.same k) p⟩
theorem zA3 {l:List Nat}{i x:Nat} (h:l[i]? = some x):(zAt l)[i]? = some (V.int (x:Int)):=by
 rw [List.getElem?_map,h]
 rfl
theorem tupK {X:Cx}{K:Fg}{es:List Expr}{k:Nat}{t:TGs}{n:Nat}{pos:Pos} (hK:X.K=K) (hc:X.calm=true) (h:PGs X es t) (hn:(assignEach es X.env).length=n:=by rfl) (hst:(assignEach es X.env).findIdx? (·.1)=none:=by rfl) :
  PG X (.Tuple es k pos) (gTup K n t):=by
 subst hK
 exact zB3 hc h hn hst
section
variable {P:Program}{w:World}{K:Fg}{mg:MG}{base:Heap}{c:Cs}
abbrev sDInit:Stmt:=zAK (top 16) 0
theorem scDInit:FnScope ["self","cost","steps"] ["self","cost","steps"] (zAH sDInit):=scm
abbrev dfF (x y:V):List (Str×V):=[("cost",x),("steps",y)]
def zHY (c:Cs):Sp:=fun vs H Q _=>∃ (p dx:Addr) (x y:V),vs=[.ref p,x,y]∧H p=some (.ins c.diff dx [])∧Q .non (upd H p (.ins c.diff dx (dfF x y)))
theorem ok_dinit {f:Addr}{fd:FuncData} (F:Fun K "__init__" "Difference.__init__" sDInit f fd) (T:TxD K mg c):FnOk P w K mg base CX0 1 f fd ["self","cost","steps"] (zHY c):=by
 refine F.ok scDInit (fun vs H Q E h=>?_) (fun cdv A outer s H vs Q E hr h=>?_)
 ·obtain ⟨p,dx,x,y,rfl,_⟩:=h
  rfl
 ·refine hide fun Gz zG=>?_
  obtain ⟨p,dx,x,y,rfl,hp,k⟩:=h
  refine zG ?_; clear zG
  refine ⟨_,zAD (zA7 (pv 0) (pv 1) rfl) (zAF (zA7 (pv 0) (pv 2) rfl)),?_⟩
  refine ⟨_,rfl,_,rfl,p,c.diff,dx,[],rfl,hp,T.cl,T.nCo,(by decide),?_⟩
  rw [pf0]
  refine ⟨_,rfl,_,rfl,p,c.diff,dx,_,rfl,zAB,T.cl,T.nSt,(by show 1 < 1000; decide),?_⟩
  rw [zBh,pf1,pf0]
  exact k
abbrev sSB:Stmt:=top 19
theorem scSB:FnScope ["row","wanted","place","cell"] ["row","wanted"] (zAH sSB):=scm
def spSB (K:Fg):Sp:=fun vs H Q _=>∃ (u v:V) (x s:Sx01.Row),vs=[u,v]∧zAy K H u x∧zAy K H v s∧x.length=s.length∧s.length≤64 ∧
 ∀ H' l,LstOf (zCV K) H' (.ref l) (chg x s 0)→Same H H'→H l=none→Q (.ref l) H'
theorem zGk:∀ (x s:Sx01.Row) (n i:Nat) (a b:Sx01.Cell),x[i]? = some a→s[i]? = some b→chg (x.take (i+1)) (s.take (i+1)) n=chg (x.take i) (s.take i) n++(if a=b then [] else [(n+i,b)])
 | [],_,_,_,_,_,h,_=>by simp at h
 | _::_,[],_,_,_,_,_,h=>by simp at h
 | c::x,d::s,n,0,a,b,h1,h2=>by
  have e1:c=a:=Option.some.inj h1
  have e2:d=b:=Option.some.inj h2
  subst e1 e2
  show chg (c::x.take 0) (d::s.take 0) n=_
  rw [zDL]
  by_cases e:c=d
  ·rw [if_pos e,if_pos e]
   simp [chg]
  ·rw [if_neg e,if_neg e]
   simp [chg]
 | c::x,d::s,n,i+1,a,b,h1,h2=>by
  have ih:=zGk x s (n+1) i a b h1 h2
  show chg (c::x.take (i+1)) (d::s.take (i+1)) n=chg (c::x.take i) (d::s.take i) n++_
  rw [zDL,zDL,ih]
  have e0:n+1+i=n+(i+1):=by omega
  rw [e0]
  by_cases e:c=d
  ·rw [if_pos e,if_pos e]
  ·rw [if_neg e,if_neg e]
   rfl
theorem zFw (x s:Sx01.Row) (n:Nat):(chg x s n).length≤s.length:=by
 unfold chg
 refine Nat.le_trans (List.length_filterMap_le _ _) ?_
 rw [List.length_zipIdx,List.length_zip]
 omega
theorem ok_sb {f:Addr}{fd:FuncData} (F:Fun K "settings_between" "settings_between" sSB f fd) (T:TxD K mg c):FnOk P w K mg base CX0 1 f fd ["row","wanted"] (spSB K):=by
 refine F.ok scSB (fun vs H Q E h=>?_) (fun cdv A outer s H vs Q E hr h=>?_)
 ·obtain ⟨u,v,x,s,rfl,_⟩:=h
  rfl
 ·refine hide fun Gz zG=>?_
  obtain ⟨u,v,x,s,rfl,hx,hs,hl,h64,k⟩:=h
  obtain ⟨xa,xvs,rfl,hx1,hx2⟩:=hx
  obtain ⟨sa,svs,rfl,hs1,hs2⟩:=hs
  refine zG ?_; clear zG
  have hsl:=zAM hs2
  refine ⟨_,zAF (zAQ (zCo (own:=[("place",2),("cell",3)]) rfl scSB.nd (zCc rfl T.enum (zAA (pv 1) zAE)) (zAp (by show blkC ["row","wanted","place","cell"] (zAH sSB) _ _=true; decide +kernel))
   (fun _ _ _ _ _=>tupK (K:=K) (n:=2) rfl rfl (zAg (zAR (i:=2) scSB.nd rfl (Or.inl rfl)) (zAg (zAR (i:=3) scSB.nd rfl (Or.inl rfl)) zBb)))
   (fun _ _ _ _ _=>zFh (zAX (neK (K:=K) rfl hr.units) (zAn (ixtK (K:=K) rfl) (pv 0) (pv 2) (fun _ _=>rfl)) (pv 3) (zAb _)))
   (fun _ _ _ _ _=>zBg (zAA (pv 2) (zAA (pv 3) zAE))))),?_⟩
  refine ⟨_,rfl,sa,svs,rfl,hs1,fun D hD=>lc_enumT (K:=K) (a:=sa) (xs:=svs) (fun i H'=>∃ acc,H' D=some (.lst acc)∧Paired (zCV K H') acc (chg (x.take i) (s.take i) 0)∧Same H H') ⟨[],zAB,.nil,zAJ hD⟩ ?_ ?_ ?_⟩
  ·rintro i H' _ ⟨_,_,_,z⟩
   exact z.kt.sqt hs1
  ·rintro i y H' Tn hi ⟨acc,e1,hp,z⟩ hT
   obtain ⟨b,hb,hcb⟩:=zAl hs2 hi
   have il:i < svs.length:=(List.getElem?_eq_some_iff.mp hi).1
   have ilx:i < x.length:=by omega
   obtain ⟨xv,hxv,hca⟩:=zAm hx2 (List.getElem?_eq_getElem ilx)
   have al:=zAM hp
   have al2:=zFw (x.take i) (s.take i) 0
   rw [List.length_take] at al2
   have zT:Same H (upd H' Tn (.tup [.int (i:Nat),y])):=z.upd (z.free hT)
   have nDT:D≠Tn:=zAC e1 hT
   have e1T:upd H' Tn (.tup [.int (i:Nat),y]) D=some (.lst acc):=by rw [zAG nDT]; exact e1
   have hpT:=mono_set.pr (zBd (o:=.tup [.int (i:Nat),y]) hT) hp
   refine ⟨Tn,_,rfl,SqT.of zAB,rfl,_,_,rfl,_,_,rfl,rfl,rfl,?_⟩
   refine ⟨_,rfl,_,rfl,xa,xvs,_,xv,rfl,rfl,zT.kt.sqt hx1,zAO hxv,_,rfl,celD x[i],celD b,(mono_cel _ _ _ _ zT.kt hca).dp,(mono_cel _ _ _ _ zT.kt hcb).dp,zAf _,zAf _,_,rfl,?_⟩
   rw [zBj]
   have sn:=zGk x s 0 i x[i] b (List.getElem?_eq_getElem ilx) hb
   by_cases e:x[i]=b
   ·rw [decide_eq_true e]
    refine iteF ⟨acc,e1T,?_,zT⟩
    rw [sn,if_pos e,List.append_nil]
    exact hpT
   ·rw [decide_eq_false e]
    refine iteT ⟨_,rfl,_,rfl,(by show 2≤sizeLine; decide),fun t ht=>?_⟩
    have nDt:D≠t:=zAC e1T ht
    have e1t:upd (upd H' Tn (.tup [.int (i:Nat),y])) t (.tup [.int (i:Nat),y]) D=some (.lst acc):=by rw [zAG nDt]; exact e1T
    have zt:Same H (upd (upd H' Tn (.tup [.int (i:Nat),y])) t (.tup [.int (i:Nat),y])):=zT.upd (zT.free ht)
    refine ⟨acc,e1t,small (m:=1000) (by omega),acc++[.ref t],zAB,?_,zt.upd hD⟩
    rw [sn,if_neg e]
    refine zAv (mono_set.pr ((zBd ht).trans (zAi e1t)) hpT) ⟨t,y,?_,SqT.of ?_,mono_cel _ _ _ _ (zt.kt.trans (zAi e1t)) hcb⟩
    ·rfl
    ·rw [zAG nDt.symm,zAB,Nat.zero_add]
  ·rintro H' ⟨acc,e1,hp,z⟩
   have ex:x.take svs.length=x:=by rw [hsl,←hl,List.take_length]
   have es:s.take svs.length=s:=by rw [hsl,List.take_length]
   rw [ex,es] at hp
   exact k H' D ⟨D,acc,rfl,e1,hp⟩ z hD
abbrev cSB (P:Program) (w:World) (K:Fg) (mg:MG) (base:Heap):Prop:=Cal P w K mg base CX0 1 "settings_between" ["row","wanted"] (spSB K)
abbrev sKC:Stmt:=top 18
theorem scKC:FnScope ["row","wanted_rows","wanted"] ["row","wanted_rows"] (zAH sKC):=scm
def spKC (K:Fg):Sp:=fun vs H Q _=>∃ (u v:V) (x:Sx01.Row) (m:List Sx01.Row),vs=[u,v]∧zAy K H u x∧zDF K H v m∧(∀ s∈m,x.length=s.length∧s.length≤64)∧m.length≤256 ∧
 ∀ H' l,H' l=some (.lst (zAt (m.map fun s=>(chg x s 0).length)))→Same H H'→H l=none→Q (.ref l) H'
theorem ok_kc {f:Addr}{fd:FuncData} (F:Fun K "keep_costs" "keep_costs" sKC f fd) (T:TxD K mg c) (c1:cSB P w K mg base):FnOk P w K mg base CX0 2 f fd ["row","wanted_rows"] (spKC K):=by
 refine F.ok scKC (fun vs H Q E h=>?_) (fun cdv A outer s H vs Q E hr h=>?_)
 ·obtain ⟨u,v,x,s,rfl,_⟩:=h
  rfl
 ·refine hide fun Gz zG=>?_
  obtain ⟨u,v,x,m,rfl,hx,⟨sa,svs,rfl,hs1,hs2⟩,hw,h256,k⟩:=h
  refine zG ?_; clear zG
  have hl:=zAM hs2
  refine ⟨_,zAF (zAQ (zCo (own:=[("wanted",2)]) rfl scKC.nd (zBV (pv 1)) (zAp (by show blkC ["row","wanted_rows","wanted"] (zAH sKC) _ _=true; decide +kernel))
   (fun _ _ _ _ _=>zAR (i:=2) scKC.nd rfl (Or.inl rfl)) (fun _ _ _ _ _=>zBE)
   (fun _ _ _ _ _=>zAS (lenK (K:=K) rfl) rfl T.len zAj (zAA (ec c1 hr zAU (zAA (pv 0) (zAA (pv 2) zAE))) zAE)))),?_⟩
  refine ⟨_,rfl,sa,rfl,⟨_,hs1⟩,fun D hD=>zCG (K:=K) (a:=sa) (xs:=svs) (fun i H'=>H' D=some (.lst (zAt ((m.take i).map fun s=>(chg x s 0).length)))∧Same H H') ⟨zAB,zAJ hD⟩ ?_ ?_ ?_⟩
  ·rintro i H' _ ⟨_,z⟩
   exact z.kt.sqt hs1
  ·rintro i y H' hi ⟨e1,z⟩
   obtain ⟨b,hb,hcb⟩:=zAl hs2 hi
   have il:i < svs.length:=(List.getElem?_eq_some_iff.mp hi).1
   obtain ⟨w1,w2⟩:=hw b (List.mem_of_getElem? hb)
   refine ⟨rfl,yes ⟨_,rfl,_,rfl,u,y,x,b,rfl,mono_row _ _ _ _ z.kt hx,mono_row _ _ _ _ z.kt hcb,w1,w2,fun H2 l ⟨l',acc,e0,h1,h2⟩ z2 nl=>?_⟩⟩
   cases e0
   have hlen:=zAM h2
   refine ⟨l,acc,rfl,.inl (SqL.of h1),_,z2 _ _ e1,small (m:=1000) (by rw [List.length_map,List.length_map,List.length_take]; omega),?_,(z.trans z2).upd hD⟩
   rw [zAB,zAh hb,List.map_append,hlen]
   simp [zAt]
  ·rintro H' ⟨e1,z⟩
   rw [hl,List.take_length] at e1
   exact k H' D e1 z hD
abbrev cKC (P:Program) (w:World) (K:Fg) (mg:MG) (base:Heap):Prop:=Cal P w K mg base CX0 2 "keep_costs" ["row","wanted_rows"] (spKC K)
end
end Sh
set_option maxHeartbeats 2000000
namespace Sh
open PySem PySem.Spec PyProof.Rows L2 ShM
theorem zDi {n j:Nat} (h:j < n):ixN n (j:Int)=some j:=by
 unfold ixN
 rw [if_pos (by omega),if_pos (by omega)]
 simp
theorem natsV_set (l:List Nat) (j x:Nat):(zAt l).set j (V.int (x:Int))=zAt (l.set j x):=by
 unfold zAt
 rw [List.map_set]
theorem for_rev {K:Fg}{a:Addr}{xs:List V}{g:TG}{tb:TS}{D:Ends}{σ:L2.St}{H:Hp} (Pv:Nat→L2.St→Hp→Prop) (h0:Pv 0 σ H) (hl:∀ i σ H,i≤xs.length→Pv i σ H→SqL K H a xs)
  (hs:∀ i x σ H,i < xs.length→xs[xs.length - 1 - i]? = some x→Pv i σ H→g x σ H fun σ2 H2=>tb { D with nx:=Pv (i+1),ct:=Pv (i+1),bk:=D.nx } σ2 H2) (hd:∀ σ H,Pv xs.length σ H→D.nx σ H) :
  ∃ W:Nat→Nat→L2.St→Hp→Prop,(∃ m,W 0 m σ H)∧∀ i m σ H,W i m σ H →
   ((Itv K a xs.length).stop i H∧D.nx σ H)∨((Itv K a xs.length).go i H∧∃ N:L2.St→Hp→Prop,(∀ σ' H',N σ' H'→∃ m',m' < m∧W (i+1) m' σ' H')∧∀ x H',(Itv K a xs.length).yld i H x H'→g x σ H' fun σ2 H2=>tb { D with nx:=N,ct:=N,bk:=D.nx } σ2 H2):=by
 refine ⟨fun i m σ H=>m=xs.length - i∧i≤xs.length∧Pv i σ H,⟨xs.length,by simp,Nat.zero_le _,h0⟩,?_⟩
 rintro i m σ H ⟨rfl,hi,p⟩
 have q:=hl i σ H hi p
 by_cases hlt:i < xs.length
 ·have hlt2:xs.length - 1 - i < xs.length:=by omega
  refine .inr ⟨⟨hlt,xs,xs[xs.length - 1 - i],q,List.getElem?_eq_getElem hlt2⟩,Pv (i+1),fun σ' H' p'=>⟨xs.length - (i+1),by omega,rfl,hlt,p'⟩,fun x H' y=>?_⟩
  obtain ⟨e,y⟩:=y
  subst e
  exact hs i x σ _ hlt (y xs q) p
 ·have e:i=xs.length:=by omega
  subst e
  exact .inl ⟨Nat.le_refl _,hd σ H p⟩
def tab (a b:List Sx01.Bytes):List Sx01.Row→List Sx01.Row→List (List Nat)
 | [],m=>[Sx01.costs a b [] m]
 | r::l,m=>Sx01.costs a b (r::l) m::tab a b l m
theorem zFZ {a b:List Sx01.Bytes}:∀ (l m:List Sx01.Row),(tab a b l m).length=l.length+1
 | [],m=>rfl
 | r::l,m=>by rw [tab,List.length_cons,zFZ l m,List.length_cons]
theorem zEO {a b:List Sx01.Bytes}:∀ (l m:List Sx01.Row) (i:Nat),i≤l.length→(tab a b l m)[i]? = some (Sx01.costs a b (l.drop i) m)
 | [],m,0,_=>rfl
 | [],m,i+1,h=>by simp at h
 | r::l,m,0,_=>rfl
 | r::l,m,i+1,h=>by
  rw [tab,List.getElem?_cons_succ,zEO l m i (by simpa using h)]
  rfl
theorem tab_cons {a b:List Sx01.Bytes} (l m:List Sx01.Row):∃ t,tab a b l m=Sx01.costs a b l m::t:=by
 cases l with
 | nil=>exact ⟨[],rfl⟩
 | cons r l=>exact ⟨_,rfl⟩
section
variable {P:Program}{w:World}{K:Fg}{mg:MG}{base:Heap}{c:Cs}
abbrev sCR:Stmt:=top 21
theorem scCR:FnScope ["keeps","gone","puts","behind","width","costs","j"] ["keeps","gone","puts","behind"] (zAH sCR):=scm
def spCR:Sp:=fun vs H Q _=>∃ (vk vp vb:V) (a b:List Sx01.Bytes) (r:Sx01.Row) (m:List Sx01.Row) (z:List Nat),vs=[vk,.int (Sx01.costGone r:Nat),vp,vb]∧NatsAt H vk (m.map (Sx01.costKeep a b r))∧NatsAt H vp (m.map Sx01.costGone)∧NatsAt H vb z∧z.length=m.length+1∧m.length≤256 ∧
 ∀ H' l,H' l=some (.lst (zAt (Sx01.costs.line a b r z m)))→Same H H'→H l=none→Q (.ref l) H'
theorem ok_cr {f:Addr}{fd:FuncData} (F:Fun K "costs_of_row" "costs_of_row" sCR f fd) (T:TxD K mg c):FnOk P w K mg base CX0 1 f fd ["keeps","gone","puts","behind"] spCR:=by
  refine F.ok scCR (fun vs H Q E h=>?_) (fun cdv A outer s H vs Q E hr h=>?_)
  · obtain ⟨vk,vp,vb,a,b,r,m,z,rfl,_⟩:=h
    rfl
  · refine hide fun Gz zG=>?_
    obtain ⟨vk,vp,vb,a,b,r,m,z,rfl,⟨ka,rfl,hk⟩,⟨pa,rfl,hp⟩,⟨ba,rfl,hb⟩,hz,h256,k⟩:=h
    refine zG ?_; clear zG
    refine ⟨_,zAD (zAN (i:=4) scCR.nd rfl (Or.inl rfl) (zAS zAL rfl T.len zAj (zAA (pv 2) zAE)))
      (zAD (zAN (i:=5) scCR.nd rfl (Or.inl rfl) (zA8 zGM (zA8 op_rep (zAo (zAA zAZ zAE)) (pv 4)) (zAo (zAA (zA8 zBK (pv 1) (zAn zAc (pv 3) (pv 4) (fun _ _=>rfl))) zAE))))
      (zAD (zA6 PassesOwn.never rfl (zE8 rfl T.range (zAA (zA8 zD2 (pv 4) zAZ) (zAA (zFA zCz zAZ) (zAA (zFA zCz zAZ) zAE)))) (zAR (i:=6) scCR.nd rfl (Or.inl rfl))
        (zAF (zE5 (zAS (call_min3 rfl) rfl T.min bt_min (zAA (zA8 zBK (zAn zAc (pv 0) (pv 6) (fun _ _=>rfl)) (zAn zAc (pv 3) (zA8 zBK (pv 6) zAZ) (fun _ _=>rfl)))
          (zAA (zA8 zBK (pv 1) (zAn zAc (pv 3) (pv 6) (fun _ _=>rfl))) (zAA (zA8 zBK (zAn zAc (pv 2) (pv 6) (fun _ _=>rfl)) (zAn zAc (pv 5) (zA8 zBK (pv 6) zAZ) (fun _ _=>rfl))) zAE))))
          (zE9 (pv 5) (pv 6) zCZ))))
      (zAF (zAQ (pv 5))))),?_⟩
    have hw:(zAt (m.map Sx01.costGone)).length=m.length:=by unfold zAt; rw [List.length_map,List.length_map]
    obtain ⟨zw,hzw⟩:∃ x,z[m.length]? = some x:=⟨_,List.getElem?_eq_getElem (by omega)⟩
    refine ⟨_,rfl,pa,_,rfl,.inl (SqL.of hp),?_⟩
    rw [hw]
    refine ⟨(by show 1≤sizeLine; decide),fun l1 hl1=>⟨_,rfl,l1,_,_,rfl,rfl,zAB,by omega,by omega,?_,fun l2 hl2=>?_⟩⟩
    · exact Nat.le_of_lt (small (m:=1000) (by show 1 * ((m.length:Int)).toNat≤1000; omega))
    · have z1:Same H (upd H l1 (.lst [.int 0])):=zAJ hl1
      have z2:=z1.upd (o:=.lst (List.replicate ((m.length:Int)).toNat [V.int 0]).flatten) (z1.free hl2)
      refine ⟨_,rfl,_,rfl,_,rfl,ba,_,_,_,rfl,rfl,SqL.of (z2 _ _ hb),zAO (zA3 hzw),_,_,rfl,rfl,(by show 1≤sizeLine; decide),fun l3 hl3=>?_⟩
      have z3:=z2.upd (o:=.lst [V.int ((Sx01.costGone r:Nat)+(zw:Nat))]) (z2.free hl3)
      have n23:l2≠l3:=fun w=>by rw [←w,zAB] at hl3; cases hl3
      refine ⟨l2,l3,_,_,rfl,rfl,(by rw [zAG n23,zAB]),zAB,?_,fun D hD=>?_⟩
      · rw [len_rep]
        exact Nat.le_of_lt (small (m:=1000) (by show ((m.length:Int)).toNat * 1+1≤1000; omega))
      · have hD0:H D=none:=z3.free hD
        have z4:=z3.upd (o:=.lst ((List.replicate ((m.length:Int)).toNat [V.int 0]).flatten++[V.int ((Sx01.costGone r:Nat)+(zw:Nat))])) hD0
        refine ⟨_,rfl,_,_,rfl,rfl,1,rfl,1,rfl,((m.length:Int) - 1),-1,-1,m.length,rfl,?_,zEC (lo:=(m.length:Int) - 1) (c:=-1) (n:=m.length) (fun t σ H'=>∃ u,σ=[some (.ref ka),some (.int (Sx01.costGone r:Nat)),some (.ref pa),some (.ref ba),some (.int (m.length:Nat)),some (.ref D),u] ∧
          H' D=some (.lst (zAt (List.replicate (m.length - t) 0++Sx01.costs.line a b r (z.drop (m.length - t)) (m.drop (m.length - t)))))∧Same H H') ⟨none,rfl,?_,z4⟩ ?_ ?_⟩
        · have q:=RgC.neg (i:=(m.length:Int) - 1) (j:=-1) (by omega) (by omega) (by omega) (by omega)
          have e:((m.length:Int) - 1 - -1).toNat=m.length:=by omega
          rw [e] at q
          exact q
        · rw [zAB,Nat.sub_zero,List.drop_length,List.drop_eq_getElem_cons (by omega:m.length < z.length),zEk]
          have ez:z[m.length]=zw:=by
            rw [List.getElem?_eq_getElem (by omega)] at hzw
            exact Option.some.inj hzw
          rw [ez]
          have er:(List.replicate ((m.length:Int)).toNat [V.int 0]).flatten=zAt (List.replicate m.length 0):=by
            show (List.replicate m.length [V.int 0]).flatten=_
            unfold zAt
            rw [List.map_replicate]
            induction m.length with
            | zero=>rfl
            | succ n ih=>rw [List.replicate_succ,List.flatten_cons,ih,List.replicate_succ]; rfl
          rw [er]
          unfold zAt
          rw [List.map_append]
          have e2:V.int ((Sx01.costGone r:Nat)+(zw:Nat):Int)=V.int ((zw+Sx01.costGone r:Nat):Int):=by
            congr 1
            omega
          show some (HO.lst (_++[V.int ((Sx01.costGone r:Nat)+(zw:Nat):Int)]))=_
          rw [e2]
          rfl
        · rintro t σ H' ht ⟨u,rfl,e1,z5⟩
          have ej:(m.length:Int) - 1+(t:Nat) * -1=((m.length - 1 - t:Nat):Int):=by omega
          rw [ej]
          generalize hj:m.length - 1 - t=j
          have hjm:j < m.length:=by omega
          have ej1:m.length - t=j+1:=by omega
          rw [ej1] at e1
          obtain ⟨y,k2,ed⟩:∃ y k2,z.drop (j+1)=y::k2:=by
            rw [List.drop_eq_getElem_cons (by omega:j+1 < z.length)]
            exact ⟨_,_,rfl⟩
          have hk2:k2.length=(m.drop (j+1)).length:=by
            have:=congrArg List.length ed
            rw [List.length_drop,List.length_cons] at this
            rw [List.length_drop]
            omega
          have hy:z[j+1]? = some y:=by
            have:(z.drop (j+1))[0]? = some y:=by rw [ed]; rfl
            rw [List.getElem?_drop] at this
            simpa using this
          obtain ⟨zj,hzj⟩:∃ x,z[j]? = some x:=⟨_,List.getElem?_eq_getElem (by omega)⟩
          have edj:z.drop j=zj::y::k2:=by
            rw [List.drop_eq_getElem_cons (by omega:j < z.length),ed]
            rw [List.getElem?_eq_getElem (by omega)] at hzj
            rw [Option.some.inj hzj]
          obtain ⟨s,hs⟩:∃ x,m[j]? = some x:=⟨_,List.getElem?_eq_getElem hjm⟩
          have emj:m.drop j=s::m.drop (j+1):=by
            rw [List.drop_eq_getElem_cons hjm]
            rw [List.getElem?_eq_getElem hjm] at hs
            rw [Option.some.inj hs]
          have hline:=zDJ (a:=a) (b:=b) r (m.drop (j+1)) (y::k2) (by simpa using hk2)
          obtain ⟨v,k3,el,hk3⟩:=zBO hline
          have lc:=zFF (a:=a) (b:=b) r s (m.drop (j+1)) zj y k2 hk2
          rw [ed,el] at e1
          rw [el] at lc
          have g1:(zAt (List.replicate (j+1) 0++v::k3))[j+1]? = some (V.int (v:Int)):=zA3 (by
            rw [List.getElem?_append_right (by rw [List.length_replicate]; omega)]
            simp)
          refine ⟨_,rfl,_,rfl,ka,_,_,_,rfl,rfl,SqL.of (z5 _ _ hk),zAO (zA3 (x:=Sx01.costKeep a b r s) (by rw [List.getElem?_map,hs]; rfl)),?_⟩
          refine ⟨_,rfl,_,rfl,_,_,rfl,rfl,ba,_,((j+1:Nat):Int),_,rfl,?_,SqL.of (z5 _ _ hb),zAO (zA3 hy),_,_,rfl,rfl,?_⟩
          · congr 1
          refine ⟨_,rfl,_,rfl,_,rfl,ba,_,_,_,rfl,rfl,SqL.of (z5 _ _ hb),zAO (zA3 hzj),_,_,rfl,rfl,?_⟩
          refine ⟨_,rfl,_,rfl,pa,_,_,_,rfl,rfl,SqL.of (z5 _ _ hp),zAO (zA3 (x:=Sx01.costGone s) (by rw [List.getElem?_map,hs]; rfl)),?_⟩
          refine ⟨_,rfl,_,rfl,_,_,rfl,rfl,D,_,((j+1:Nat):Int),_,rfl,?_,SqL.of e1,zAO g1,_,_,rfl,rfl,?_⟩
          · congr 1
          refine ⟨_,_,_,rfl,?_⟩
          refine ⟨_,rfl,_,rfl,D,_,_,j,rfl,rfl,e1,zDi ?_,?_⟩
          · unfold zAt
            rw [List.length_map,List.length_append,List.length_replicate]
            omega
          · refine ⟨_,rfl,?_,z5.upd hD0⟩
            have et:m.length - (t+1)=j:=by omega
            rw [zAB,et,edj,emj,lc]
            have ev:V.int (min ((Sx01.costKeep a b r s:Nat)+(y:Nat):Int) (min ((Sx01.costGone r:Nat)+(zj:Nat):Int) ((Sx01.costGone s:Nat)+(v:Nat):Int)))=V.int ((min (y+Sx01.costKeep a b r s) (min (zj+Sx01.costGone r) (v+Sx01.costGone s)):Nat):Int):=by
              congr 1
              omega
            rw [ev,natsV_set]
            congr 3
            rw [List.set_append_left _ _ (by rw [List.length_replicate]; omega),List.replicate_succ',List.set_append_right _ _ (by rw [List.length_replicate]; omega),List.length_replicate]
            simp
        · rintro σ H' ⟨u,rfl,e1,z5⟩
          rw [Nat.sub_self,List.replicate_zero,List.drop_zero,List.drop_zero,List.nil_append] at e1
          exact ⟨_,rfl,k H' D e1 z5 hD0⟩
abbrev cCR (P:Program) (w:World) (K:Fg) (mg:MG) (base:Heap):Prop:=Cal P w K mg base CX0 1 "costs_of_row" ["keeps","gone","puts","behind"] spCR
end
end Sh
set_option maxHeartbeats 2000000
namespace Sh
open PySem PySem.Spec PyProof.Rows L2 ShM
theorem zCe (l m:List Nat):zAt (l++m)=zAt l++zAt m:=List.map_append
theorem natsV_rev (l:List Nat):zAt l.reverse=(zAt l).reverse:=List.map_reverse
theorem pr_rev {α β:Type}{F:α→β→Prop}:∀ {l:List α}{m:List β},Paired F l m→Paired F l.reverse m.reverse
 | _,_,.nil=>.nil
 | _,_,.cons r t=>by
  rw [List.reverse_cons,List.reverse_cons]
  exact zAv (pr_rev t) r
def cutH (H:Hp) (D:Addr):Hp:=fun b=>if b=D then none else H b
theorem zBP (H:Hp) (D:Addr):cutH H D D=none:=by unfold cutH; rw [if_pos rfl]
theorem zBL {H:Hp}{D b:Addr} (h:b≠D):cutH H D b=H b:=by unfold cutH; rw [if_neg h]
theorem zA5 (H:Hp) (D:Addr):Same (cutH H D) H:=fun b o e=>by
 unfold cutH at e
 by_cases h:b=D
 ·rw [if_pos h] at e; cases e
 ·rw [if_neg h] at e; exact e
theorem zDC {Hb H:Hp}{D:Addr} (k:Same Hb H) (h:Hb D=none):Same Hb (cutH H D):=fun b o e=>by
 rw [zBL (zAC e h)]
 exact k b o e
theorem cut_kt {H:Hp}{D:Addr}{xs:List V} (h:H D=some (.lst xs)):KTup H (cutH H D) :=
 ⟨fun b ys e=>by rw [zBL (zBA e h (by intro q; cases q))]; exact e,fun b ob u e=>by rw [zBL (zBA e h (by intro q; cases q))]; exact e⟩
section
variable {P:Program}{w:World}{K:Fg}{mg:MG}{base:Heap}{c:Cs}
abbrev sLC:Stmt:=top 20
theorem scLC:FnScope ["keeps","gones","puts","behind","cost","costs","i"] ["keeps","gones","puts"] (zAH sLC):=scm
def spLC:Sp:=fun vs H Q _=>∃ (vk vg vp:V) (a b:List Sx01.Bytes) (l m:List Sx01.Row),vs=[vk,vg,vp]∧TabAt H vk (l.map fun r=>m.map (Sx01.costKeep a b r))∧NatsAt H vg (l.map Sx01.costGone)∧NatsAt H vp (m.map Sx01.costGone)∧l.length≤256∧m.length≤256 ∧
 ∀ H' v,TabAt H' v (tab a b l m)→Same H H'→Q v H'
theorem ok_lc {f:Addr}{fd:FuncData} (F:Fun K "least_costs" "least_costs" sLC f fd) (T:TxD K mg c) (c1:cCR P w K mg base):FnOk P w K mg base CX0 2 f fd ["keeps","gones","puts"] spLC:=by
  refine F.ok scLC (fun vs H Q E h=>?_) (fun cdv A outer s H vs Q E hr h=>?_)
  · obtain ⟨vk,vg,vp,a,b,l,m,rfl,_⟩:=h
    rfl
  · refine hide fun Gz zG=>?_
    obtain ⟨vk,vg,vp,a,b,l,m,rfl,⟨ka,kvs,rfl,hk,hkp⟩,⟨ga,rfl,hg⟩,⟨pa,rfl,hp⟩,hl256,hm256,k⟩:=h
    refine zG ?_; clear zG
    refine ⟨_,zAD (zAN (i:=3) scLC.nd rfl (Or.inl rfl) (zAo (zAA zAZ zAE)))
      (zAD (zA6 PassesOwn.never rfl (zFi rfl T.rev (zAA (pv 2) zAE)) (zAR (i:=4) scLC.nd rfl (Or.inl rfl))
        (zAF (zAT (zAw PySem.F.plainAttrs_list PySem.F.slot_list_append PySem.F.type_list_append zAW (pv 3) (zAA (zA8 zBK (zAn zAc (pv 3) (zFA zCz zAZ) (fun _ _=>rfl)) (pv 4)) zAE)))))
      (zAD (zAT (pe_bm0 PySem.F.plainAttrs_list PySem.F.slot_list_reverse PySem.F.type_list_reverse zD7 (pv 3)))
      (zAD (zAN (i:=5) scLC.nd rfl (Or.inl rfl) (zAo (zAA (pv 3) zAE)))
      (zAD (zA6 PassesOwn.never rfl (zE8 rfl T.range (zAA (zA8 zD2 (zAS zAL rfl T.len zAj (zAA (pv 1) zAE)) zAZ) (zAA (zFA zCz zAZ) (zAA (zFA zCz zAZ) zAE)))) (zAR (i:=6) scLC.nd rfl (Or.inl rfl))
        (zAF (zAT (zAw PySem.F.plainAttrs_list PySem.F.slot_list_append PySem.F.type_list_append zAW (pv 5) (zAA (ec c1 hr zAU (zAA (zAn zAc (pv 0) (pv 6) (fun _ _=>rfl)) (zAA (zAn zAc (pv 1) (pv 6) (fun _ _=>rfl)) (zAA (pv 2) (zAA (zAn zAc (pv 5) (zFA zCz zAZ) (fun _ _=>rfl)) zAE))))) zAE)))))
      (zAD (zAT (pe_bm0 PySem.F.plainAttrs_list PySem.F.slot_list_reverse PySem.F.type_list_reverse zD7 (pv 5)))
      (zAF (zAQ (pv 5)))))))),?_⟩
    have hw:(zAt (m.map Sx01.costGone)).length=m.length:=by unfold zAt; rw [List.length_map,List.length_map]
    refine ⟨(by show 1≤sizeLine; decide),fun D hD=>?_⟩
    refine ⟨_,rfl,pa,_,rfl,SqL.of (zAJ hD _ _ hp),for_rev (K:=K) (a:=pa) (xs:=zAt (m.map Sx01.costGone)) (fun t σ H'=>∃ u,σ=[some (.ref ka),some (.ref ga),some (.ref pa),some (.ref D),u,none,none] ∧
      H' D=some (.lst (zAt (Sx01.costs a b [] (m.drop (m.length - t))).reverse))∧Same H H') ⟨none,rfl,?_,zAJ hD⟩ ?_ ?_ ?_⟩
    · rw [zAB,Nat.sub_zero,List.drop_length,Sx01.costs]
      rfl
    · rintro t σ H' _ ⟨u,_,_,z⟩
      exact SqL.of (z _ _ hp)
    · rintro t x σ H' ht hx ⟨u,rfl,e1,z⟩
      rw [hw] at ht hx
      obtain ⟨s,hs⟩:∃ x,m[m.length - 1 - t]? = some x:=⟨_,List.getElem?_eq_getElem (by omega)⟩
      rw [zA3 (x:=Sx01.costGone s) (by rw [List.getElem?_map,hs]; rfl)] at hx
      have hx:=Option.some.inj hx
      subst hx
      have em:m.drop (m.length - (t+1))=s::m.drop (m.length - t):=by
        have e0:m.length - (t+1)=m.length - 1 - t:=by omega
        have e2:m.length - 1 - t+1=m.length - t:=by omega
        rw [e0,List.drop_eq_getElem_cons (by omega:m.length - 1 - t < m.length),e2]
        rw [List.getElem?_eq_getElem (by omega)] at hs
        rw [Option.some.inj hs]
      obtain ⟨w0,k0,ew,hk0⟩:=zBO (zBB (a:=a) (b:=b) [] (m.drop (m.length - t)))
      have e1':=e1
      rw [ew,List.reverse_cons,zCe] at e1
      refine ⟨_,rfl,.inl ⟨rfl,_,SqL.of e1⟩,_,rfl,1,rfl,D,_,_,_,rfl,rfl,SqL.of e1,zGp _ _,?_⟩
      refine ⟨_,rfl,_,_,rfl,rfl,D,_,_,rfl,rfl,e1,?_,?_⟩
      · rw [←zCe,←List.reverse_cons]
        refine small (m:=1000) ?_
        unfold zAt
        rw [List.length_map,List.length_reverse,List.length_cons,hk0,List.length_drop]
        omega
      · refine ⟨_,rfl,?_,z.upd hD⟩
        rw [zAB,em,zGj,ew,List.reverse_cons,List.reverse_cons,zCe,zCe]
        rfl
    · rintro σ H1 ⟨u,rfl,e1,z⟩
      rw [hw,Nat.sub_self,List.drop_zero,natsV_rev] at e1
      refine ⟨_,rfl,.inl ⟨rfl,_,SqL.of e1⟩,D,_,rfl,rfl,e1,?_⟩
      rw [List.reverse_reverse]
      have z1:Same H (upd H1 D (.lst (zAt (Sx01.costs a b [] m)))):=z.upd hD
      refine ⟨_,rfl,(by show 1≤sizeLine; decide),fun C hC=>?_⟩
      have hC0:H C=none:=z1.free hC
      have nDC:D≠C:=fun w=>by rw [←w,zAB] at hC; cases hC
      have z2:Same H (upd (upd H1 D (.lst (zAt (Sx01.costs a b [] m)))) C (.lst [.ref D])):=z1.upd hC0
      have hgl:(zAt (l.map Sx01.costGone)).length=l.length:=by unfold zAt; rw [List.length_map,List.length_map]
      refine ⟨_,rfl,ga,_,rfl,.inl (SqL.of (z2 _ _ hg)),_,_,rfl,rfl,1,rfl,1,rfl,((l.length:Int) - 1),-1,-1,l.length,?_,?_,zEC (lo:=(l.length:Int) - 1) (c:=-1) (n:=l.length) (fun t σ H'=>∃ u cvs Hb,σ=[some (.ref ka),some (.ref ga),some (.ref pa),some (.ref D),u.1,some (.ref C),u.2] ∧
          H' C=some (.lst cvs)∧Paired (NatsAt Hb) cvs (tab a b (l.drop (l.length - t)) m).reverse∧Hb C=none∧Same Hb H'∧Same H Hb) ⟨(u,none),_,cutH (upd (upd H1 D (.lst (zAt (Sx01.costs a b [] m)))) C (.lst [.ref D])) C,rfl,zAB,?_,zBP _ _,zA5 _ _,zDC z2 hC0⟩ ?_ ?_⟩
      · rw [hgl]
      · have q:=RgC.neg (i:=(l.length:Int) - 1) (j:=-1) (by omega) (by omega) (by omega) (by omega)
        have e:((l.length:Int) - 1 - -1).toNat=l.length:=by omega
        rw [e] at q
        exact q
      · rw [Nat.sub_zero,List.drop_length]
        refine .cons ⟨D,rfl,?_⟩ .nil
        rw [zBL nDC,zAG nDC,zAB]
      · intro t σ H' ht hI
        refine hide fun Gz zG=>?_
        obtain ⟨u,cvs,Hb,rfl,e2,pp,nb,sb,s0⟩:=hI
        refine zG ?_; clear zG
        have ej:(l.length:Int) - 1+(t:Nat) * -1=((l.length - 1 - t:Nat):Int):=by omega
        rw [ej]
        generalize hi:l.length - 1 - t=i
        have hil:i < l.length:=by omega
        have ei:l.length - t=i+1:=by omega
        have ei2:l.length - (t+1)=i:=by omega
        rw [ei] at pp
        obtain ⟨r,hr'⟩:∃ x,l[i]? = some x:=⟨_,List.getElem?_eq_getElem hil⟩
        have el:l.drop i=r::l.drop (i+1):=by
          rw [List.drop_eq_getElem_cons hil]
          rw [List.getElem?_eq_getElem hil] at hr'
          rw [Option.some.inj hr']
        obtain ⟨tt,ett⟩:=tab_cons (a:=a) (b:=b) (l.drop (i+1)) m
        have zH:Same H H':=s0.trans sb
        have ppl:=zAM pp
        obtain ⟨lv,hlv,la,rfl,hla⟩:∃ lv,cvs[tt.length]? = some lv∧NatsAt Hb lv (Sx01.costs a b (l.drop (i+1)) m):=by
          refine zAm pp ?_
          rw [ett,List.reverse_cons,List.getElem?_append_right (by rw [List.length_reverse]; omega),List.length_reverse,Nat.sub_self]
          rfl
        have hcl:cvs.length=tt.length+1:=by rw [ppl,ett,List.length_reverse,List.length_cons]
        have hlast:atI cvs (-1)=some (.ref la):=by
          unfold atI ixN
          rw [if_neg (by omega),if_pos (by omega)]
          show cvs[((-1:Int)+(cvs.length:Int)).toNat]? = _
          rw [show ((-1:Int)+(cvs.length:Int)).toNat=tt.length by omega]
          exact hlv
        obtain ⟨kv,hkv,kb,rfl,hkb⟩:=zAm hkp (show (l.map fun r=>m.map (Sx01.costKeep a b r))[i]? = some (m.map (Sx01.costKeep a b r)) by rw [List.getElem?_map,hr']; rfl)
        refine ⟨_,rfl,.inl ⟨rfl,_,SqL.of e2⟩,_,rfl,_,rfl,ka,_,_,_,rfl,rfl,SqL.of (zH _ _ hk),zAO hkv,?_⟩
        refine ⟨_,rfl,_,rfl,ga,_,_,_,rfl,rfl,SqL.of (zH _ _ hg),zAO (zA3 (x:=Sx01.costGone r) (by rw [List.getElem?_map,hr']; rfl)),?_⟩
        refine ⟨_,rfl,_,rfl,1,rfl,C,_,_,_,rfl,rfl,SqL.of e2,hlast,?_⟩
        refine ⟨.ref kb,.ref pa,.ref la,a,b,r,m,Sx01.costs a b (l.drop (i+1)) m,rfl,⟨kb,rfl,zH _ _ hkb⟩,⟨pa,rfl,zH _ _ hp⟩,⟨la,rfl,sb _ _ hla⟩,zBB _ _,hm256,fun H3 q e3 z3 nq=>?_⟩
        refine ⟨C,cvs,_,rfl,rfl,z3 _ _ e2,small (m:=1000) (by
          have:=zFZ (a:=a) (b:=b) (l.drop (i+1)) m
          rw [ett,List.length_cons,List.length_drop] at this
          omega),(u.1,some (.int ((i:Nat):Int))),_,cutH (upd H3 C (.lst (cvs++[.ref q]))) C,rfl,zAB,?_,zBP _ _,zA5 _ _,?_⟩
        · rw [ei2,el,tab,List.reverse_cons,←el]
          have sbb:Same Hb (cutH (upd H3 C (.lst (cvs++[.ref q]))) C):=zDC (fun b' o e=>by rw [zAG (zAC e nb)]; exact z3 _ _ (sb _ _ e)) nb
          refine zAv (zAr (fun v x z=>z.same sbb) pp) ⟨q,rfl,?_⟩
          have nq2:q≠C:=fun w=>by rw [w,e2] at nq; cases nq
          rw [zBL nq2,zAG nq2,e3,el,Sx01.costs]
        · exact zDC (fun b' o e=>by rw [zAG (zAC e hC0)]; exact z3 _ _ (zH _ _ e)) hC0
      · intro σ H' hI
        refine hide fun Gz zG=>?_
        obtain ⟨u,cvs,Hb,rfl,e2,pp,nb,sb,s0⟩:=hI
        refine zG ?_; clear zG
        rw [Nat.sub_self,List.drop_zero] at pp
        refine ⟨_,rfl,.inl ⟨rfl,_,SqL.of e2⟩,C,_,rfl,rfl,e2,?_⟩
        refine ⟨_,rfl,?_⟩
        have pp2:=pr_rev pp
        rw [List.reverse_reverse] at pp2
        have sb2:Same Hb (upd H' C (.lst cvs.reverse)):=fun b' o e=>by rw [zAG (zAC e nb)]; exact sb _ _ e
        exact k _ _ ⟨C,_,rfl,zAB,zAr (fun v x z=>z.same sb2) pp2⟩ (s0.trans sb2)
abbrev cLC (P:Program) (w:World) (K:Fg) (mg:MG) (base:Heap):Prop:=Cal P w K mg base CX0 2 "least_costs" ["keeps","gones","puts"] spLC
abbrev sFK:Stmt:=top 22
theorem scFK:FnScope ["costs","keeps","gones","kinds","height","width","i","j"] ["costs","keeps","gones"] (zAH sFK):=scm
def spFK:Sp:=fun vs H Q _=>∃ (vc vk vg:V) (a b:List Sx01.Bytes) (l m:List Sx01.Row),vs=[vc,vk,vg]∧TabAt H vc (tab a b l m)∧TabAt H vk (l.map fun r=>m.map (Sx01.costKeep a b r))∧NatsAt H vg (l.map Sx01.costGone)∧l.length≤256∧m.length≤256 ∧
 ∀ H' q,H' q=some (.lst (((Sx01.steps a b l m).map ShM.kindOf).map V.int))→Same H H'→H q=none→Q (.ref q) H'
theorem TabAt.row {H:Hp}{a:Addr}{vs:List V}{t:List (List Nat)} (p:Paired (NatsAt H) vs t) {i:Nat}{r:List Nat} (h:t[i]? = some r):∃ la,vs[i]? = some (.ref la)∧H la=some (.lst (zAt r)):=by
 obtain ⟨v,hv,la,rfl,hla⟩:=zAm p h
 exact ⟨la,hv,hla⟩
theorem ok_fk {f:Addr}{fd:FuncData} (F:Fun K "first_kinds" "first_kinds" sFK f fd) (T:TxD K mg c):FnOk P w K mg base CX0 1 f fd ["costs","keeps","gones"] spFK:=by
  refine F.ok scFK (fun vs H Q E h=>?_) (fun cdv A outer s H vs Q E hr h=>?_)
  · obtain ⟨vc,vk,vg,a,b,l,m,rfl,_⟩:=h
    rfl
  · refine hide fun Gz zG=>?_
    obtain ⟨vc,vk,vg,a,b,l,m,rfl,⟨ca,cvs,rfl,hc,hcp⟩,⟨ka,kvs,rfl,hk,hkp⟩,⟨ga,rfl,hg⟩,hl256,hm256,k⟩:=h
    refine zG ?_; clear zG
    have cl:=zAM hcp
    rw [zFZ] at cl
    refine ⟨_,zAD (zAN (i:=3) scFK.nd rfl (Or.inl rfl) (zAo zAE))
      (zAD (zAN (i:=4) scFK.nd rfl (Or.inl rfl) (zA8 zD2 (zAS zAL rfl T.len zAj (zAA (pv 0) zAE)) zAZ))
      (zAD (zAN (i:=5) scFK.nd rfl (Or.inl rfl) (zA8 zD2 (zAS zAL rfl T.len zAj (zAA (zAn zAc (pv 0) zAZ (fun _ _=>rfl)) zAE)) zAZ))
      (zAD (zAN (i:=6) scFK.nd rfl (Or.inl rfl) zAZ)
      (zAD (zAN (i:=7) scFK.nd rfl (Or.inl rfl) zAZ)
      (zAD (zGD PassesOwn.never (PW.pt (zG1 (zAX zFD (pv 6) (pv 4) (zAb _)) (zD0 (zAX zFD (pv 7) (pv 5) (zAb _)))))
        (zAF (zAk (PW.pt (zC4 (zAX zFD (pv 6) (pv 4) (zAb _)) (zC4 (zAX zFD (pv 7) (pv 5) (zAb _)) (zCL (zAX zBn (zAn zAc (zAn zAc (pv 0) (pv 6) (fun _ _=>rfl)) (pv 7) (fun _ _=>rfl))
            (zA8 zBK (zAn zAc (zAn zAc (pv 1) (pv 6) (fun _ _=>rfl)) (pv 7) (fun _ _=>rfl)) (zAn zAc (zAn zAc (pv 0) (zA8 zBK (pv 6) zAZ) (fun _ _=>rfl)) (zA8 zBK (pv 7) zAZ) (fun _ _=>rfl))) (zAb _))))))
          (zAD (zAT (zAw PySem.F.plainAttrs_list PySem.F.slot_list_append PySem.F.type_list_append zAW (pv 3) (zAA (eg T.keep) zAE))) (zAD (zC6 (i:=6) scFK.nd rfl (Or.inl rfl) zAZ zDA) (zAF (zC6 (i:=7) scFK.nd rfl (Or.inl rfl) zAZ zDA))))
          (zAF (zAk (PW.pt (zC4 (zAX zFD (pv 6) (pv 4) (zAb _)) (zCL (zAX zBn (zAn zAc (zAn zAc (pv 0) (pv 6) (fun _ _=>rfl)) (pv 7) (fun _ _=>rfl))
              (zA8 zBK (zAn zAc (pv 2) (pv 6) (fun _ _=>rfl)) (zAn zAc (zAn zAc (pv 0) (zA8 zBK (pv 6) zAZ) (fun _ _=>rfl)) (pv 7) (fun _ _=>rfl))) (zAb _)))))
            (zAD (zAT (zAw PySem.F.plainAttrs_list PySem.F.slot_list_append PySem.F.type_list_append zAW (pv 3) (zAA (eg T.gone) zAE))) (zAF (zC6 (i:=6) scFK.nd rfl (Or.inl rfl) zAZ zDA)))
            (zAD (zAT (zAw PySem.F.plainAttrs_list PySem.F.slot_list_append PySem.F.type_list_append zAW (pv 3) (zAA (eg T.put) zAE))) (zAF (zC6 (i:=7) scFK.nd rfl (Or.inl rfl) zAZ zDA))))))))
      (zAF (zAQ (pv 3)))))))),?_⟩
    refine ⟨Nat.zero_le _,fun D hD=>?_⟩
    have z0:Same H (upd H D (.lst [])):=zAJ hD
    refine ⟨_,rfl,ca,_,rfl,.inl (SqL.of (z0 _ _ hc)),_,_,rfl,rfl,?_⟩
    obtain ⟨c0,hc0,hc0'⟩:=TabAt.row (a:=ca) hcp (zEO (a:=a) (b:=b) l m 0 (Nat.zero_le _))
    refine ⟨_,rfl,ca,_,_,_,rfl,rfl,SqL.of (z0 _ _ hc),zAO (j:=0) hc0,c0,_,rfl,.inl (SqL.of (z0 _ _ hc0')),_,_,rfl,rfl,?_⟩
    have eh:((cvs.length:Nat):Int) - 1=(l.length:Int):=by omega
    have ew:(((zAt (Sx01.costs a b (List.drop 0 l) m)).length:Nat):Int) - 1=(m.length:Int):=by
      unfold zAt
      rw [List.length_map,zBB]
      omega
    have lim:=zBH (a:=a) (b:=b) _ l m rfl
    have cell:∀ i j,i≤l.length→j≤m.length→∃ la,cvs[i]? = some (.ref la)∧H la=some (.lst (zAt (Sx01.costs a b (l.drop i) m)))∧(zAt (Sx01.costs a b (l.drop i) m))[j]? = some (V.int (Sx01.cost a b (l.drop i) (m.drop j):Nat)):=fun i j hi hj=>by
      obtain ⟨la,g1,g2⟩:=TabAt.row (a:=ca) hcp (zEO (a:=a) (b:=b) l m i hi)
      exact ⟨la,g1,g2,zA3 (zFO hj)⟩
    refine ⟨fun ms σ H'=>∃ i j ks,ms=(l.length - i)+(m.length - j)∧i≤l.length∧j≤m.length∧σ=[some (.ref ca),some (.ref ka),some (.ref ga),some (.ref D),some (.int (l.length:Nat)),some (.int (m.length:Nat)),some (.int (i:Nat)),some (.int (j:Nat))] ∧
      H' D=some (.lst ((ks:List Int).map V.int))∧ks++(Sx01.steps a b (l.drop i) (m.drop j)).map ShM.kindOf=(Sx01.steps a b l m).map ShM.kindOf∧Same H H',⟨_,0,0,[],rfl,Nat.zero_le _,Nat.zero_le _,(by
        show ([some (.ref ca),some (.ref ka),some (.ref ga),some (.ref D),some (.int (((cvs.length:Nat):Int) - 1)),some (.int ((((zAt (Sx01.costs a b (List.drop 0 l) m)).length:Nat):Int) - 1)),some (.int 0),some (.int 0)]:L2.St)=_
        rw [eh,ew]
        rfl),zAB,rfl,z0⟩,?_⟩
    intro ms σ H' hI
    refine hide fun Gz zG=>?_
    obtain ⟨i,j,ks,rfl,hi,hj,rfl,e1,ek,z⟩:=hI
    refine zG ?_; clear zG
    have kl:ks.length≤512:=by
      have:=congrArg List.length ek
      rw [List.length_append,List.length_map,List.length_map] at this
      omega
    have put_step:∀ (kd:Int) (i2 j2:Nat),i2≤l.length→j2≤m.length→(l.length - i2)+(m.length - j2) < (l.length - i)+(m.length - j)→(Sx01.steps a b (l.drop i) (m.drop j)).map ShM.kindOf=kd::(Sx01.steps a b (l.drop i2) (m.drop j2)).map ShM.kindOf →
        ∃ m',m' < (l.length - i)+(m.length - j)∧∃ i' j' ks',m' = (l.length - i')+(m.length - j')∧i'≤l.length∧j'≤m.length∧([some (.ref ca),some (.ref ka),some (.ref ga),some (.ref D),some (.int (l.length:Nat)),some (.int (m.length:Nat)),some (.int (i2:Nat)),some (.int (j2:Nat))]:L2.St)=[some (.ref ca),some (.ref ka),some (.ref ga),some (.ref D),some (.int (l.length:Nat)),some (.int (m.length:Nat)),some (.int (i':Nat)),some (.int (j':Nat))] ∧
          upd H' D (.lst (ks.map V.int++[.int kd])) D=some (.lst ((ks':List Int).map V.int))∧ks'++(Sx01.steps a b (l.drop i') (m.drop j')).map ShM.kindOf=(Sx01.steps a b l m).map ShM.kindOf∧Same H (upd H' D (.lst (ks.map V.int++[.int kd]))):=by
      intro kd i2 j2 h1 h2 h3 h4
      refine ⟨_,h3,i2,j2,ks++[kd],rfl,h1,h2,rfl,by rw [zAB,List.map_append]; rfl,?_,z.upd hD⟩
      rw [List.append_assoc,List.singleton_append,←h4]
      exact ek
    have app:∀ {R:Prop},R→(ks.map V.int).length < sizeLine∧R:=fun r=>⟨small (m:=1000) (by rw [List.length_map]; omega),r⟩
    have szk:(ks.map V.int).length < sizeLine:=small (m:=1000) (by rw [List.length_map]; omega)
    refine ⟨_,rfl,_,rfl,_,_,rfl,rfl,_,rfl,?_⟩
    by_cases hi2:i < l.length
    · rw [decide_eq_true (show (i:Int) < (l.length:Int) by omega)]
      refine iteT (iteT ⟨_,fun σ' H' h=>h,?_⟩)
      obtain ⟨r,hr',er⟩:∃ r,l[i]? = some r∧l.drop i=r::l.drop (i+1):=⟨_,List.getElem?_eq_getElem hi2,List.drop_eq_getElem_cons hi2⟩
      obtain ⟨la,g1,g2,g3⟩:=cell i j hi hj
      refine ⟨_,rfl,_,rfl,_,_,rfl,rfl,_,rfl,?_⟩
      rw [decide_eq_true (show (i:Int) < (l.length:Int) by omega)]
      refine iteT ⟨_,rfl,_,rfl,_,_,rfl,rfl,_,rfl,?_⟩
      by_cases hj2:j < m.length
      · rw [decide_eq_true (show (j:Int) < (m.length:Int) by omega)]
        obtain ⟨q,hq',eq⟩:∃ q,m[j]? = some q∧m.drop j=q::m.drop (j+1):=⟨_,List.getElem?_eq_getElem hj2,List.drop_eq_getElem_cons hj2⟩
        obtain ⟨kb,f1,f2⟩:=TabAt.row (a:=ka) hkp (i:=i) (r:=m.map (Sx01.costKeep a b r)) (by rw [List.getElem?_map,hr']; rfl)
        obtain ⟨lb,b1,b2,b3⟩:=cell (i+1) (j+1) hi2 hj2
        obtain ⟨lc,d1,d2,d3⟩:=cell (i+1) j hi2 hj
        refine iteT ⟨_,rfl,_,rfl,ca,_,_,_,rfl,rfl,SqL.of (z _ _ hc),zAO g1,_,rfl,la,_,_,_,rfl,rfl,SqL.of (z _ _ g2),zAO g3,?_⟩
        refine ⟨_,rfl,_,rfl,ka,_,_,_,rfl,rfl,SqL.of (z _ _ hk),zAO f1,_,rfl,kb,_,_,_,rfl,rfl,SqL.of (z _ _ f2),zAO (zA3 (x:=Sx01.costKeep a b r q) (by rw [List.getElem?_map,hq']; rfl)),?_⟩
        refine ⟨_,rfl,_,rfl,_,_,rfl,rfl,ca,_,((i+1:Nat):Int),_,rfl,rfl,SqL.of (z _ _ hc),zAO b1,?_⟩
        refine ⟨_,rfl,_,_,rfl,rfl,lb,_,((j+1:Nat):Int),_,rfl,rfl,SqL.of (z _ _ b2),zAO b3,_,_,rfl,rfl,rfl,_,rfl,?_⟩
        rw [er,eq]
        by_cases h1:Sx01.costKeep a b r q+Sx01.cost a b (l.drop (i+1)) (m.drop (j+1))=Sx01.cost a b (r::l.drop (i+1)) (q::m.drop (j+1))
        · rw [decide_eq_true (by congr 1; omega)]
          refine iteT ⟨_,rfl,.inl ⟨rfl,_,SqL.of e1⟩,D,_,_,rfl,rfl,e1,szk,?_⟩
          refine ⟨_,rfl,_,_,rfl,rfl,_,rfl,_,_,rfl,rfl,?_⟩
          exact put_step 0 (i+1) (j+1) hi2 hj2 (by omega) (by rw [er,eq,zFb h1]; rfl)
        · rw [decide_eq_false (fun e=>h1 (by have:=V.int.inj e; omega))]
          refine iteF ⟨_,rfl,_,rfl,_,_,rfl,rfl,_,rfl,?_⟩
          rw [decide_eq_true (show (i:Int) < (l.length:Int) by omega)]
          refine iteT ⟨_,rfl,_,rfl,ca,_,_,_,rfl,rfl,SqL.of (z _ _ hc),zAO g1,_,rfl,la,_,_,_,rfl,rfl,SqL.of (z _ _ g2),zAO g3,?_⟩
          refine ⟨_,rfl,_,rfl,ga,_,_,_,rfl,rfl,SqL.of (z _ _ hg),zAO (zA3 (x:=Sx01.costGone r) (by rw [List.getElem?_map,hr']; rfl)),?_⟩
          refine ⟨_,rfl,_,rfl,_,_,rfl,rfl,ca,_,((i+1:Nat):Int),_,rfl,rfl,SqL.of (z _ _ hc),zAO d1,_,rfl,lc,_,_,_,rfl,rfl,SqL.of (z _ _ d2),zAO d3,_,_,rfl,rfl,rfl,_,rfl,?_⟩
          rw [er,eq]
          by_cases h2:Sx01.costGone r+Sx01.cost a b (l.drop (i+1)) (q::m.drop (j+1))=Sx01.cost a b (r::l.drop (i+1)) (q::m.drop (j+1))
          · rw [decide_eq_true (by congr 1; omega)]
            refine iteT ⟨_,rfl,.inl ⟨rfl,_,SqL.of e1⟩,D,_,_,rfl,rfl,e1,szk,?_⟩
            refine ⟨_,rfl,_,_,rfl,rfl,?_⟩
            exact put_step 1 (i+1) j hi2 hj (by omega) (by rw [er,eq,zFc h1 h2]; rfl)
          · rw [decide_eq_false (fun e=>h2 (by have:=V.int.inj e; omega))]
            refine iteF ⟨_,rfl,.inl ⟨rfl,_,SqL.of e1⟩,D,_,_,rfl,rfl,e1,szk,?_⟩
            refine ⟨_,rfl,_,_,rfl,rfl,?_⟩
            exact put_step 2 i (j+1) hi hj2 (by omega) (by rw [er,eq,zFa h1 h2]; rfl)
      · rw [decide_eq_false (show ¬ (j:Int) < (m.length:Int) by omega)]
        have ejm:j=m.length:=by omega
        obtain ⟨lc,d1,d2,d3⟩:=cell (i+1) j hi2 hj
        have em:m.drop j=[]:=by rw [ejm,List.drop_length]
        refine iteF (iteF ⟨_,rfl,_,rfl,_,_,rfl,rfl,_,rfl,?_⟩)
        rw [decide_eq_true (show (i:Int) < (l.length:Int) by omega)]
        refine iteT ⟨_,rfl,_,rfl,ca,_,_,_,rfl,rfl,SqL.of (z _ _ hc),zAO g1,_,rfl,la,_,_,_,rfl,rfl,SqL.of (z _ _ g2),zAO g3,?_⟩
        refine ⟨_,rfl,_,rfl,ga,_,_,_,rfl,rfl,SqL.of (z _ _ hg),zAO (zA3 (x:=Sx01.costGone r) (by rw [List.getElem?_map,hr']; rfl)),?_⟩
        refine ⟨_,rfl,_,rfl,_,_,rfl,rfl,ca,_,((i+1:Nat):Int),_,rfl,rfl,SqL.of (z _ _ hc),zAO d1,_,rfl,lc,_,_,_,rfl,rfl,SqL.of (z _ _ d2),zAO d3,_,_,rfl,rfl,rfl,_,rfl,?_⟩
        rw [er,em]
        rw [decide_eq_true (by rw [cost_rn]; congr 1; omega)]
        refine iteT ⟨_,rfl,.inl ⟨rfl,_,SqL.of e1⟩,D,_,_,rfl,rfl,e1,szk,?_⟩
        refine ⟨_,rfl,_,_,rfl,rfl,?_⟩
        exact put_step 1 (i+1) j hi2 hj (by omega) (by rw [er,em,zER]; rfl)
    · rw [decide_eq_false (show ¬ (i:Int) < (l.length:Int) by omega)]
      have eil:i=l.length:=by omega
      have el:l.drop i=[]:=by rw [eil,List.drop_length]
      refine iteF ⟨_,rfl,_,rfl,_,_,rfl,rfl,_,rfl,?_⟩
      by_cases hj2:j < m.length
      · rw [decide_eq_true (show (j:Int) < (m.length:Int) by omega)]
        obtain ⟨q,hq',eq⟩:∃ q,m[j]? = some q∧m.drop j=q::m.drop (j+1):=⟨_,List.getElem?_eq_getElem hj2,List.drop_eq_getElem_cons hj2⟩
        refine iteT ⟨_,fun σ' H' h=>h,?_⟩
        refine ⟨_,rfl,_,rfl,_,_,rfl,rfl,_,rfl,?_⟩
        rw [decide_eq_false (show ¬ (i:Int) < (l.length:Int) by omega)]
        refine iteF (iteF ⟨_,rfl,_,rfl,_,_,rfl,rfl,_,rfl,?_⟩)
        rw [decide_eq_false (show ¬ (i:Int) < (l.length:Int) by omega)]
        refine iteF (iteF ⟨_,rfl,.inl ⟨rfl,_,SqL.of e1⟩,D,_,_,rfl,rfl,e1,szk,?_⟩)
        refine ⟨_,rfl,_,_,rfl,rfl,?_⟩
        exact put_step 2 i (j+1) hi hj2 (by omega) (by rw [el,eq,zES]; rfl)
      · rw [decide_eq_false (show ¬ (j:Int) < (m.length:Int) by omega)]
        have ejm:j=m.length:=by omega
        have em:m.drop j=[]:=by rw [ejm,List.drop_length]
        rw [el,em,zCB] at ek
        refine iteF ⟨_,rfl,?_⟩
        refine k H' D ?_ z hD
        rw [e1,←ek]
        simp
end
end Sh
set_option maxHeartbeats 2000000
namespace Sh
open PySem PySem.Spec PyProof.Rows L2 ShM
section
variable {P:Program}{w:World}{K:Fg}{mg:MG}{base:Heap}{c:Cs}
abbrev sSK:Stmt:=top 23
theorem scSK:FnScope ["kinds","seen","wanted","steps","i","j","kind"] ["kinds","seen","wanted"] (zAH sSK):=scm
def spSK (K:Fg):Sp:=fun vs H Q _=>∃ (ka:Addr) (sv wv:V) (a b:List Sx01.Bytes) (l m:List Sx01.Row),vs=[.ref ka,sv,wv]∧H ka=some (.lst (((Sx01.steps a b l m).map ShM.kindOf).map V.int))∧LstOf (zAy K) H sv (l.map (Sx01.carried a b))∧zDF K H wv m ∧
 (∀ s∈m,s.length=b.length)∧b.length≤64∧l.length≤256∧m.length≤256∧∀ H' q,LstOf (IsStepL K) H' (.ref q) (Sx01.steps a b l m)→Same H H'→H q=none→Q (.ref q) H'
theorem ok_sk {f:Addr}{fd:FuncData} (F:Fun K "steps_of_kinds" "steps_of_kinds" sSK f fd) (T:TxD K mg c) (c1:cSB P w K mg base):FnOk P w K mg base CX0 2 f fd ["kinds","seen","wanted"] (spSK K):=by
  refine F.ok scSK (fun vs H Q E h=>?_) (fun cdv A outer s H vs Q E hr h=>?_)
  · obtain ⟨ka,sv,wv,a,b,l,m,rfl,_⟩:=h
    rfl
  · refine hide fun Gz zG=>?_
    obtain ⟨ka,sv,wv,a,b,l,m,rfl,hk,⟨sa,svs,rfl,hs1,hs2⟩,⟨wa,wvs,rfl,hw1,hw2⟩,hwid,hb64,hl256,hm256,k⟩:=h
    refine zG ?_; clear zG
    have lim:=zBH (a:=a) (b:=b) _ l m rfl
    refine ⟨_,zAD (zAN (i:=3) scSK.nd rfl (Or.inl rfl) (zAo zAE)) (zAD (zAN (i:=4) scSK.nd rfl (Or.inl rfl) zAZ) (zAD (zAN (i:=5) scSK.nd rfl (Or.inl rfl) zAZ)
      (zAD (zA6 PassesOwn.never rfl (zBi (pv 0)) (zAR (i:=6) scSK.nd rfl (Or.inl rfl))
        (zAD (zAk (zAX zBn (pv 6) (eg T.keep) (zAb _))
            (zAF (zAT (zAw PySem.F.plainAttrs_list PySem.F.slot_list_append PySem.F.type_list_append zAW (pv 3) (zAA (zBg (zAA (eg T.keep) (zAA (ec c1 hr zAU (zAA (zAn zAc (pv 1) (pv 4) (fun _ _=>rfl)) (zAA (zAn zBW (pv 2) (pv 5) (fun _ _=>rfl)) zAE))) zAE))) zAE))))
            (zAF (zAk (zAX zBn (pv 6) (eg T.gone) (zAb _))
              (zAF (zAT (zAw PySem.F.plainAttrs_list PySem.F.slot_list_append PySem.F.type_list_append zAW (pv 3) (zAA (zBg (zAA (eg T.gone) (zAA (zBg zAE) zAE))) zAE))))
              (zAF (zAT (zAw PySem.F.plainAttrs_list PySem.F.slot_list_append PySem.F.type_list_append zAW (pv 3) (zAA (zBg (zAA (eg T.put) (zAA (zAn zBW (pv 2) (pv 5) (fun _ _=>rfl)) zAE))) zAE)))))))
        (zAD (zAk (zAX op_ne (pv 6) (eg T.put) (zAb _)) (zAF (zC6 (i:=4) scSK.nd rfl (Or.inl rfl) zAZ zDA)) zAY)
        (zAF (zAk (zAX op_ne (pv 6) (eg T.gone) (zAb _)) (zAF (zC6 (i:=5) scSK.nd rfl (Or.inl rfl) zAZ zDA)) zAY)))))
      (zAF (zAQ (pv 3)))))),?_⟩
    refine ⟨Nat.zero_le _,fun D hD=>?_⟩
    have z0:Same H (upd H D (.lst [])):=zAJ hD
    refine ⟨_,rfl,ka,rfl,⟨_,SqL.of (z0 _ _ hk)⟩,zBw (K:=K) (a:=ka) (xs:=((Sx01.steps a b l m).map ShM.kindOf).map V.int) (fun t σ H'=>∃ io jo u done acc Hb,σ=[some (.ref ka),some (.ref sa),some (.ref wa),some (.ref D),some (.int ((io:Nat):Int)),some (.int ((jo:Nat):Int)),u]∧io≤l.length∧jo≤m.length ∧
      Sx01.steps a b l m=done++Sx01.steps a b (l.drop io) (m.drop jo)∧done.length=t∧H' D=some (.lst acc)∧Paired (IsStepL K Hb) acc done∧Hb D=none∧Same Hb H'∧Same H Hb)
      ⟨0,0,none,[],[],H,rfl,Nat.zero_le _,Nat.zero_le _,rfl,rfl,zAB,.nil,hD,z0,Same.refl H⟩ ?_ ?_ ?_⟩
    · rintro t σ H' _ ⟨io,jo,u,done,acc,Hb,_,_,_,_,_,_,_,_,sb,s0⟩
      exact SqL.of (sb _ _ (s0 _ _ hk))
    · intro t x σ H' hx hI
      refine hide fun Gz zG=>?_
      obtain ⟨io,jo,u,done,acc,Hb,rfl,hio,hjo,est,hdl,e1,pp,nb,sb,s0⟩:=hI
      refine zG ?_; clear zG
      have zH:Same H H':=s0.trans sb
      have al:=zAM pp
      have hx2:((Sx01.steps a b l m).map ShM.kindOf)[t]? = (Sx01.steps a b (l.drop io) (m.drop jo))[0]?.map ShM.kindOf:=by
        rw [est,List.getElem?_map,List.getElem?_append_right (by omega),hdl,Nat.sub_self]
      rw [List.getElem?_map,hx2] at hx
      have fin:∀ (st:Sx01.Step) (H4:Hp) (ct:V) (t0:Addr),Same H' H4→H4 t0=none→(match st with
          | .keep q=>LstOf (zCV K) (cutH H4 D) ct q
          | .gone=>True
          | .put r=>zAy K H4 ct r)→upd (upd H4 t0 (.tup [.int (ShM.kindOf st),ct])) D (.lst (acc++[.ref t0])) D=some (.lst (acc++[.ref t0]))∧∃ Hb',Paired (IsStepL K Hb') (acc++[.ref t0]) (done++[st])∧Hb' D=none∧Same Hb' (upd (upd H4 t0 (.tup [.int (ShM.kindOf st),ct])) D (.lst (acc++[.ref t0])))∧Same H Hb':=by
        intro st H4 ct t0 z4 h0 hct
        have e4:H4 D=some (.lst acc):=z4 _ _ e1
        have nD:D≠t0:=zAC e4 h0
        refine ⟨zAB,cutH (upd (upd H4 t0 (.tup [.int (ShM.kindOf st),ct])) D (.lst (acc++[.ref t0]))) D,?_,zBP _ _,zA5 _ _,?_⟩
        · have s1:Same Hb (cutH (upd (upd H4 t0 (.tup [.int (ShM.kindOf st),ct])) D (.lst (acc++[.ref t0]))) D):=zDC (fun b' o e=>by
            rw [zAG (zAC e nb),zAG (zAC (z4 _ _ (sb _ _ e)) h0)]
            exact z4 _ _ (sb _ _ e)) nb
          have s2:Same (cutH H4 D) (cutH (upd (upd H4 t0 (.tup [.int (ShM.kindOf st),ct])) D (.lst (acc++[.ref t0]))) D):=zDC (fun b' o e=>by
            have e':=zA5 _ _ _ _ e
            rw [zAG (zAC e (zBP _ _)),zAG (zAC e' h0)]
            exact e') (zBP _ _)
          refine zAv (zAr (fun v x z=>z.same s1) pp) ⟨t0,ct,rfl,SqT.of ?_,?_⟩
          · rw [zBL nD.symm,zAG nD.symm,zAB]
          · cases st with
            | keep q=>exact LstOf.same mono_set hct s2
            | gone=>trivial
            | put r=>exact mono_row _ _ _ _ ((cut_kt e4).trans s2.kt) hct
        · exact zDC (fun b' o e=>by
            rw [zAG (zAC e hD),zAG (zAC (z4 _ _ (zH _ _ e)) h0)]
            exact z4 _ _ (zH _ _ e)) hD
      have sz:acc.length < sizeLine:=small (m:=1000) (by
        have:=congrArg List.length est
        rw [List.length_append] at this
        omega)
      rcases zBa (a:=a) (b:=b) (l.drop io) (m.drop jo) with ⟨_,_,e⟩ | ⟨q,m',em,e⟩ | ⟨r,l',el,e⟩ | ⟨r,l',q,m',el,em,e⟩
      · rw [e] at hx
        cases hx
      · -- put
        rw [e] at hx est
        have hx:=Option.some.inj hx
        subst hx
        have hjl:jo < m.length:=by
          have:=congrArg List.length em
          rw [List.length_drop,List.length_cons] at this
          omega
        rw [List.drop_eq_getElem_cons hjl] at em
        obtain ⟨e2,e3⟩:=List.cons.inj em
        subst e2 e3
        obtain ⟨wq,g1,g2⟩:=zAm hw2 (List.getElem?_eq_getElem hjl)
        refine ⟨_,rfl,rfl,_,rfl,iteF ?_⟩
        refine ⟨_,rfl,rfl,_,rfl,iteF ?_⟩
        refine ⟨_,rfl,.inl ⟨rfl,_,SqL.of e1⟩,_,rfl,_,rfl,wa,_,_,_,rfl,rfl,zH.kt.sqt hw1,zAO g1,(by show 2≤sizeLine; decide),fun t0 h0=>?_⟩
        obtain ⟨f1,Hb',f2,f3,f4,f5⟩:=fin (.put m[jo]) H' wq t0 (Same.refl _) h0 (mono_row _ _ _ _ zH.kt g2)
        have nD:D≠t0:=zAC e1 h0
        refine ⟨D,acc,_,rfl,rfl,(by rw [zAG nD]; exact e1),sz,?_⟩
        refine ⟨_,rfl,rfl,_,rfl,iteF ?_⟩
        refine ⟨_,rfl,rfl,_,rfl,iteT ⟨_,rfl,_,_,rfl,rfl,?_⟩⟩
        exact ⟨io,jo+1,_,done++[.put m[jo]],_,Hb',rfl,hio,hjl,by rw [est,List.append_assoc]; rfl,by rw [List.length_append,hdl]; rfl,f1,f2,f3,f4,f5⟩
      · -- gone
        rw [e] at hx est
        have hx:=Option.some.inj hx
        subst hx
        have hil:io < l.length:=by
          have:=congrArg List.length el
          rw [List.length_drop,List.length_cons] at this
          omega
        rw [List.drop_eq_getElem_cons hil] at el
        obtain ⟨e2,e3⟩:=List.cons.inj el
        subst e2 e3
        refine ⟨_,rfl,rfl,_,rfl,iteF ?_⟩
        refine ⟨_,rfl,rfl,_,rfl,iteT ?_⟩
        refine ⟨_,rfl,.inl ⟨rfl,_,SqL.of e1⟩,Nat.zero_le _,fun q hq=>⟨(by show 2≤sizeLine; decide),fun t0 h0=>?_⟩⟩
        have z4:Same H' (upd H' q (.tup [])):=zAJ hq
        obtain ⟨f1,Hb',f2,f3,f4,f5⟩:=fin .gone (upd H' q (.tup [])) (.ref q) t0 z4 h0 trivial
        have nD:D≠t0:=zAC (z4 _ _ e1) h0
        refine ⟨D,acc,_,rfl,rfl,(by rw [zAG nD]; exact z4 _ _ e1),sz,?_⟩
        refine ⟨_,rfl,rfl,_,rfl,iteT ⟨_,rfl,_,_,rfl,rfl,?_⟩⟩
        refine ⟨_,rfl,rfl,_,rfl,iteF ?_⟩
        exact ⟨io+1,jo,_,done++[.gone],_,Hb',rfl,hil,hjo,by rw [est,List.append_assoc]; rfl,by rw [List.length_append,hdl]; rfl,f1,f2,f3,f4,f5⟩
      · -- keep
        rw [e] at hx est
        have hx:=Option.some.inj hx
        subst hx
        have hil:io < l.length:=by
          have:=congrArg List.length el
          rw [List.length_drop,List.length_cons] at this
          omega
        have hjl:jo < m.length:=by
          have:=congrArg List.length em
          rw [List.length_drop,List.length_cons] at this
          omega
        rw [List.drop_eq_getElem_cons hil] at el
        obtain ⟨e2,e3⟩:=List.cons.inj el
        subst e2 e3
        rw [List.drop_eq_getElem_cons hjl] at em
        obtain ⟨e2,e3⟩:=List.cons.inj em
        subst e2 e3
        obtain ⟨wq,g1,g2⟩:=zAm hw2 (List.getElem?_eq_getElem hjl)
        obtain ⟨sq,q1,q2⟩:=zAm hs2 (show (l.map (Sx01.carried a b))[io]? = some (Sx01.carried a b l[io]) by rw [List.getElem?_map,List.getElem?_eq_getElem hil]; rfl)
        have hmw:=hwid m[jo] (List.getElem_mem hjl)
        refine ⟨_,rfl,rfl,_,rfl,iteT ?_⟩
        refine ⟨_,rfl,.inl ⟨rfl,_,SqL.of e1⟩,_,rfl,_,rfl,sa,_,_,_,rfl,rfl,SqL.of (zH _ _ hs1),zAO q1,?_⟩
        refine ⟨_,rfl,_,rfl,wa,_,_,_,rfl,rfl,zH.kt.sqt hw1,zAO g1,?_⟩
        refine ⟨sq,wq,Sx01.carried a b l[io],m[jo],rfl,mono_row _ _ _ _ zH.kt q2,mono_row _ _ _ _ zH.kt g2,by rw [zBz,hmw],by rw [hmw]; exact hb64,fun H3 p hp z3 np=>⟨(by show 2≤sizeLine; decide),fun t0 h0=>?_⟩⟩
        obtain ⟨p',pvs,ep,hp1,hp2⟩:=hp
        cases ep
        have npD:p≠D:=fun w=>by rw [w,e1] at np; cases np
        obtain ⟨f1,Hb',f2,f3,f4,f5⟩:=fin (.keep (Sx01.changes a b l[io] m[jo])) H3 (.ref p) t0 z3 h0 ⟨p,pvs,rfl,by rw [zBL npD]; exact hp1,mono_set.pr (cut_kt (z3 _ _ e1)) hp2⟩
        have nD:D≠t0:=zAC (z3 _ _ e1) h0
        refine ⟨D,acc,_,rfl,rfl,(by rw [zAG nD]; exact z3 _ _ e1),sz,?_⟩
        refine ⟨_,rfl,rfl,_,rfl,iteT ⟨_,rfl,_,_,rfl,rfl,?_⟩⟩
        refine ⟨_,rfl,rfl,_,rfl,iteT ⟨_,rfl,_,_,rfl,rfl,?_⟩⟩
        exact ⟨io+1,jo+1,_,done++[.keep (Sx01.changes a b l[io] m[jo])],_,Hb',rfl,hil,hjl,by rw [est,List.append_assoc]; rfl,by rw [List.length_append,hdl]; rfl,f1,f2,f3,f4,f5⟩
    · intro σ H' hI
      refine hide fun Gz zG=>?_
      obtain ⟨io,jo,u,done,acc,Hb,rfl,hio,hjo,est,hdl,e1,pp,nb,sb,s0⟩:=hI
      refine zG ?_; clear zG
      rw [List.length_map,List.length_map] at hdl
      have:Sx01.steps a b (l.drop io) (m.drop jo)=[]:=by
        have:=congrArg List.length est
        rw [List.length_append] at this
        exact List.eq_nil_of_length_eq_zero (by omega)
      rw [this,List.append_nil] at est
      refine ⟨_,rfl,?_⟩
      rw [est] at k
      exact k H' D ⟨D,acc,rfl,e1,zAr (fun v x z=>z.same sb) pp⟩ (s0.trans sb) hD
abbrev cSK (P:Program) (w:World) (K:Fg) (mg:MG) (base:Heap):Prop:=Cal P w K mg base CX0 2 "steps_of_kinds" ["kinds","seen","wanted"] (spSK K)
end
end Sh
set_option maxHeartbeats 2000000
namespace Sh
open PySem PySem.Spec PyProof.Rows L2 ShM
section
variable {P:Program}{w:World}{K:Fg}{mg:MG}{base:Heap}{c:Cs}
abbrev mRbn (P:Program) (w:World) (K:Fg) (mg:MG) (base:Heap) (c:Cs):Prop:=MCal P w K mg base CX0 2 c.sheet "row_by_names" ["self","row","names"] (spRbn K c)
abbrev cCount (P:Program) (w:World) (K:Fg) (mg:MG) (base:Heap):Prop:=Cal P w K mg base CX0 1 "count_filled" ["row"] (zHZ K)
abbrev cFK (P:Program) (w:World) (K:Fg) (mg:MG) (base:Heap):Prop:=Cal P w K mg base CX0 1 "first_kinds" ["costs","keeps","gones"] spFK
abbrev kDiff (P:Program) (w:World) (K:Fg) (mg:MG) (base:Heap) (c:Cs):Prop:=KCal P w K mg base CX0 1 "Difference" c.diff ["self","cost","steps"] (zHY c)
def DiffAt (K:Fg) (c:Cs) (H:Hp) (p q:Addr) (n:Nat) (st:List Sx01.Step):Prop:=∃ dx,H p=some (.ins c.diff dx (dfF (.int (n:Nat)) (.ref q)))∧LstOf (IsStepL K) H (.ref q) st
abbrev sDf:Stmt:=top 17
theorem scDf:FnScope ["one","other","seen","keeps","gones","puts","costs","kinds","row"] ["one","other"] (zAH sDf):=scm
def spDf (K:Fg) (c:Cs):Sp:=fun vs H Q _=>∃ (oa xa:Addr) (o x:Sx01.Sheet),vs=[.ref oa,.ref xa]∧SheetAt K c H oa o∧SheetAt K c H xa x ∧
 ∀ H' p q,DiffAt K c H' p q (Sx01.cost o.cols x.cols o.rows x.rows) (Sx01.steps o.cols x.cols o.rows x.rows)→Same H H'→H p=none→H q=none→Q (.ref p) H'
theorem ok_df {f:Addr}{fd:FuncData} (F:Fun K "difference" "difference" sDf f fd) (T:TxD K mg c) (m1:mRbn P w K mg base c) (c1:cKC P w K mg base) (c2:cCount P w K mg base) (c3:cLC P w K mg base) (c4:cFK P w K mg base) (c5:cSK P w K mg base) (k1:kDiff P w K mg base c) :
    FnOk P w K mg base CX0 3 f fd ["one","other"] (spDf K c):=by
  refine F.ok scDf (fun vs H Q E h=>?_) (fun cdv A outer s H vs Q E hr h=>?_)
  · obtain ⟨oa,xa,o,x,rfl,_⟩:=h
    rfl
  · refine hide fun Gz zG=>?_
    obtain ⟨oa,xa,o,x,rfl,So,Sx,k⟩:=h
    refine zG ?_; clear zG
    have hr1:Room 1 _:=hr.mono (by decide)
    refine ⟨_,zAD (zCb (i:=2) (own:=[("row",8)]) rfl scDf.nd rfl rfl (zDS rfl rfl rfl rfl) (zBV (zAI (pv 0) rfl)) (zAp (by show blkC ["one","other","seen","keeps","gones","puts","costs","kinds","row"] (zAH sDf) _ _=true; decide +kernel))
        (fun _ _ _ _ _=>zAR (i:=8) scDf.nd rfl (Or.inl rfl)) (fun _ _ _ _ _=>zBE) (fun _ _ _ _ _=>em m1 T.clS hr zAU (pv 0) (zAA (pv 8) (zAA (fldK (K:=K) rfl (pv 1) rfl) zAE))))
      (zAD (zCb (i:=3) (own:=[("row",8)]) rfl scDf.nd rfl rfl (zDS rfl rfl rfl rfl) (zBi (pv 2)) (zAp (by show blkC ["one","other","seen","keeps","gones","puts","costs","kinds","row"] (zAH sDf) _ _=true; decide +kernel))
        (fun _ _ _ _ _=>zAR (i:=8) scDf.nd rfl (Or.inl rfl)) (fun _ _ _ _ _=>zBE) (fun _ _ _ _ _=>ec c1 hr zAU (zAA (pv 8) (zAA (fldK (K:=K) rfl (pv 1) rfl) zAE))))
      (zAD (zCb (i:=4) (own:=[("row",8)]) rfl scDf.nd rfl rfl (zDS rfl rfl rfl rfl) (zBV (zAI (pv 0) rfl)) (zAp (by show blkC ["one","other","seen","keeps","gones","puts","costs","kinds","row"] (zAH sDf) _ _=true; decide +kernel))
        (fun _ _ _ _ _=>zAR (i:=8) scDf.nd rfl (Or.inl rfl)) (fun _ _ _ _ _=>zBE) (fun _ _ _ _ _=>zA8 zBK zAZ (ec c2 hr1 zAU (zAA (pv 8) zAE))))
      (zAD (zCb (i:=5) (own:=[("row",8)]) rfl scDf.nd rfl rfl (zDS rfl rfl rfl rfl) (zBV (zAI (pv 1) rfl)) (zAp (by show blkC ["one","other","seen","keeps","gones","puts","costs","kinds","row"] (zAH sDf) _ _=true; decide +kernel))
        (fun _ _ _ _ _=>zAR (i:=8) scDf.nd rfl (Or.inl rfl)) (fun _ _ _ _ _=>zBE) (fun _ _ _ _ _=>zA8 zBK zAZ (ec c2 hr1 zAU (zAA (pv 8) zAE))))
      (zAD (zAN (i:=6) scDf.nd rfl (Or.inl rfl) (ec c3 hr zAU (zAA (pv 3) (zAA (pv 4) (zAA (pv 5) zAE)))))
      (zAD (zAN (i:=7) scDf.nd rfl (Or.inl rfl) (ec c4 hr1 zAU (zAA (pv 6) (zAA (pv 3) (zAA (pv 4) zAE)))))
      (zAF (zAQ (ek k1 hr zAU (zAA (zAn zAc (zAn zAc (pv 6) zAZ (fun _ _=>rfl)) zAZ (fun _ _=>rfl)) (zAA (ec c5 hr zAU (zAA (pv 7) (zAA (pv 2) (zAA (zAI (pv 1) rfl) zAE)))) zAE)))))))))),?_⟩
    refine hide fun Gz zG=>?_
    obtain ⟨dxo,oca,ora,opa,okv,ho1,ho2,ho3,ho4,ho5⟩:=So.ob
    obtain ⟨dxx,xca,xra,xpa,xkv,hx1,hx2,hx3,hx4,hx5⟩:=Sx.ob
    obtain ⟨_,orv,e0,or1,or2⟩:=id ho3
    cases e0
    obtain ⟨_,xrv,e0,xr1,xr2⟩:=id hx3
    cases e0
    refine zG ?_; clear zG
    have ol:=zAM or2
    have xl:=zAM xr2
    have wo:=So.wf
    have wx:=Sx.wf
    have ol256:=wo.r256
    have xl256:=wx.r256
    have xc64:=wx.c64
    refine ⟨_,rfl,oa,c.sheet,dxo,_,_,rfl,ho1,T.clS,T.nR,(by rw [lk1,lk0]),ora,rfl,⟨_,or1⟩,fun D hD=>zCG (K:=K) (a:=ora) (xs:=orv) (fun i H'=>∃ acc,H' D=some (.lst acc)∧Paired (zAy K H') acc ((o.rows.take i).map (Sx01.carried o.cols x.cols))∧Same H H') ⟨[],zAB,.nil,zAJ hD⟩ ?_ ?_ ?_⟩
    · rintro i H' _ ⟨_,_,_,z⟩
      exact z.kt.sqt or1
    · rintro i y H' hi ⟨acc,e1,pp,z⟩
      obtain ⟨r,hr',hcr⟩:=zAl or2 hi
      have al:=zAM pp
      rw [List.length_map,List.length_take] at al
      have wr:=wo.wid r (List.mem_of_getElem? hr')
      refine ⟨rfl,yes ⟨_,rfl,oa,dxo,_,rfl,z _ _ ho1,(by rw [lk1,lk1,lk1]; rfl),_,rfl,_,rfl,xa,c.sheet,dxx,_,_,rfl,z _ _ hx1,T.clS,T.nC,lk0,oa,o,y,.ref xca,r,x.cols,rfl,So.same z,mono_row _ _ _ _ z.kt hcr,wr,zAa _ _ _ _ z.kt hx2,(by omega),fun u H2 hu z2=>?_⟩⟩
      refine ⟨acc,z2 _ _ e1,small (m:=1000) (by omega),acc++[u],zAB,?_,(z.trans z2).upd hD⟩
      rw [zAh hr',List.map_append]
      exact zAv (mono_row.pr (z2.kt.trans (zAi (z2 _ _ e1))) pp) (mono_row _ _ _ _ (zAi (z2 _ _ e1)) hu)
    · rintro H1 ⟨sacc,e1,pp,z1⟩
      rw [ol,List.take_length] at pp
      have sl:=zAM pp
      rw [List.length_map] at sl
      refine ⟨_,rfl,D,rfl,⟨_,SqL.of e1⟩,fun D2 hD2=>zFq (K:=K) (a:=D) (xs:=sacc) (fun i H'=>∃ acc Hb,H' D2=some (.lst acc)∧Paired (NatsAt Hb) acc ((o.rows.take i).map fun r=>x.rows.map (Sx01.costKeep o.cols x.cols r))∧Hb D2=none∧Same Hb H'∧Same H1 Hb) ⟨[],H1,zAB,.nil,hD2,zAJ hD2,Same.refl _⟩ ?_ ?_ ?_⟩
      · rintro i H' _ ⟨_,_,_,_,_,sb,s0⟩
        exact SqL.of (sb _ _ (s0 _ _ e1))
      · intro i y H' hi hI
        refine hide fun Gz zG=>?_
        obtain ⟨acc,Hb,g1,g2,nb,sb,s0⟩:=hI
        have zz:Same H1 H':=s0.trans sb
        obtain ⟨r,hr',hcr⟩:=zAl pp hi
        have il:i < sacc.length:=(List.getElem?_eq_some_iff.mp hi).1
        obtain ⟨r0,hr0,rfl⟩:∃ r0,o.rows[i]? = some r0∧Sx01.carried o.cols x.cols r0=r:=by
          rw [List.getElem?_map] at hr'
          cases e:o.rows[i]? with
          | none=>rw [e] at hr'; cases hr'
          | some r0=>rw [e] at hr'; exact ⟨r0,rfl,Option.some.inj hr'⟩
        refine zG ?_; clear zG
        have al:=zAM g2
        rw [List.length_map,List.length_take] at al
        refine ⟨rfl,yes ⟨_,rfl,_,rfl,xa,c.sheet,dxx,_,_,rfl,zz _ _ (z1 _ _ hx1),T.clS,T.nR,(by rw [lk1,lk0]),y,.ref xra,Sx01.carried o.cols x.cols r0,x.rows,rfl,mono_row _ _ _ _ zz.kt hcr,zBo _ _ _ _ (z1.trans zz).kt hx3,(fun s hs=>by rw [zBz,wx.wid s hs]; exact ⟨rfl,xc64⟩),xl256,fun H2 q e2 z2 nq=>?_⟩⟩
        have g1':=z2 _ _ g1
        have nq2:q≠D2:=fun w=>by rw [w,g1] at nq; cases nq
        refine ⟨acc,g1',small (m:=1000) (by omega),acc++[.ref q],cutH (upd H2 D2 (.lst (acc++[.ref q]))) D2,zAB,?_,zBP _ _,zA5 _ _,?_⟩
        · rw [zAh hr0,List.map_append]
          refine zAv (zAr (fun v x z=>z.same (zDC (fun b' o' e=>by rw [zAG (zAC e nb)]; exact z2 _ _ (sb _ _ e)) nb)) g2) ⟨q,rfl,?_⟩
          rw [zBL nq2,zAG nq2,e2]
          rfl
        · exact zDC (fun b' o' e=>by rw [zAG (zAC e hD2)]; exact z2 _ _ (zz _ _ e)) hD2
      · intro H2 hI
        refine hide fun Gz zG=>?_
        obtain ⟨kacc,Hb,g1,g2,nb,sb,s0⟩:=hI
        refine zG ?_; clear zG
        rw [sl,List.take_length] at g2
        have z12:Same H1 H2:=s0.trans sb
        have z2:Same H H2:=z1.trans z12
        have tabk:TabAt H2 (.ref D2) (o.rows.map fun r=>x.rows.map (Sx01.costKeep o.cols x.cols r)):=⟨D2,kacc,rfl,g1,zAr (fun v x z=>z.same sb) g2⟩
        have seen2:LstOf (zAy K) H2 (.ref D) (o.rows.map (Sx01.carried o.cols x.cols)):=⟨D,sacc,rfl,z12 _ _ e1,mono_row.pr z12.kt pp⟩
        refine ⟨_,rfl,oa,c.sheet,dxo,_,_,rfl,z2 _ _ ho1,T.clS,T.nR,(by rw [lk1,lk0]),ora,rfl,⟨_,z2.kt.sqt or1⟩,fun D3 hD3=>zCG (K:=K) (a:=ora) (xs:=orv) (fun i H'=>H' D3=some (.lst (zAt ((o.rows.take i).map Sx01.costGone)))∧Same H2 H') ⟨zAB,zAJ hD3⟩ ?_ ?_ ?_⟩
        · rintro i H' _ ⟨_,z⟩
          exact (z2.trans z).kt.sqt or1
        · rintro i y H' hi ⟨a1,z⟩
          obtain ⟨r,hr',hcr⟩:=zAl or2 hi
          have il:i < orv.length:=(List.getElem?_eq_some_iff.mp hi).1
          have wr:=wo.wid r (List.mem_of_getElem? hr')
          have wc:=wo.c64
          refine ⟨rfl,yes ⟨_,rfl,y,r,rfl,mono_row _ _ _ _ (z2.trans z).kt hcr,(by omega),fun H4 z4=>⟨_,_,rfl,rfl,_,z4 _ _ a1,small (m:=1000) (by unfold zAt; rw [List.length_map,List.length_map,List.length_take]; omega),?_,(z.trans z4).upd hD3⟩⟩⟩
          rw [zAB,zAh hr',List.map_append]
          unfold zAt
          rw [List.map_append]
          rfl
        · rintro H3 ⟨a1,z3⟩
          rw [ol,List.take_length] at a1
          have z23:Same H H3:=z2.trans z3
          refine ⟨_,rfl,xa,c.sheet,dxx,_,_,rfl,z23 _ _ hx1,T.clS,T.nR,(by rw [lk1,lk0]),xra,rfl,⟨_,z23.kt.sqt xr1⟩,fun D4 hD4=>zCG (K:=K) (a:=xra) (xs:=xrv) (fun i H'=>H' D4=some (.lst (zAt ((x.rows.take i).map Sx01.costGone)))∧Same H3 H') ⟨zAB,zAJ hD4⟩ ?_ ?_ ?_⟩
          · rintro i H' _ ⟨_,z⟩
            exact (z23.trans z).kt.sqt xr1
          · rintro i y H' hi ⟨a2,z⟩
            obtain ⟨r,hr',hcr⟩:=zAl xr2 hi
            have il:i < xrv.length:=(List.getElem?_eq_some_iff.mp hi).1
            have wr:=wx.wid r (List.mem_of_getElem? hr')
            refine ⟨rfl,yes ⟨_,rfl,y,r,rfl,mono_row _ _ _ _ (z23.trans z).kt hcr,(by omega),fun H4 z4=>⟨_,_,rfl,rfl,_,z4 _ _ a2,small (m:=1000) (by unfold zAt; rw [List.length_map,List.length_map,List.length_take]; omega),?_,(z.trans z4).upd hD4⟩⟩⟩
            rw [zAB,zAh hr',List.map_append]
            unfold zAt
            rw [List.map_append]
            rfl
          · rintro H4 ⟨a2,z4⟩
            rw [xl,List.take_length] at a2
            have z34:Same H2 H4:=z3.trans z4
            refine ⟨_,rfl,_,rfl,_,rfl,.ref D2,.ref D3,.ref D4,o.cols,x.cols,o.rows,x.rows,rfl,tabk.same z34,⟨D3,rfl,z4 _ _ a1⟩,⟨D4,rfl,a2⟩,ol256,xl256,fun H5 cv tabc z5=>?_⟩
            refine ⟨_,rfl,_,rfl,_,rfl,cv,.ref D2,.ref D3,o.cols,x.cols,o.rows,x.rows,rfl,tabc,tabk.same (z34.trans z5),⟨D3,rfl,z5 _ _ (z4 _ _ a1)⟩,ol256,xl256,fun H6 kq ek z6 nkq=>?_⟩
            obtain ⟨ca,cvs,rfl,hc1,hc2⟩:=tabc.same z6
            obtain ⟨la,g5,g6⟩:=TabAt.row (a:=ca) hc2 (zEO (a:=o.cols) (b:=x.cols) o.rows x.rows 0 (Nat.zero_le _))
            have z26:Same H2 H6:=(z34.trans z5).trans z6
            refine ⟨_,rfl,ca,_,_,_,rfl,rfl,SqL.of hc1,zAO (j:=0) g5,la,_,_,_,rfl,rfl,SqL.of g6,zAO (j:=0) (zA3 (zFO (Nat.zero_le _))),?_⟩
            refine ⟨_,rfl,_,rfl,_,rfl,xa,c.sheet,dxx,_,_,rfl,z26 _ _ (z2 _ _ hx1),T.clS,T.nR,(by rw [lk1,lk0]),kq,.ref D,.ref xra,o.cols,x.cols,o.rows,x.rows,rfl,ek,LstOf.same mono_row seen2 z26,zBo _ _ _ _ (z2.trans z26).kt hx3,wx.wid,xc64,ol256,xl256,fun H7 sq hsv z7 nsq=>?_⟩
            intro p dx hp hdx ndp
            have zf:Same H H7:=(z2.trans z26).trans z7
            have zp:Same H7 (upd (upd H7 dx (.own p)) p (.ins c.diff dx [])):=(zAJ hdx).upd hp
            refine ⟨p,dx,_,_,rfl,zAB,rfl,?_⟩
            rw [zBh]
            have zq:Same H7 (upd (upd H7 dx (.own p)) p (.ins c.diff dx (dfF (.int (Sx01.cost o.cols x.cols (o.rows.drop 0) (x.rows.drop 0):Nat)) (.ref sq)))):=(zAJ hdx).upd hp
            refine k _ p sq ⟨dx,zAB,?_⟩ (zf.trans zq) (zf.free hp) ((z2.trans z26).free nsq)
            obtain ⟨sa,svs,e0,s1,s2⟩:=hsv
            cases e0
            exact ⟨sq,svs,rfl,zq _ _ s1,zAr (fun v x z=>z.same zq) s2⟩
end
end Sh
set_option maxHeartbeats 2000000
namespace Sh
open PySem PySem.Spec PyProof.Rows L2 ShM
structure TxP (K:Fg) (mg:MG) (c:Cs):Prop where
 clS:Cls K c.sheet
 nR:NoAttr K c.sheet "rows"
 keep:GI mg "KEEP" 0
 put:GI mg "PUT" 2
 mostR:GI mg "MOST_ROWS" 256
 len:mg "len" = none
 tuple:mg "tuple" = none
 list:mg "list" = none
 fit:ExcC K mg "NotFitting" c.eFit
section
variable {P:Program}{w:World}{K:Fg}{mg:MG}{base:Heap}{c:Cs}
theorem okX {x qual:Str}{st:Stmt}{f:Addr}{fd:FuncData}{N ps:List Str}{k:Nat}{sp:Sp} (F:Fun K x qual st f fd) (S:FnScope N ps (zAH st)) (len:∀ vs H Q E,sp vs H Q E→vs.length=ps.length)
    (hbody:∀ (cdv:Value) (A:Around) (outer:List Env) (s:Shared) (H:Hp) (vs:List V) (Q:VK) (E:XK),Room k (A.deeper (envOfC qual (zAH st) s.heap.objs.size f cdv))→sp vs H Q E →
      ∃ t,PSs (cxOf (CXE P w) P w K mg base N qual (zAH st) f cdv A outer s H E) (zCQ st) t∧t { nx:=fun _ H'=>Q .non H',rt:=Q } (start N vs) H):FnOk P w K mg base (CXE P w) (k+1) f fd ps sp:=by
  obtain ⟨oc,od,kV,doc,pm,an,cdv,ct,osl,rfl,lk,hcd⟩:=F.ex
  exact fn_of lk hcd S len fun A outer s H vs Q E hr hsp=>hbody cdv A outer s H vs Q E hr hsp
abbrev sRPut:Stmt:=top 46
theorem scRPut:FnScope ["row","width"] ["row","width"] (zAH sRPut):=scm
def spRPut (K:Fg) (c:Cs):Sp:=fun vs H Q E=>∃ (v:V) (r:Sx01.Row) (n:Nat),vs=[v,.int (n:Int)]∧zAy K H v r∧r.length≤1000∧((r.length == n && r.all Sx01.cellOk)=true→∀ H',Same H H'→Q v H')∧((r.length == n && r.all Sx01.cellOk)=false→∀ H',Same H H'→E (.ref c.eFit) none H')
abbrev cIsRow (P:Program) (w:World) (K:Fg) (mg:MG) (base:Heap):Prop:=Cal P w K mg base CX0 2 "is_row" ["row","width"] (zHX K)
theorem ok_rput {f:Addr}{fd:FuncData} (F:Fun K "row_put" "row_put" sRPut f fd) (T:TxP K mg c) (c1:cIsRow P w K mg base):FnOk P w K mg base (CXE P w) 3 f fd ["row","width"] (spRPut K c):=by
 refine okX F scRPut (fun vs H Q E h=>?_) (fun cdv A outer s H vs Q E hr h=>?_)
 ·obtain ⟨v,r,n,rfl,_⟩:=h
  rfl
 ·refine hide fun Gz zG=>?_
  obtain ⟨v,r,n,rfl,hrow,h1000,k1,k2⟩:=h
  refine zG ?_; clear zG
  refine ⟨_,zAD (zAk (zBm (zA2 (ec c1 hr zAU (zAA (pv 0) (zAA (pv 1) zAE))))) (zAF (zBZ xbody T.fit rfl)) zAY) (zAF (zAQ (pv 0))),?_⟩
  refine ⟨_,rfl,_,rfl,v,r,n,rfl,hrow,h1000,fun H' z=>⟨_,rfl,?_⟩⟩
  cases hb:(r.length == n && r.all Sx01.cellOk) with
  | true=>exact iteF ⟨_,rfl,k1 hb H' z⟩
  | false=>exact iteT (k2 hb H' z)
abbrev cRPut (P:Program) (w:World) (K:Fg) (mg:MG) (base:Heap) (c:Cs):Prop:=Cal P w K mg base (CXE P w) 3 "row_put" ["row","width"] (spRPut K c)
def zC3 (n:Nat) (l:List (Nat×Sx01.Cell)):Bool:=l.all fun x=>decide (x.1 < n) && Sx01.cellOk x.2
abbrev zHg:Stmt:=top 47
theorem scRKept:FnScope ["row","settings","cells","place","cell"] ["row","settings"] (zAH zHg):=scm
def zHU (K:Fg) (c:Cs):Sp:=fun vs H Q E=>∃ (v sv:V) (r:Sx01.Row) (l:List (Nat×Sx01.Cell)),vs=[v,sv]∧zAy K H v r∧r.length≤1000∧zBJ K (zCV K) H sv l ∧
 (zC3 r.length l=true→∀ u H',zAy K H' u (Sx01.setCells r l)→Same H H'→Q u H')∧(zC3 r.length l=false→∀ H',Same H H'→E (.ref c.eFit) none H')
theorem zEV {r:Sx01.Row}{l:List (Nat×Sx01.Cell)}{i:Nat}{x:Nat×Sx01.Cell} (h:l[i]? = some x):Sx01.setCells r (l.take (i+1))=(Sx01.setCells r (l.take i)).set x.1 x.2:=by
 unfold Sx01.setCells
 rw [zAh h,List.foldl_append]
 rfl
theorem zE2 (r:Sx01.Row):∀ (l:List (Nat×Sx01.Cell)),(Sx01.setCells r l).length=r.length:=by
 intro l
 unfold Sx01.setCells
 induction l generalizing r with
 | nil=>rfl
 | cons x l ih=>rw [List.foldl_cons,ih,List.length_set]
theorem ok_rkept {f:Addr}{fd:FuncData} (F:Fun K "row_kept" "row_kept" zHg f fd) (T:TxP K mg c) (c1:zFx P w K mg base):FnOk P w K mg base (CXE P w) 2 f fd ["row","settings"] (zHU K c):=by
  refine okX F scRKept (fun vs H Q E h=>?_) (fun cdv A outer s H vs Q E hr h=>?_)
  · obtain ⟨v,sv,r,l,rfl,_⟩:=h
    rfl
  · refine hide fun Gz zG=>?_
    obtain ⟨v,sv,r,l,rfl,⟨ra,rvs,rfl,hr1,hr2⟩,h1000,⟨sa,svs,rfl,hs1,hs2⟩,k1,k2⟩:=h
    refine zG ?_; clear zG
    have rl:=zAM hr2
    have sl:=zAM hs2
    refine ⟨_,zAD (zAN (i:=2) scRKept.nd rfl (Or.inl rfl) (zAs zFQ rfl T.list bt_list (zAA (pv 0) zAE)))
      (zAD (zA6 xbody.po rfl (zBV (pv 1)) (zB3 rfl (zAg (zAR (i:=3) scRKept.nd rfl (Or.inl rfl)) (zAg (zAR (i:=4) scRKept.nd rfl (Or.inl rfl)) zBb)))
        (zAD (zAk (PW.pt (zG1 (zAX op_ge (pv 3) (zAS zAL rfl T.len zAj (zAA (pv 2) zAE)) (zAb _)) (zD0 (zBm (zA2 (ec c1 hr zAU (zAA (pv 4) zAE))))))) (zAF (zBZ xbody T.fit rfl)) zAY)
        (zAF (zE5 (pv 4) (zE9 (pv 2) (pv 3) zCZ)))))
      (zAF (zAQ (zAs zAe rfl T.tuple zBD (zAA (pv 2) zAE))))),?_⟩
    refine ⟨_,rfl,ra,_,rfl,.inr hr1,fun C hC=>?_⟩
    have z0:Same H (upd H C (.lst rvs)):=zAJ hC
    refine ⟨_,rfl,sa,rfl,⟨_,z0.kt.sqt hs1⟩,zCw (K:=K) (a:=sa) (xs:=svs) (fun i σ H'=>∃ u u2 acc,σ=[some (.ref ra),some (.ref sa),some (.ref C),u,u2]∧H' C=some (.lst acc)∧Paired (IsCel K H') acc (Sx01.setCells r (l.take i))∧zC3 r.length (l.take i)=true∧Same H H')
      ⟨none,none,rvs,rfl,zAB,mono_cel.pr z0.kt hr2,rfl,z0⟩ ?_ ?_ ?_⟩
    · rintro i σ H' _ ⟨_,_,_,_,_,_,_,z⟩
      exact z.kt.sqt hs1
    · intro i x σ H' hi hI
      refine hide fun Gz zG=>?_
      obtain ⟨u,u2,acc,rfl,e1,pp,ok,z⟩:=hI
      obtain ⟨y,hy,hcy⟩:=zAl hs2 hi
      obtain ⟨b,q,rfl,hb,hq⟩:=mono_set _ _ _ _ z.kt hcy
      refine zG ?_; clear zG
      have al:=zAM pp
      rw [zE2] at al
      refine ⟨b,_,rfl,hb,rfl,_,_,rfl,_,_,rfl,rfl,?_⟩
      refine ⟨_,rfl,_,rfl,C,_,rfl,.inl (SqL.of e1),_,_,rfl,rfl,_,rfl,?_⟩
      have bad:(decide (y.1 < r.length) && Sx01.cellOk y.2)=false→zC3 r.length l=false:=fun hbad=>by
        unfold zC3
        rw [List.all_eq_false]
        exact ⟨y,List.mem_of_getElem? hy,by rw [hbad]; exact Bool.false_ne_true⟩
      by_cases hp:y.1 < r.length
      · rw [decide_eq_false (show ¬ ((acc.length:Int)≤((y.1:Nat):Int)) by omega)]
        refine iteF ⟨_,rfl,_,_,rfl,hq,_,rfl,?_⟩
        cases hc:Sx01.cellOk y.2 with
        | false=>exact iteT (k2 (bad (by rw [hc,Bool.and_false])) H' z)
        | true =>
          refine iteF ⟨_,rfl,_,rfl,_,rfl,C,acc,_,y.1,rfl,rfl,e1,zDi (by omega),?_⟩
          refine ⟨_,_,_,rfl,zAB,?_,?_,z.upd hC⟩
          · rw [zEV hy]
            exact pr_set (mono_cel _ _ _ _ (zAi e1) hq) _ (mono_cel.pr (zAi e1) pp)
          · unfold zC3 at ok ⊢
            rw [zAh hy,List.all_append,ok,Bool.true_and]
            show ((decide (y.1 < r.length) && Sx01.cellOk y.2) && true)=true
            rw [hc,decide_eq_true hp]
            rfl
      · rw [decide_eq_true (show ((acc.length:Int)≤((y.1:Nat):Int)) by omega)]
        exact iteT (iteT (k2 (bad (by rw [decide_eq_false hp,Bool.false_and])) H' z))
    · intro σ H' hI
      refine hide fun Gz zG=>?_
      obtain ⟨u,u2,acc,rfl,e1,pp,ok,z⟩:=hI
      refine zG ?_; clear zG
      rw [sl,List.take_length] at pp ok
      refine ⟨_,rfl,C,acc,rfl,.inl ⟨SqL.of e1,fun q hq=>?_⟩⟩
      exact k1 ok _ _ ⟨q,acc,rfl,SqT.of zAB,mono_cel.pr (zBd hq) pp⟩ (z.upd (z.free hq))
abbrev cRKept (P:Program) (w:World) (K:Fg) (mg:MG) (base:Heap) (c:Cs):Prop:=Cal P w K mg base (CXE P w) 2 "row_kept" ["row","settings"] (zHU K c)
abbrev cAre (P:Program) (w:World) (K:Fg) (mg:MG) (base:Heap):Prop:=Cal P w K mg base CX0 1 "are_columns" ["names"] (spAre K)
abbrev zGY (P:Program) (w:World) (K:Fg) (mg:MG) (base:Heap) (c:Cs):Prop:=KCal P w K mg base CX0 1 "Sheet" c.sheet ["self","columns","rows"] (zHR K c)
abbrev sPat:Stmt:=top 45
theorem scPat:FnScope ["sheet","columns","steps","rows","at","kind","content"] ["sheet","columns","steps"] (zAH sPat):=scm
def spPat (K:Fg) (c:Cs):Sp:=fun vs H Q E=>∃ (a:Addr) (vc sv:V) (s:Sx01.Sheet) (cols:List Sx01.Bytes) (steps:List Sx01.Step),vs=[.ref a,vc,sv]∧SheetAt K c H a s∧zA1 K H vc cols∧cols.length≤8∧zBJ K (zCU K) H sv steps∧steps.length≤60∧(∀ x∈steps,zCn x) ∧
 (zB5 s cols steps=none→∀ H',Same H H'→E (.ref c.eFit) none H')∧∀ t,zB5 s cols steps=some t→∀ p H',SheetAt K c H' p t→Same H H'→Q (.ref p) H'
theorem zB1 {H H1:Hp}{x dx C:Addr} (nx:H x=none) (nd:H dx=none) (k:SB [x] (upd (upd H dx (.own x)) x (.ins C dx [])) H1):Same H H1:=fun b o e=>k b o (by rw [zAG (zAC e nx),zAG (zAC e nd)]; exact e) (by simpa using zAC e nx)
theorem ok_pat {f:Addr}{fd:FuncData} (F:Fun K "patched" "patched" sPat f fd) (T:TxP K mg c) (c1:cAre P w K mg base) (c2:cRPut P w K mg base c) (c3:cRKept P w K mg base c) (m1:mRbn P w K mg base c) (k1:zGY P w K mg base c) :
    FnOk P w K mg base (CXE P w) 4 f fd ["sheet","columns","steps"] (spPat K c):=by
  refine okX F scPat (fun vs H Q E h=>?_) (fun cdv A outer s H vs Q E hr h=>?_)
  · obtain ⟨a,vc,sv,s,cols,steps,rfl,_⟩:=h
    rfl
  · refine hide fun Gz zG=>?_
    obtain ⟨a,vc,sv,sh,cols,steps,rfl,S,hc,h8,hst,h60,hsok,kE,kQ⟩:=h
    obtain ⟨sa,svs,rfl,hs1,hs2⟩:=hst
    refine zG ?_; clear zG
    have sl:=zAM hs2
    have hr1:Room 1 _:=hr.mono (by decide)
    have hr2:Room 2 _:=hr.mono (by decide)
    refine ⟨_,zAD (zAk (zBm (zA2 (ec c1 hr1 zAU (zAA (pv 1) zAE)))) (zAF (zBZ xbody T.fit rfl)) zAY)
      (zAD (zAN (i:=3) scPat.nd rfl (Or.inl rfl) (zAo zAE)) (zAD (zAN (i:=4) scPat.nd rfl (Or.inl rfl) zAZ)
      (zAD (zA6 xbody.po rfl (zBV (pv 2)) (zB3 rfl (zAg (zAR (i:=5) scPat.nd rfl (Or.inl rfl)) (zAg (zAR (i:=6) scPat.nd rfl (Or.inl rfl)) zBb)))
        (zAD (zAk (zAX zBn (pv 5) (eg T.put) (zAb _)) (zAD (zAT (zAw PySem.F.plainAttrs_list PySem.F.slot_list_append PySem.F.type_list_append zAW (pv 3) (zAA (ec c2 hr (zBQ xbody) (zAA (pv 6) (zAA (zAS zAL rfl T.len zAj (zAA (pv 1) zAE)) zAE))) zAE))) (zAF zCM)) zAY)
        (zAD (zAk (zAX zBn (pv 4) (zAS zAL rfl T.len zAj (zAA (zAI (pv 0) rfl) zAE)) (zAb _)) (zAF (zBZ xbody T.fit rfl)) zAY)
        (zAD (zAk (zAX zBn (pv 5) (eg T.keep) (zAb _)) (zAF (zAT (zAw PySem.F.plainAttrs_list PySem.F.slot_list_append PySem.F.type_list_append zAW (pv 3) (zAA (ec c3 hr2 (zBQ xbody) (zAA (em m1 T.clS hr2 zAU (pv 0) (zAA (zAn zBW (zAI (pv 0) rfl) (pv 4) (fun _ _=>rfl)) (zAA (pv 1) zAE))) (zAA (pv 6) zAE))) zAE)))) zAY)
        (zAF (zC6 (i:=4) scPat.nd rfl (Or.inl rfl) zAZ zDA))))))
      (zAD (zAk (PW.pt (zG1 (zAX zFD (pv 4) (zAS zAL rfl T.len zAj (zAA (zAI (pv 0) rfl) zAE)) (zAb _)) (zD0 (zAX op_gt (zAS zAL rfl T.len zAj (zAA (pv 3) zAE)) (eg T.mostR) (zAb _))))) (zAF (zBZ xbody T.fit rfl)) zAY)
      (zAF (zAQ (ek k1 hr2 zAU (zAA (pv 1) (zAA (zAs zAe rfl T.tuple zBD (zAA (pv 3) zAE)) zAE))))))))),?_⟩
    refine hide fun Gz zG=>?_
    obtain ⟨dx,ca,ra,pa,kvs,h1,h2,h3,h4,h5⟩:=S.ob
    obtain ⟨_,rvs,e0,hr1',hr2'⟩:=id h3
    cases e0
    have rl:=zAM hr2'
    have wf:=S.wf
    obtain ⟨na,nvs,rfl,hn1,hn2⟩:=id hc
    refine zG ?_; clear zG
    have nl:=zAM hn2
    refine ⟨_,rfl,.ref na,cols,rfl,hc,h8,fun H1 z1=>⟨_,rfl,?_⟩⟩
    cases hco:Sx01.colsOk cols with
    | false =>
      refine iteT (kE ?_ H1 z1)
      unfold zB5
      rw [hco]
      rfl
    | true =>
    refine iteF ?_
    have kE1:zA9 sh.cols cols sh.rows steps []=none→∀ H',Same H H'→E (.ref c.eFit) none H':=fun e=>kE (by
      unfold zB5
      rw [hco,if_pos rfl,e])
    have kE2:∀ l,zA9 sh.cols cols sh.rows steps []=some l→¬ l.length≤256→∀ H',Same H H'→E (.ref c.eFit) none H':=fun l e hl=>kE (by
      unfold zB5
      rw [hco,if_pos rfl,e]
      exact if_neg hl)
    have kQ1:∀ l,zA9 sh.cols cols sh.rows steps []=some l→l.length≤256→zB5 sh cols steps=some ⟨cols,l⟩:=fun l e hl=>by
      unfold zB5
      rw [hco,if_pos rfl,e]
      exact if_pos hl
    refine ⟨Nat.zero_le _,fun D hD=>?_⟩
    have hD0:H D=none:=z1.free hD
    have z2:Same H (upd H1 D (.lst [])):=z1.upd hD0
    refine ⟨_,rfl,sa,rfl,⟨_,z2.kt.sqt hs1⟩,zCw (K:=K) (a:=sa) (xs:=svs) (fun i σ H'=>∃ at' u5 u6 acc rs,σ=[some (.ref a),some (.ref na),some (.ref sa),some (.ref D),some (.int ((at':Nat):Int)),u5,u6]∧at'≤sh.rows.length∧H' D=some (.lst acc)∧Paired (zAy K H') acc rs∧rs.length≤i ∧
      zA9 sh.cols cols sh.rows steps []=zA9 sh.cols cols (sh.rows.drop at') (steps.drop i) rs∧Same H H') ⟨0,none,none,[],[],rfl,Nat.zero_le _,zAB,.nil,Nat.le_refl _,rfl,z2⟩ ?_ ?_ ?_⟩
    · rintro i σ H' _ ⟨_,_,_,_,_,_,_,_,_,_,_,z⟩
      exact z.kt.sqt hs1
    · intro i x σ H' hi hI
      refine hide fun Gz zG=>?_
      obtain ⟨at',u5,u6,acc,rs,rfl,hat,e1,pp,rsl,ep,z⟩:=hI
      obtain ⟨y,hy,hcy⟩:=zAl hs2 hi
      refine zG ?_; clear zG
      have il:i < svs.length:=(List.getElem?_eq_some_iff.mp hi).1
      have eds:steps.drop i=y::steps.drop (i+1):=by
        have hil:i < steps.length:=by omega
        rw [List.drop_eq_getElem_cons hil]
        rw [List.getElem?_eq_getElem hil] at hy
        rw [Option.some.inj hy]
      rw [eds] at ep
      obtain ⟨b,q,rfl,hb,hq⟩:=zD8 _ _ _ _ z.kt hcy
      have al:=zAM pp
      have hok:=hsok y (List.mem_of_getElem? hy)
      have sz:acc.length < sizeLine:=small (m:=1000) (by omega)
      refine ⟨b,_,rfl,hb,rfl,_,_,rfl,_,_,rfl,rfl,?_⟩
      cases y with
      | put r =>
        rw [zDa] at ep
        refine ⟨_,rfl,rfl,_,rfl,iteT ?_⟩
        refine ⟨_,rfl,.inl ⟨rfl,_,SqL.of e1⟩,_,rfl,_,rfl,na,_,rfl,.inr (z.kt.sqt hn1),q,r,cols.length,(by rw [nl]; rfl),hq,hok,fun hgood H2 zz=>?_,fun hbad H2 zz=>?_⟩
        · have hp:zFg cols r=true:=hgood
          rw [if_pos hp] at ep
          refine ⟨D,acc,_,rfl,rfl,zz _ _ e1,sz,?_⟩
          have zz2:KTup H' (upd H2 D (.lst (acc++[q]))):=zz.kt.trans (zAi (zz _ _ e1))
          exact ⟨at',_,_,acc++[q],rs++[r],rfl,hat,zAB,zAv (mono_row.pr zz2 pp) (mono_row _ _ _ _ zz2 hq),by rw [List.length_append]; exact Nat.succ_le_succ rsl,ep,(z.trans zz).upd hD0⟩
        · have hp:¬ zFg cols r=true:=by
            intro w
            have hbad:zFg cols r=false:=hbad
            rw [hbad] at w
            cases w
          rw [if_neg hp] at ep
          exact kE1 ep H2 (z.trans zz)
      | keep l =>
        refine ⟨_,rfl,rfl,_,rfl,iteF ?_⟩
        refine ⟨_,rfl,_,rfl,a,c.sheet,dx,_,_,rfl,z _ _ h1,T.clS,T.nR,(by rw [lk1,lk0]),ra,_,rfl,.inr (z.kt.sqt hr1'),rfl,_,rfl,?_⟩
        by_cases hlast:at' = sh.rows.length
        · rw [decide_eq_true (by rw [hlast,rl])]
          refine iteT (kE1 ?_ H' z)
          rw [ep,hlast,List.drop_length,zA9]
        · rw [decide_eq_false (fun w=>hlast (by have:=V.int.inj w; omega))]
          have hal:at' < sh.rows.length:=by omega
          obtain ⟨r,hr',er⟩:∃ r,sh.rows[at']? = some r∧sh.rows.drop at' = r::sh.rows.drop (at' + 1):=⟨_,List.getElem?_eq_getElem hal,List.drop_eq_getElem_cons hal⟩
          rw [er,zA9] at ep
          obtain ⟨rv,g1,g2⟩:=zAm hr2' hr'
          have wr:=wf.wid r (List.mem_of_getElem? hr')
          refine iteF ⟨_,rfl,rfl,_,rfl,iteT ?_⟩
          refine ⟨_,rfl,.inl ⟨rfl,_,SqL.of e1⟩,_,rfl,a,dx,_,rfl,z _ _ h1,(by rw [lk1,lk1,lk1]; rfl),_,rfl,a,c.sheet,dx,_,_,rfl,z _ _ h1,T.clS,T.nR,(by rw [lk1,lk0]),_,rfl,ra,_,_,_,rfl,rfl,z.kt.sqt hr1',zAO g1,?_⟩
          refine ⟨_,rfl,a,sh,rv,.ref na,r,cols,rfl,S.same z,mono_row _ _ _ _ z.kt g2,wr,zAa _ _ _ _ z.kt hc,by omega,fun u H2 hu zz=>?_⟩
          refine ⟨_,rfl,u,q,_,l,rfl,hu,by rw [List.length_map]; omega,zBt mono_set _ _ _ _ zz.kt hq,fun hgood u2 H3 hu2 z3=>?_,fun hbad H3 z3=>?_⟩
          · have hp:zE1 cols l=true:=by
              unfold zC3 at hgood
              rw [List.length_map] at hgood
              exact hgood
            rw [if_pos hp] at ep
            have z23:Same H' H3:=zz.trans z3
            refine ⟨D,acc,_,rfl,rfl,z23 _ _ e1,sz,?_⟩
            refine ⟨_,rfl,_,_,rfl,rfl,?_⟩
            have zz2:KTup H' (upd H3 D (.lst (acc++[u2]))):=z23.kt.trans (zAi (z23 _ _ e1))
            exact ⟨at' + 1,_,_,acc++[u2],rs++[Sx01.setCells (Sx01.carried sh.cols cols r) l],rfl,hal,zAB,zAv (mono_row.pr zz2 pp) (mono_row _ _ _ _ (zAi (z23 _ _ e1)) hu2),by rw [List.length_append]; exact Nat.succ_le_succ rsl,ep,(z.trans z23).upd hD0⟩
          · have hp:¬ zE1 cols l=true:=by
              intro w
              unfold zC3 at hbad
              rw [List.length_map] at hbad
              have hbad:zE1 cols l=false:=hbad
              rw [hbad] at w
              cases w
            rw [if_neg hp] at ep
            exact kE1 ep H3 ((z.trans zz).trans z3)
      | gone =>
        refine ⟨_,rfl,rfl,_,rfl,iteF ?_⟩
        refine ⟨_,rfl,_,rfl,a,c.sheet,dx,_,_,rfl,z _ _ h1,T.clS,T.nR,(by rw [lk1,lk0]),ra,_,rfl,.inr (z.kt.sqt hr1'),rfl,_,rfl,?_⟩
        by_cases hlast:at' = sh.rows.length
        · rw [decide_eq_true (by rw [hlast,rl])]
          refine iteT (kE1 ?_ H' z)
          rw [ep,hlast,List.drop_length,zA9]
        · rw [decide_eq_false (fun w=>hlast (by have:=V.int.inj w; omega))]
          have hal:at' < sh.rows.length:=by omega
          obtain ⟨r,hr',er⟩:∃ r,sh.rows[at']? = some r∧sh.rows.drop at' = r::sh.rows.drop (at' + 1):=⟨_,List.getElem?_eq_getElem hal,List.drop_eq_getElem_cons hal⟩
          rw [er,zA9] at ep
          refine iteF ⟨_,rfl,rfl,_,rfl,iteF ⟨_,rfl,_,_,rfl,rfl,?_⟩⟩
          exact ⟨at' + 1,_,_,acc,rs,rfl,hal,e1,pp,by omega,ep,z⟩
    · intro σ H' hI
      refine hide fun Gz zG=>?_
      obtain ⟨at',u5,u6,acc,rs,rfl,hat,e1,pp,rsl,ep,z⟩:=hI
      refine zG ?_; clear zG
      have al:=zAM pp
      rw [sl,List.drop_length] at ep
      refine ⟨_,rfl,_,rfl,a,c.sheet,dx,_,_,rfl,z _ _ h1,T.clS,T.nR,(by rw [lk1,lk0]),ra,_,rfl,.inr (z.kt.sqt hr1'),_,_,rfl,rfl,_,rfl,?_⟩
      by_cases hlast:at' < sh.rows.length
      · rw [decide_eq_true (show ((at':Nat):Int) < ((rvs.length:Nat):Int) by omega)]
        refine iteT (iteT (kE1 ?_ H' z))
        rw [ep,List.drop_eq_getElem_cons hlast,zA9]
      · rw [decide_eq_false (show ¬ ((at':Nat):Int) < ((rvs.length:Nat):Int) by omega)]
        have he:at' = sh.rows.length:=by omega
        rw [he,List.drop_length,zA9] at ep
        refine iteF ⟨_,rfl,D,_,rfl,.inl (SqL.of e1),_,_,rfl,rfl,_,rfl,?_⟩
        by_cases h256:rs.length≤256
        · rw [decide_eq_false (show ¬ (256:Int) < ((acc.length:Nat):Int) by omega)]
          refine iteF ⟨_,rfl,_,rfl,D,acc,rfl,.inl ⟨SqL.of e1,fun q hq=>?_⟩⟩
          intro p dp hp hdp ndp
          have zq:Same H (upd H' q (.tup acc)):=z.upd (z.free hq)
          have zn:Same (upd H' q (.tup acc)) (upd (upd (upd H' q (.tup acc)) dp (.own p)) p (.ins c.sheet dp [])):=(zAJ hdp).upd hp
          have wft:=wf_patch wf (kQ1 rs ep h256)
          refine ⟨p,dp,.ref na,.ref q,⟨cols,rs⟩,rfl,zAB,zAa _ _ _ _ (zq.trans zn).kt hc,⟨q,acc,rfl,zn.kt.sqt (SqT.of zAB),mono_row.pr ((zBd hq).trans zn.kt) pp⟩,wft,fun H5 S5 sb5=>⟨rfl,?_⟩⟩
          exact kQ _ (kQ1 rs ep h256) p H5 S5 (zq.trans (zB1 hp hdp sb5))
        · rw [decide_eq_true (show (256:Int) < ((acc.length:Nat):Int) by omega)]
          exact iteT (kE2 rs ep h256 H' z)
end
end Sh
set_option maxHeartbeats 2000000
namespace Sh
open PySem PySem.Spec PyProof.Rows L2 ShM
structure TxO (K:Fg) (mg:MG) (c:Cs):Prop where
 clS:Cls K c.sheet
 nC:NoAttr K c.sheet "columns"
 nR:NoAttr K c.sheet "rows"
 clD:Cls K c.diff
 nSt:NoAttr K c.diff "steps"
 cl:Cls K c.doings
 nO:NoAttr K c.doings "origin"
 nS:NoAttr K c.doings "sheet"
 nK:NoAttr K c.doings "kept_as"
 nP:NoAttr K c.doings "put_ahead"
 nT:NoAttr K c.doings "touched"
 keep:GI mg "KEEP" 0
 gone:GI mg "GONE" 1
 put:GI mg "PUT" 2
 nothing:GT0 K mg "NOTHING" c.nothing
 zip:mg "zip" = none
 any:mg "any" = none
 tuple:mg "tuple" = none
def zCl (K:Fg) (H:Hp) (v:V) (r:Option Sx01.Row):Prop:=match r with
 | none=>v = .non
 | some r=>zAy K H v r
theorem mono_optrow {K:Fg}:Mono (zCl K):=fun H H' v r k h=>by
 cases r with
 | none=>exact h
 | some r=>exact mono_row _ _ _ _ k h
abbrev IsRowsL (K:Fg):Hp→V→List Sx01.Row→Prop:=LstOf (zAy K)
theorem IsRowsL.same {K:Fg}{H H':Hp}{v:V}{l:List Sx01.Row} (h:IsRowsL K H v l) (k:Same H H'):IsRowsL K H' v l:=LstOf.same mono_row h k
def zFz (K:Fg) (H:Hp) (v:V) (x:Sx01.Step):Prop:=∃ a u,v = .ref a∧SqT K H a [.int (ShM.kindOf x),u]∧match x with
 | .put r=>zAy K H u r
 | _=>True
theorem mono_stepW {K:Fg}:Mono (zFz K):=fun H H' v x k ⟨a,u,e,h,h2⟩=>⟨a,u,e,k.sqt h,by
 cases x with
 | keep l=>trivial
 | gone=>trivial
 | put r=>exact mono_row _ _ _ _ k h2⟩
theorem IsStepL.w {K:Fg}{H:Hp}{v:V}{x:Sx01.Step} (h:IsStepL K H v x):zFz K H v x:=by
 obtain ⟨a,u,e,h1,h2⟩:=h
 refine ⟨a,u,e,h1,?_⟩
 cases x with
 | keep l=>trivial
 | gone=>trivial
 | put r=>exact h2
abbrev doF4 (oa xa ka pa:Addr):List (Str×V):=[("origin",.ref oa),("sheet",.ref xa),("kept_as",.ref ka),("put_ahead",.ref pa)]
abbrev doF (oa xa ka pa ta:Addr):List (Str×V):=[("origin",.ref oa),("sheet",.ref xa),("kept_as",.ref ka),("put_ahead",.ref pa),("touched",.ref ta)]
def cut3 (H:Hp) (a b d:Addr):Hp:=cutH (cutH (cutH H a) b) d
theorem cut3_n1 (H:Hp) (a b d:Addr):cut3 H a b d a=none:=by
 unfold cut3 cutH
 by_cases h1:a=d
 ·rw [if_pos h1]
 ·by_cases h2:a=b
  ·rw [if_neg h1,if_pos h2]
  ·rw [if_neg h1,if_neg h2,if_pos rfl]
theorem cut3_n2 (H:Hp) (a b d:Addr):cut3 H a b d b=none:=by
 unfold cut3 cutH
 by_cases h1:b=d
 ·rw [if_pos h1]
 ·rw [if_neg h1,if_pos rfl]
theorem cut3_n3 (H:Hp) (a b d:Addr):cut3 H a b d d=none:=zBP _ _
theorem zBx {H:Hp}{a b d x:Addr} (h1:x≠a) (h2:x≠b) (h3:x≠d):cut3 H a b d x=H x:=by
 unfold cut3
 rw [zBL h3,zBL h2,zBL h1]
theorem zFN (H:Hp) (a b d:Addr):Same (cut3 H a b d) H:=((zA5 _ _).trans (zA5 _ _)).trans (zA5 _ _)
theorem cut3_kt {H:Hp}{a b d:Addr}{xs ys zs:List V} (h1:H a=some (.lst xs)) (h2:H b=some (.lst ys)) (h3:H d=some (.lst zs)):KTup H (cut3 H a b d) :=
 ⟨fun x ws e=>by rw [zBx (zBA e h1 (by intro q; cases q)) (zBA e h2 (by intro q; cases q)) (zBA e h3 (by intro q; cases q))]; exact e,fun x ob u e=>by rw [zBx (zBA e h1 (by intro q; cases q)) (zBA e h2 (by intro q; cases q)) (zBA e h3 (by intro q; cases q))]; exact e⟩
theorem cut3_ks {H:Hp}{a b d:Addr}{xs ys zs:List V} (h1:H a=some (.lst xs)) (h2:H b=some (.lst ys)) (h3:H d=some (.lst zs)):KSh H (cut3 H a b d):=fun x o e s=>by
 have n:∀ {q:Addr}{ws:List V},H q=some (.lst ws)→x≠q:=fun {q ws} hq w=>by
  rw [w,hq] at e
  cases e
  exact s
 rw [zBx (n h1) (n h2) (n h3)]
 exact e
section
variable {P:Program}{w:World}{K:Fg}{mg:MG}{base:Heap}{c:Cs}
abbrev sGo:Stmt:=zAK (top 25) 1
theorem scGo:FnScope ["self","steps","at","kind","content"] ["self","steps"] (zAH sGo):=scm
def GoneThrough (K:Fg) (H:Hp) (ka pa:Addr) (o x:Sx01.Sheet):Prop:=∃ kvs pvs,H ka=some (.lst kvs)∧Paired (zCl K H) kvs ((Sx01.fatesOf o x).1.map Sx01.Fate.row)∧H pa=some (.lst pvs)∧Paired (IsRowsL K H) pvs ((Sx01.fatesOf o x).1.map Sx01.Fate.before++[(Sx01.fatesOf o x).2])
theorem GoneThrough.same {H H':Hp}{ka pa:Addr}{o x:Sx01.Sheet} (h:GoneThrough K H ka pa o x) (k:Same H H'):GoneThrough K H' ka pa o x:=by
 obtain ⟨kvs,pvs,h1,h2,h3,h4⟩:=h
 exact ⟨kvs,pvs,k _ _ h1,mono_optrow.pr k.kt h2,k _ _ h3,zAr (fun v r z=>z.same k) h4⟩
def spGo (K:Fg) (c:Cs):Sp:=fun vs H Q _=>∃ (p dx oa xa ka pa ia q:Addr) (svs:List V) (o x:Sx01.Sheet) (H0:Hp),vs=[.ref p,.ref q]∧H0 p=some (.ins c.doings dx (doF4 oa xa ka pa))∧H ka=some (.lst [])∧H pa=some (.lst [.ref ia])∧H ia=some (.lst [])∧ka≠ia∧Same H0 H ∧
 H0 ka=none∧H0 pa=none∧H0 ia=none∧SheetAt K c H0 xa x∧WF o∧H0 q=some (.lst svs)∧Paired (zFz K H0) svs (Sx01.steps o.cols x.cols o.rows x.rows)∧∀ H',GoneThrough K H' ka pa o x→Same H0 H'→Q .non H'
theorem ok_go {f:Addr}{fd:FuncData} (F:Fun K "go_through" "Doings.go_through" sGo f fd) (T:TxO K mg c):FnOk P w K mg base CX0 1 f fd ["self","steps"] (spGo K c):=by
  refine F.ok scGo (fun vs H Q E h=>?_) (fun cdv A outer s H vs Q E hr h=>?_)
  · obtain ⟨p,dx,oa,xa,ka,pa,ia,q,svs,o,x,H0,rfl,_⟩:=h
    rfl
  · refine hide fun Gz zG=>?_
    obtain ⟨p,dx,oa,xa,ka,pa,ia,q,svs,o,x,H0,rfl,hp,hka,hpa,hia,nki,s0,n1,n2,n3,Sx,wo,hq,hst,k⟩:=h
    have wx:=Sx.wf
    obtain ⟨dxx,xca,xra,xpa,xkv,hx1,hx2,hx3,hx4,hx5⟩:=Sx.ob
    obtain ⟨_,xrv,e0,xr1,xr2⟩:=id hx3
    cases e0
    refine zG ?_; clear zG
    have xl:=zAM xr2
    have sl:=zAM hst
    have lim:=zBH (a:=o.cols) (b:=x.cols) _ o.rows x.rows rfl
    have ol256:=wo.r256
    have xl256:=wx.r256
    refine ⟨_,zAD (zAN (i:=2) scGo.nd rfl (Or.inl rfl) zAZ)
      (zAF (zA6 PassesOwn.never rfl (zBi (pv 1)) (zB3 rfl (zAg (zAR (i:=3) scGo.nd rfl (Or.inl rfl)) (zAg (zAR (i:=4) scGo.nd rfl (Or.inl rfl)) zBb)))
        (zAD (zAk (zAX zBn (pv 3) (eg T.put) (zAb _))
          (zAF (zAT (zAw PySem.F.plainAttrs_list PySem.F.slot_list_append PySem.F.type_list_append zAW (zAn zAc (zAI (pv 0) rfl) (zFA zCz zAZ) (fun _ _=>rfl)) (zAA (pv 4) zAE))))
          (zAD (zAT (zAw PySem.F.plainAttrs_list PySem.F.slot_list_append PySem.F.type_list_append zAW (zAI (pv 0) rfl) (zAA (zGH (zAX zBn (pv 3) (eg T.keep) (zAb _)) (zAn zBW (zAI (zAI (pv 0) rfl) rfl) (pv 2) (fun _ _=>rfl)) pe_non) zAE)))
          (zAF (zAT (zAw PySem.F.plainAttrs_list PySem.F.slot_list_append PySem.F.type_list_append zAW (zAI (pv 0) rfl) (zAA (zAo zAE) zAE))))))
        (zAF (zAk (zAX op_ne (pv 3) (eg T.gone) (zAb _)) (zAF (zC6 (i:=2) scGo.nd rfl (Or.inl rfl) zAZ zDA)) zAY))))),?_⟩
    refine ⟨_,rfl,q,rfl,⟨_,SqL.of (s0 _ _ hq)⟩,zBw (K:=K) (a:=q) (xs:=svs) (fun t σ H'=>∃ (io jo:Nat) (u3 u4:Option V) (done:List Sx01.Step) (Fs:List Sx01.Fate) (ws:List Sx01.Row) (kvs pvs:List V) (la:Addr) (wvs:List V) (Hb:Hp),σ=[some (.ref p),some (.ref q),some (.int ((jo:Nat):Int)),u3,u4]∧io≤o.rows.length∧jo≤x.rows.length ∧
      Sx01.steps o.cols x.cols o.rows x.rows=done++Sx01.steps o.cols x.cols (o.rows.drop io) (x.rows.drop jo)∧done.length=t ∧
      (Sx01.fatesOf o x).1=Fs++(Sx01.fates o.cols x.cols (o.rows.drop io) (Sx01.steps o.cols x.cols (o.rows.drop io) (x.rows.drop jo)) ws).1∧(Sx01.fatesOf o x).2=(Sx01.fates o.cols x.cols (o.rows.drop io) (Sx01.steps o.cols x.cols (o.rows.drop io) (x.rows.drop jo)) ws).2 ∧
      H' ka=some (.lst kvs)∧Paired (zCl K H') kvs (Fs.map Sx01.Fate.row)∧H' pa=some (.lst (pvs++[.ref la]))∧Paired (IsRowsL K Hb) pvs (Fs.map Sx01.Fate.before)∧H' la=some (.lst wvs)∧Paired (zAy K H') wvs ws ∧
      Hb ka=none∧Hb pa=none∧Hb la=none∧Same Hb H'∧H0 la=none∧Same H0 H'∧ka≠la∧pa≠la∧Fs.length≤t∧ws.length≤t)
      ⟨0,0,none,none,[],[],[],[],[],ia,[],H0,rfl,Nat.zero_le _,Nat.zero_le _,rfl,rfl,rfl,rfl,hka,.nil,hpa,.nil,hia,.nil,n1,n2,n3,s0,n3,s0,nki,zBA hpa hia (by intro w; cases w),Nat.le_refl _,Nat.le_refl _⟩ ?_ ?_ ?_⟩
    · rintro t σ H' _ ⟨io,jo,u3,u4,done,Fs,ws,kvs,pvs,la,wvs,Hb,_,_,_,_,_,_,_,_,_,_,_,_,_,_,_,_,_,_,z,_⟩
      exact SqL.of (z _ _ hq)
    · intro t y σ H' hy hI
      refine hide fun Gz zG=>?_
      obtain ⟨io,jo,u3,u4,done,Fs,ws,kvs,pvs,la,wvs,Hb,rfl,hio,hjo,est,hdl,f1,f2,ek,pk,epa,ppa,ela,pla,b1,b2,b3,sb,nla,z,nkl,npl,fl,wl⟩:=hI
      have tl:t < svs.length:=(List.getElem?_eq_some_iff.mp hy).1
      have npk:pa≠ka:=fun w=>by
        rw [w,ek] at epa
        have epa:=HO.lst.inj (Option.some.inj epa)
        have h1:=zAM pk
        have h2:=zAM ppa
        rw [List.length_map] at h1 h2
        rw [epa,List.length_append] at h1
        simp at h1
        omega
      obtain ⟨st,hst',hcy⟩:=zAl hst hy
      obtain ⟨b,ct,rfl,hb,hct⟩:=mono_stepW _ _ _ _ z.kt hcy
      refine zG ?_; clear zG
      have hst2:(Sx01.steps o.cols x.cols (o.rows.drop io) (x.rows.drop jo))[0]? = some st:=by
        rw [est,List.getElem?_append_right (by omega),hdl,Nat.sub_self] at hst'
        exact hst'
      have szk:kvs.length < sizeLine:=small (m:=1000) (by have:=zAM pk; rw [List.length_map] at this; omega)
      have szp:(pvs++[V.ref la]).length < sizeLine:=small (m:=1000) (by have:=zAM ppa; rw [List.length_map] at this; rw [List.length_append,this]; simp; omega)
      have szw:wvs.length < sizeLine:=small (m:=1000) (by have:=zAM pla; omega)
      refine ⟨b,_,rfl,hb,rfl,_,_,rfl,_,_,rfl,rfl,?_⟩
      have next:∀ (H1:Hp) (v:V) (ro:Option Sx01.Row) (R:Hp→Prop),H1=upd H' ka (.lst (kvs++[v]))→zCl K H' v ro →
          (∀ H2 l2 Hb2,H2 ka=some (.lst (kvs++[v]))→Paired (zCl K H2) (kvs++[v]) ((Fs++[(⟨ws,ro⟩:Sx01.Fate)]).map Sx01.Fate.row)→H2 pa=some (.lst ((pvs++[.ref la])++[.ref l2]))→Paired (IsRowsL K Hb2) (pvs++[.ref la]) ((Fs++[(⟨ws,ro⟩:Sx01.Fate)]).map Sx01.Fate.before)→H2 l2=some (.lst [])→Hb2 ka=none→Hb2 pa=none→Hb2 l2=none→Same Hb2 H2→H0 l2=none→Same H0 H2→ka≠l2→pa≠l2→R H2) →
          (∀ l2,H1 l2=none→R (upd (upd H1 l2 (.lst [])) pa (.lst ((pvs++[.ref la])++[.ref l2])))):=by
        intro H1 v ro R eH1 hv hR l2 h2
        subst eH1
        have e1k:upd H' ka (.lst (kvs++[v])) ka=some (.lst (kvs++[v])):=zAB
        have nk2:ka≠l2:=zAC e1k h2
        have e1p:upd H' ka (.lst (kvs++[v])) pa=some (.lst (pvs++[.ref la])):=by rw [zAG npk]; exact epa
        have np2:pa≠l2:=zAC e1p h2
        have e1l:upd H' ka (.lst (kvs++[v])) la=some (.lst wvs):=by rw [zAG nkl.symm]; exact ela
        have nl2:la≠l2:=zAC e1l h2
        have kt:KTup H' (upd (upd (upd H' ka (.lst (kvs++[v]))) l2 (.lst [])) pa (.lst ((pvs++[.ref la])++[.ref l2]))) :=
          ((zAi ek).trans (zBd h2)).trans (zAi (by rw [zAG np2]; exact e1p))
        have up:∀ b' ob,b'≠ka→b'≠pa→H' b' = some ob→(upd (upd (upd H' ka (.lst (kvs++[v]))) l2 (.lst [])) pa (.lst ((pvs++[.ref la])++[.ref l2]))) b' = some ob:=fun b' ob g1 g2 e=>by
          have e':upd H' ka (.lst (kvs++[v])) b' = some ob:=by rw [zAG g1]; exact e
          rw [zAG g2,zAG (zAC e' h2)]
          exact e'
        have up0:Same H0 (upd (upd (upd H' ka (.lst (kvs++[v]))) l2 (.lst [])) pa (.lst ((pvs++[.ref la])++[.ref l2]))):=fun b' ob e=>up b' ob (zAC e n1) (zAC e n2) (z _ _ e)
        have h02:H0 l2=none:=by
          cases e:H0 l2 with
          | none=>rfl
          | some ob =>
            have:=z _ _ e
            rw [zAG nk2.symm,this] at h2
            cases h2
        have bb:Same Hb (cut3 (upd (upd (upd H' ka (.lst (kvs++[v]))) l2 (.lst [])) pa (.lst ((pvs++[.ref la])++[.ref l2]))) ka pa l2):=fun b' ob e=>by
          have e':=sb _ _ e
          have g3:b'≠l2:=fun w=>by
            rw [w] at e'
            rw [zAG nk2.symm,e'] at h2
            cases h2
          rw [zBx (zAC e b1) (zAC e b2) g3]
          exact up b' ob (zAC e b1) (zAC e b2) e'
        refine hR _ l2 (cut3 (upd (upd (upd H' ka (.lst (kvs++[v]))) l2 (.lst [])) pa (.lst ((pvs++[.ref la])++[.ref l2]))) ka pa l2) ?_ ?_ zAB ?_ ?_ (cut3_n1 _ _ _ _) (cut3_n2 _ _ _ _) (cut3_n3 _ _ _ _) (zFN _ _ _ _) h02 up0 nk2 np2
        · rw [zAG npk.symm,zAG nk2,zAB]
        · rw [List.map_append]
          exact zAv (mono_optrow.pr kt pk) (mono_optrow _ _ _ _ kt hv)
        · rw [List.map_append]
          refine zAv (zAr (fun v r zz=>zz.same bb) ppa) ⟨la,wvs,rfl,?_,mono_row.pr (kt.trans (cut3_kt (xs:=kvs++[v]) (ys:=(pvs++[.ref la])++[.ref l2]) (zs:=[]) (by rw [zAG npk.symm,zAG nk2,zAB]) zAB (by rw [zAG np2.symm,zAB]))) pla⟩
          rw [zBx nkl.symm npl.symm nl2]
          exact up la _ nkl.symm npl.symm ela
        · rw [zAG np2.symm,zAB]
      rcases zBa (a:=o.cols) (b:=x.cols) (o.rows.drop io) (x.rows.drop jo) with ⟨_,_,e⟩ | ⟨r,m',em,e⟩ | ⟨r,l',el,e⟩ | ⟨r,l',r2,m',el,em,e⟩
      · rw [e] at hst2
        cases hst2
      · -- put
        rw [e] at hst2 est f1 f2
        have hst2:=Option.some.inj hst2
        subst hst2
        have hjl:jo < x.rows.length:=by
          have:=congrArg List.length em
          rw [List.length_drop,List.length_cons] at this
          omega
        rw [List.drop_eq_getElem_cons hjl] at em
        obtain ⟨e2,e3⟩:=List.cons.inj em
        subst e2 e3
        rw [zFK] at f1 f2
        refine ⟨_,rfl,rfl,_,rfl,iteT ?_⟩
        refine ⟨_,rfl,p,c.doings,dx,_,_,rfl,z _ _ hp,T.cl,T.nP,(by rw [lk1,lk1,lk1,lk0]),1,rfl,pa,_,_,_,rfl,rfl,SqL.of epa,zGp _ _,.inl ⟨rfl,_,SqL.of ela⟩,_,rfl,la,_,_,rfl,rfl,ela,szw,?_⟩
        refine ⟨_,rfl,rfl,_,rfl,iteT ⟨_,rfl,_,_,rfl,rfl,?_⟩⟩
        have kt:KTup H' (upd H' la (.lst (wvs++[ct]))):=zAi ela
        exact ⟨io,jo+1,_,_,done++[.put x.rows[jo]],Fs,ws++[x.rows[jo]],kvs,pvs,la,wvs++[ct],Hb,rfl,hio,hjl,by rw [est,List.append_assoc]; rfl,by rw [List.length_append,hdl]; rfl,f1,f2,
          (by rw [zAG nkl]; exact ek),mono_optrow.pr kt pk,(by rw [zAG npl]; exact epa),ppa,zAB,zAv (mono_row.pr kt pla) (mono_row _ _ _ _ kt hct),b1,b2,b3,
          (fun b' ob e=>by rw [zAG (zAC e b3)]; exact sb _ _ e),nla,(fun b' ob e=>by rw [zAG (zAC e nla)]; exact z _ _ e),nkl,npl,by omega,by rw [List.length_append]; simp; omega⟩
      · -- gone
        rw [e] at hst2 est f1 f2
        have hst2:=Option.some.inj hst2
        subst hst2
        have hil:io < o.rows.length:=by
          have:=congrArg List.length el
          rw [List.length_drop,List.length_cons] at this
          omega
        rw [List.drop_eq_getElem_cons hil] at el f1 f2
        obtain ⟨e2,e3⟩:=List.cons.inj el
        subst e2 e3
        rw [zEE] at f1 f2
        refine ⟨_,rfl,rfl,_,rfl,iteF ?_⟩
        refine ⟨_,rfl,p,c.doings,dx,_,.ref ka,rfl,z _ _ hp,T.cl,T.nK,(by rw [lk1,lk1,lk0]),.inl ⟨rfl,_,SqL.of ek⟩,_,rfl,rfl,_,rfl,iteF ⟨ka,_,_,rfl,rfl,ek,szk,?_⟩⟩
        have zp1:upd H' ka (.lst (kvs++[.non])) p=some (.ins c.doings dx (doF4 oa xa ka pa)):=by rw [zAG (zAC hp n1)]; exact z _ _ hp
        refine ⟨_,rfl,p,c.doings,dx,_,.ref pa,rfl,zp1,T.cl,T.nP,(by rw [lk1,lk1,lk1,lk0]),.inl ⟨rfl,_,SqL.of (by rw [zAG npk]; exact epa)⟩,Nat.zero_le _,fun l2 h2=>⟨pa,_,_,rfl,rfl,(by
          rw [zAG (zAC (show upd H' ka (.lst (kvs++[.non])) pa=some (.lst (pvs++[.ref la])) by rw [zAG npk]; exact epa) h2),zAG npk]
          exact epa),szp,?_⟩⟩
        refine ⟨_,rfl,rfl,_,rfl,iteF ?_⟩
        refine next _ .non none _ rfl rfl (fun H2 l3 Hb2 g1 g2 g3 g4 g5 g6 g7 g8 g9 g10 g11 g12 g13=>?_) l2 h2
        exact ⟨io+1,jo,_,_,done++[.gone],Fs++[⟨ws,none⟩],[],kvs++[.non],pvs++[.ref la],l3,[],Hb2,rfl,hil,hjo,by rw [est,List.append_assoc]; rfl,by rw [List.length_append,hdl]; rfl,by rw [f1,List.append_assoc]; rfl,f2,
          g1,g2,g3,g4,g5,.nil,g6,g7,g8,g9,g10,g11,g12,g13,by rw [List.length_append]; simp; omega,Nat.zero_le _⟩
      · -- keep
        rw [e] at hst2 est f1 f2
        have hst2:=Option.some.inj hst2
        subst hst2
        have hil:io < o.rows.length:=by
          have:=congrArg List.length el
          rw [List.length_drop,List.length_cons] at this
          omega
        have hjl:jo < x.rows.length:=by
          have:=congrArg List.length em
          rw [List.length_drop,List.length_cons] at this
          omega
        rw [List.drop_eq_getElem_cons hil] at el f1 f2
        obtain ⟨e2,e3⟩:=List.cons.inj el
        subst e2 e3
        rw [List.drop_eq_getElem_cons hjl] at em
        obtain ⟨e2,e3⟩:=List.cons.inj em
        subst e2 e3
        rw [zED,zDV (wx.wid _ (List.getElem_mem hjl))] at f1 f2
        obtain ⟨xv,hxv,hxr⟩:=zAm xr2 (List.getElem?_eq_getElem hjl)
        refine ⟨_,rfl,rfl,_,rfl,iteF ?_⟩
        refine ⟨_,rfl,p,c.doings,dx,_,.ref ka,rfl,z _ _ hp,T.cl,T.nK,(by rw [lk1,lk1,lk0]),.inl ⟨rfl,_,SqL.of ek⟩,_,rfl,rfl,_,rfl,iteT ?_⟩
        refine ⟨_,rfl,p,c.doings,dx,_,_,rfl,z _ _ hp,T.cl,T.nS,(by rw [lk1,lk0]),xa,c.sheet,dxx,_,_,rfl,z _ _ hx1,T.clS,T.nR,(by rw [lk1,lk0]),_,rfl,xra,_,_,_,rfl,rfl,z.kt.sqt xr1,zAO hxv,ka,_,_,rfl,rfl,ek,szk,?_⟩
        have zp1:upd H' ka (.lst (kvs++[xv])) p=some (.ins c.doings dx (doF4 oa xa ka pa)):=by rw [zAG (zAC hp n1)]; exact z _ _ hp
        refine ⟨_,rfl,p,c.doings,dx,_,.ref pa,rfl,zp1,T.cl,T.nP,(by rw [lk1,lk1,lk1,lk0]),.inl ⟨rfl,_,SqL.of (by rw [zAG npk]; exact epa)⟩,Nat.zero_le _,fun l2 h2=>⟨pa,_,_,rfl,rfl,(by
          rw [zAG (zAC (show upd H' ka (.lst (kvs++[xv])) pa=some (.lst (pvs++[.ref la])) by rw [zAG npk]; exact epa) h2),zAG npk]
          exact epa),szp,?_⟩⟩
        refine ⟨_,rfl,rfl,_,rfl,iteT ⟨_,rfl,_,_,rfl,rfl,?_⟩⟩
        refine next _ xv (some x.rows[jo]) _ rfl (mono_row _ _ _ _ z.kt hxr) (fun H2 l3 Hb2 g1 g2 g3 g4 g5 g6 g7 g8 g9 g10 g11 g12 g13=>?_) l2 h2
        exact ⟨io+1,jo+1,_,_,done++[.keep (Sx01.changes o.cols x.cols o.rows[io] x.rows[jo])],Fs++[⟨ws,some x.rows[jo]⟩],[],kvs++[xv],pvs++[.ref la],l3,[],Hb2,rfl,hil,hjl,by rw [est,List.append_assoc]; rfl,by rw [List.length_append,hdl]; rfl,by rw [f1,List.append_assoc]; rfl,f2,
          g1,g2,g3,g4,g5,.nil,g6,g7,g8,g9,g10,g11,g12,g13,by rw [List.length_append]; simp; omega,Nat.zero_le _⟩
    · intro σ H' hI
      refine hide fun Gz zG=>?_
      obtain ⟨io,jo,u3,u4,done,Fs,ws,kvs,pvs,la,wvs,Hb,rfl,hio,hjo,est,hdl,f1,f2,ek,pk,epa,ppa,ela,pla,b1,b2,b3,sb,nla,z,nkl,npl,fl,wl⟩:=hI
      refine zG ?_; clear zG
      have hend:Sx01.steps o.cols x.cols (o.rows.drop io) (x.rows.drop jo)=[]:=by
        have:=congrArg List.length est
        rw [List.length_append] at this
        exact List.eq_nil_of_length_eq_zero (by omega)
      have hboth:o.rows.drop io=[]:=by
        rcases zBa (a:=o.cols) (b:=x.cols) (o.rows.drop io) (x.rows.drop jo) with ⟨e1,_,_⟩ | ⟨r,m',em,e⟩ | ⟨r,l',el,e⟩ | ⟨r,l',r2,m',el,em,e⟩
        · exact e1
        · rw [hend] at e; cases e
        · rw [hend] at e; cases e
        · rw [hend] at e; cases e
      rw [hend,hboth,zCi,List.append_nil] at f1
      rw [hend,hboth,zCi] at f2
      refine k H' ⟨kvs,pvs++[.ref la],ek,by rw [f1]; exact pk,epa,?_⟩ z
      rw [f1,f2]
      exact zAv (zAr (fun v r zz=>zz.same sb) ppa) ⟨la,wvs,rfl,ela,pla⟩
end
end Sh
set_option maxHeartbeats 2000000
namespace Sh
open PySem PySem.Spec PyProof.Rows L2 ShM
def rowD (r:Sx01.Row):PyData:=.tuple (r.map celD)
theorem dp_cels {K:Fg}{H:Hp}:∀ {vs:List V}{r:Sx01.Row},Paired (IsCel K H) vs r→DpAll K H vs (r.map celD)
 | _,_,.nil=>.nil
 | _,_,.cons h t=>.cons h.dp (dp_cels t)
theorem row_dp {K:Fg}{H:Hp}{v:V}{r:Sx01.Row} (h:zAy K H v r):Dp K H v (rowD r):=by
 obtain ⟨a,vs,rfl,h1,h2⟩:=h
 exact .tup h1 (dp_cels h2)
theorem zEo {α:Type} [DecidableEq α] {f:α→PyData} (hf:∀ x y,PyData.eqv (f x) (f y)=decide (x=y)):∀ x y:List α,PyData.eqvAll (x.map f) (y.map f)=decide (x=y)
 | [],[]=>rfl
 | [],_::_=>rfl
 | _::_,[]=>rfl
 | a::x,b::y=>by
  show (PyData.eqv (f a) (f b) && PyData.eqvAll (x.map f) (y.map f))=_
  rw [zEo hf x y,hf]
  by_cases h1:a=b
  ·subst h1
   by_cases h2:x=y
   ·subst h2
    simp
   ·simp [h2]
  ·simp [h1]
theorem rowD_eq (x y:Sx01.Row):PyData.eqv (rowD x) (rowD y)=decide (x=y):=zEo zBj x y
theorem zBp {α:Type}{f:α→PyData} (hf:∀ x,PyData.canLay0 (f x)=true):∀ x:List α,PyData.canLayAll0 (x.map f)=true
 | []=>rfl
 | a::r=>by
  show (PyData.canLay0 (f a) && PyData.canLayAll0 (r.map f))=true
  rw [zBp hf r,hf]
  rfl
theorem zB7 {α:Type}{f:α→PyData}{n:Nat} (hf:∀ x,PyData.depth (f x)≤n):∀ x:List α,PyData.depthAll (x.map f)≤n
 | []=>Nat.zero_le _
 | a::r=>by
  show max (PyData.depth (f a)) (PyData.depthAll (r.map f))≤n
  have h1:=zB7 hf r
  have h2:=hf a
  omega
theorem zEL (x:Sx01.Cell):PyData.canLay0 (celD x)=true:=zCT x
theorem zFM (x:Sx01.Cell):PyData.depth (celD x)≤1:=by
 show PyData.depthAll (x.map PyData.int)+1≤1
 rw [zCy]
 exact Nat.le_refl _
theorem zEK (r:Sx01.Row):PyData.canLay0 (rowD r)=true:=zBp zEL r
theorem zFL (r:Sx01.Row):PyData.depth (rowD r)≤2:=by
 show PyData.depthAll (r.map celD)+1≤2
 have:=zB7 zFM r
 omega
theorem zDy (r:Sx01.Row):SeqAt.shaped (rowD r)=true:=by
 unfold SeqAt.shaped
 rw [zEK,decide_eq_true (Nat.le_trans (zFL r) (by decide))]
 rfl
theorem zD5 {α β:Type} [DecidableEq β] [BEq β] [LawfulBEq β] (f g:α→β):∀ l:List α,(!decide (l.map f=l.map g))=l.any fun n=>f n != g n
 | []=>rfl
 | a::l=>by
  rw [List.any_cons,←zD5 f g l,List.map_cons,List.map_cons]
  by_cases h1:f a=g a
  ·by_cases h2:l.map f=l.map g
   ·simp [h1,h2]
   ·simp [h1,h2]
  ·simp [h1]
structure DoRd (K:Fg) (c:Cs) (H:Hp) (p:Addr) (o x:Sx01.Sheet):Prop where
 ob:∃ dx oa xa ka pa ta,H p=some (.ins c.doings dx (doF oa xa ka pa ta))∧SheetAt K c H oa o∧SheetAt K c H xa x∧GoneThrough K H ka pa o x
theorem DoRd.same {K:Fg}{c:Cs}{H H':Hp}{p:Addr}{o x:Sx01.Sheet} (h:DoRd K c H p o x) (k:Same H H'):DoRd K c H' p o x:=by
 obtain ⟨dx,oa,xa,ka,pa,ta,h1,h2,h3,h4⟩:=h.ob
 exact ⟨dx,oa,xa,ka,pa,ta,k _ _ h1,h2.same k,h3.same k,h4.same k⟩
def zCW (o x:Sx01.Sheet) (n:Sx01.Bytes):Bool:=x.cols.contains n && (o.cols.contains n && Sx01.touched o x n)
structure DoAt (K:Fg) (c:Cs) (H:Hp) (p:Addr) (o x:Sx01.Sheet):Prop where
 ob:∃ dx oa xa ka pa ta tk,H p=some (.ins c.doings dx (doF oa xa ka pa ta))∧SheetAt K c H oa o∧SheetAt K c H xa x∧GoneThrough K H ka pa o x∧H ta=some (.dT tk)∧∀ n,(valV tk (zCD n)).isSome=zCW o x n
theorem DoAt.same {K:Fg}{c:Cs}{H H':Hp}{p:Addr}{o x:Sx01.Sheet} (h:DoAt K c H p o x) (k:Same H H'):DoAt K c H' p o x:=by
 obtain ⟨dx,oa,xa,ka,pa,ta,tk,h1,h2,h3,h4,h5,h6⟩:=h.ob
 exact ⟨dx,oa,xa,ka,pa,ta,tk,k _ _ h1,h2.same k,h3.same k,h4.same k,k _ _ h5,h6⟩
theorem DoAt.rd {K:Fg}{c:Cs}{H:Hp}{p:Addr}{o x:Sx01.Sheet} (h:DoAt K c H p o x):DoRd K c H p o x:=by
 obtain ⟨dx,oa,xa,ka,pa,ta,tk,h1,h2,h3,h4,h5,h6⟩:=h.ob
 exact ⟨dx,oa,xa,ka,pa,ta,h1,h2,h3,h4⟩
def tst (o x:Sx01.Sheet) (n:Sx01.Bytes) (p:Sx01.Row×Sx01.Fate):Bool:=match p.2.row with
 | some r=>Sx01.cellOf x.cols r n != Sx01.cellOf o.cols p.1 n
 | none=>false
def tst2 (x:Sx01.Sheet) (n:Sx01.Bytes) (l:List Sx01.Row):Bool:=l.any fun r=>Sx01.cellOf x.cols r n != []
theorem zGx (o x:Sx01.Sheet) (n:Sx01.Bytes):Sx01.touched o x n=((o.rows.zip (Sx01.fatesOf o x).1).any (tst o x n) || ((Sx01.fatesOf o x).1.map Sx01.Fate.before++[(Sx01.fatesOf o x).2]).any (tst2 x n)):=by
 unfold Sx01.touched
 simp only
 rw [List.any_append,List.any_append,List.any_flatMap,List.any_map]
 congr 1
 congr 1
 simp [tst2]
section
variable {P:Program}{w:World}{K:Fg}{mg:MG}{base:Heap}{c:Cs}
abbrev mHas (P:Program) (w:World) (K:Fg) (mg:MG) (base:Heap) (c:Cs):Prop:=MCal P w K mg base CX0 1 c.sheet "has_column" ["self","name"] (spHas K c)
abbrev sTch:Stmt:=zAK (top 25) 2
theorem scTch:FnScope ["self","name","before","after","rows","row"] ["self","name"] (zAH sTch):=scm
def spTch (K:Fg) (c:Cs):Sp:=fun vs H Q _=>∃ (p:Addr) (v:V) (o x:Sx01.Sheet) (n:Sx01.Bytes),vs=[.ref p,v]∧DoRd K c H p o x∧zBq H v n∧∀ H',Same H H'→Q (.bl (Sx01.touched o x n)) H'
theorem ok_tch {f:Addr}{fd:FuncData} (F:Fun K "touches" "Doings.touches" sTch f fd) (T:TxO K mg c) (m1:mCbn P w K mg base c):FnOk P w K mg base CX0 2 f fd ["self","name"] (spTch K c):=by
  refine F.ok scTch (fun vs H Q E h=>?_) (fun cdv A outer s H vs Q E hr h=>?_)
  · obtain ⟨p,v,o,x,n,rfl,_⟩:=h
    rfl
  · refine hide fun Gz zG=>?_
    obtain ⟨p,v,o,x,n,rfl,R,hn,k⟩:=h
    obtain ⟨dx,oa,xa,ka,pa,ta,hp,So,Sx,kvs,pvs,hka,pk,hpa,pp⟩:=id R.ob
    obtain ⟨dxo,oca,ora,opa,okv,ho1,ho2,ho3,ho4,ho5⟩:=So.ob
    obtain ⟨dxx,xca,xra,xpa,xkv,hx1,hx2,hx3,hx4,hx5⟩:=Sx.ob
    obtain ⟨_,orv,e0,or1,or2⟩:=id ho3
    cases e0
    have ol:=zAM or2
    have kl:=zAM pk
    have wo:=So.wf
    have wx:=Sx.wf
    obtain ⟨fl,fok,f2ok,f2l⟩:=zA4 (o:=o) wx
    refine zG ?_; clear zG
    rw [List.length_map,fl] at kl
    rw [zGx] at k
    refine ⟨_,zAD (zA6 PassesOwn.never rfl (pi_zipTL rfl T.zip (zAA (zAI (zAI (pv 0) rfl) rfl) (zAA (zAI (pv 0) rfl) zAE))) (zB3 rfl (zAg (zAR (i:=2) scTch.nd rfl (Or.inl rfl)) (zAg (zAR (i:=3) scTch.nd rfl (Or.inl rfl)) zBb)))
        (zAD (zAk (pt_cmp (zGJ (pv 3))) (zAF zCM) zAY)
        (zAF (zAk (zAX (zDb hr.units) (em m1 T.clS hr zAU (zAI (pv 0) rfl) (zAA (pv 3) (zAA (pv 1) zAE))) (em m1 T.clS hr zAU (zAI (pv 0) rfl) (zAA (pv 2) (zAA (pv 1) zAE))) (zAb _)) (zAF (zAQ zEf)) zAY))))
      (zAD (zA6 PassesOwn.never rfl (zBi (zAI (pv 0) rfl)) (zAR (i:=4) scTch.nd rfl (Or.inl rfl))
        (zAF (zAk (zA2 (zAS (cr_any rfl) rfl T.any bt_any (zAA (zCo (own:=[("row",5)]) rfl scTch.nd (zBi (pv 4)) (zAp (by show blkC ["self","name","before","after","rows","row"] (zAH sTch) _ _=true; decide +kernel))
          (fun _ _ _ _ _=>zAR (i:=5) scTch.nd rfl (Or.inl rfl)) (fun _ _ _ _ _=>zBE) (fun _ _ _ _ _=>zB4 (neK (K:=K) rfl hr.units) (em m1 T.clS hr zAU (fldK (K:=K) rfl (pv 0) rfl) (zAA (pv 5) (zAA (pv 1) zAE))) (zEe (v:=.ref c.nothing) rfl T.nothing.1 rfl) (zAb _))) zAE))) (zAF (zAQ zEf)) zAY)))
      (zAF (zAQ zEf))),?_⟩
    refine ⟨_,rfl,p,c.doings,dx,_,.ref oa,rfl,hp,T.cl,T.nO,lk0,oa,c.sheet,dxo,_,.ref ora,rfl,ho1,T.clS,T.nR,(by rw [lk1,lk0]),_,rfl,p,c.doings,dx,_,.ref ka,rfl,hp,T.cl,T.nK,(by rw [lk1,lk1,lk0]),ora,ka,orv,kvs,rfl,or1,SqL.of hka,
      for_zipTL (K:=K) (a:=ora) (b:=ka) (xs:=orv) (ys:=kvs) (fun i σ H'=>∃ u2 u3,σ=[some (.ref p),some v,u2,u3,none,none]∧((o.rows.zip (Sx01.fatesOf o x).1).take i).any (tst o x n)=false∧Same H H') (by rw [ol,kl]) ⟨none,none,rfl,rfl,Same.refl H⟩ ?_ ?_ ?_⟩
    · rintro i σ H' _ ⟨_,_,_,_,z⟩
      exact ⟨z.kt.sqt or1,SqL.of (z _ _ hka)⟩
    · rintro i b a σ H' Tn hb ha ⟨u2,u3,rfl,hno,z⟩ hT
      obtain ⟨rb,hrb,hcb⟩:=zAl or2 hb
      obtain ⟨fr,hfr,hca⟩:=zAl pk ha
      obtain ⟨ft,hft,rfl⟩:∃ ft,(Sx01.fatesOf o x).1[i]? = some ft∧ft.row=fr:=by
        rw [List.getElem?_map] at hfr
        cases e:(Sx01.fatesOf o x).1[i]? with
        | none=>rw [e] at hfr; cases hfr
        | some ft=>rw [e] at hfr; exact ⟨ft,rfl,Option.some.inj hfr⟩
      have hz:(o.rows.zip (Sx01.fatesOf o x).1)[i]? = some (rb,ft):=by rw [List.getElem?_zip_eq_some]; exact ⟨hrb,hft⟩
      have zT:Same H (upd H' Tn (.tup [b,a])):=z.upd (z.free hT)
      refine ⟨Tn,_,rfl,SqT.of zAB,rfl,_,_,rfl,_,_,rfl,rfl,?_⟩
      refine ⟨_,rfl,_,rfl,?_⟩
      have ext:tst o x n (rb,ft)=false→((o.rows.zip (Sx01.fatesOf o x).1).take (i+1)).any (tst o x n)=false:=fun e=>by
        rw [zAh hz,List.any_append,hno,Bool.false_or,List.any_cons,e]
        rfl
      cases hrow:ft.row with
      | none =>
        rw [hrow] at hca
        have hca:a = .non:=hca
        subst hca
        exact iteT ⟨_,_,rfl,ext (by unfold tst; rw [hrow]),zT⟩
      | some r =>
        rw [hrow] at hca
        have hca:zAy K H a r:=hca
        obtain ⟨ra,rvs,rfl,q1,q2⟩:=id hca
        refine iteF ?_
        have rin:=(fok ft (List.mem_of_getElem? hft)).1 r hrow
        refine ⟨_,rfl,p,c.doings,dx,_,.ref xa,rfl,zT _ _ hp,T.cl,T.nS,(by rw [lk1,lk0]),xa,dxx,_,rfl,zT _ _ hx1,(by rw [lk1,lk1,lk1]; rfl),_,rfl,_,rfl,xa,x,.ref ra,v,r,n,rfl,Sx.same zT,mono_row _ _ _ _ zT.kt hca,wx.wid r rin,mono_name _ _ _ _ zT.kt hn,fun u1 hu1=>?_⟩
        refine ⟨_,rfl,p,c.doings,dx,_,.ref oa,rfl,zT _ _ hp,T.cl,T.nO,lk0,oa,dxo,_,rfl,zT _ _ ho1,(by rw [lk1,lk1,lk1]; rfl),_,rfl,_,rfl,oa,o,b,v,rb,n,rfl,So.same zT,mono_row _ _ _ _ zT.kt hcb,wo.wid rb (List.mem_of_getElem? hrb),mono_name _ _ _ _ zT.kt hn,fun u2' hu2=>?_⟩
        refine ⟨_,_,hu1.dp,hu2.dp,zAf _,zAf _,_,rfl,?_⟩
        rw [zBj]
        by_cases e:Sx01.cellOf x.cols r n=Sx01.cellOf o.cols rb n
        · rw [decide_eq_true e]
          refine iteF ⟨_,_,rfl,ext ?_,zT⟩
          unfold tst
          rw [hrow]
          simp [e]
        · rw [decide_eq_false e]
          refine iteT ?_
          have:(o.rows.zip (Sx01.fatesOf o x).1).any (tst o x n)=true:=by
            rw [List.any_eq_true]
            refine ⟨_,List.mem_of_getElem? hz,?_⟩
            unfold tst
            rw [hrow]
            simp [e]
          have k2:=k _ zT
          rw [this,Bool.true_or] at k2
          exact k2
    · rintro σ H1 ⟨u2,u3,rfl,hno,z1⟩
      have el:orv.length=(o.rows.zip (Sx01.fatesOf o x).1).length:=by rw [List.length_zip,fl,ol]; omega
      rw [el,List.take_length] at hno
      rw [hno,Bool.false_or] at k
      have pl:=zAM pp
      refine ⟨_,rfl,p,c.doings,dx,_,.ref pa,rfl,z1 _ _ hp,T.cl,T.nP,(by rw [lk1,lk1,lk1,lk0]),pa,rfl,⟨_,SqL.of (z1 _ _ hpa)⟩,zBw (K:=K) (a:=pa) (xs:=pvs) (fun i σ H'=>∃ u4,σ=[some (.ref p),some v,u2,u3,u4,none]∧(((Sx01.fatesOf o x).1.map Sx01.Fate.before++[(Sx01.fatesOf o x).2]).take i).any (tst2 x n)=false∧Same H H') ⟨none,rfl,rfl,z1⟩ ?_ ?_ ?_⟩
      · rintro i σ H' _ ⟨_,_,_,z⟩
        exact SqL.of (z _ _ hpa)
      · rintro i y σ H' hi ⟨u4,rfl,hno2,z⟩
        obtain ⟨rs,hrs,hcr⟩:=zAl pp hi
        obtain ⟨la,lvs,rfl,hl1,hl2⟩:=id hcr
        have ll:=zAM hl2
        have inx:∀ r∈rs,r∈x.rows:=fun r hr'=>by
          have:=List.mem_of_getElem? hrs
          rw [List.mem_append,List.mem_map,List.mem_singleton] at this
          rcases this with ⟨ft,h1,h2⟩ | h
          · exact (fok ft h1).2.1 r (h2 ▸ hr')
          · exact f2ok r (h ▸ hr')
        have rsl:rs.length≤256:=by
          have:=List.mem_of_getElem? hrs
          rw [List.mem_append,List.mem_map,List.mem_singleton] at this
          rcases this with ⟨ft,h1,h2⟩ | h
          · rw [←h2]; exact (fok ft h1).2.2
          · rw [h]; exact f2l
        refine ⟨_,rfl,la,rfl,⟨_,SqL.of (z _ _ hl1)⟩,fun D hD=>zFq (K:=K) (a:=la) (xs:=lvs) (fun j H''=>H'' D=some (.lst (((rs.take j).map fun r=>Sx01.cellOf x.cols r n != []).map V.bl))∧Same H' H'') ⟨zAB,zAJ hD⟩ ?_ ?_ ?_⟩
        · rintro j H'' _ ⟨_,zz⟩
          exact SqL.of (zz _ _ (z _ _ hl1))
        · rintro j yr H'' hj ⟨e1,zz⟩
          obtain ⟨r,hr',hcc⟩:=zAl hl2 hj
          have jl:j < lvs.length:=(List.getElem?_eq_some_iff.mp hj).1
          have zt:Same H H'':=z.trans zz
          refine ⟨rfl,yes ⟨_,rfl,p,c.doings,dx,_,.ref xa,rfl,zt _ _ hp,T.cl,T.nS,(by rw [lk1,lk0]),xa,dxx,_,rfl,zt _ _ hx1,(by rw [lk1,lk1,lk1]; rfl),_,rfl,_,rfl,xa,x,yr,v,r,n,rfl,Sx.same zt,mono_row _ _ _ _ zt.kt hcc,wx.wid r (inx r (List.mem_of_getElem? hr')),mono_name _ _ _ _ zt.kt hn,fun u1 hu1=>?_⟩⟩
          refine ⟨_,celD [],hu1.dp,IsCel.dp ⟨_,rfl,T.nothing.sq H''⟩,zAf _,zAf [],_,e1,small (m:=1000) (by rw [List.length_map,List.length_map,List.length_take]; omega),?_,zz.upd hD⟩
          rw [zAB,zAh hr',List.map_append,List.map_append,zBj]
          by_cases e:Sx01.cellOf x.cols r n=[]
          · simp [e]
          · simp [e]
        · rintro H'' ⟨e1,zz⟩
          rw [ll,List.take_length] at e1
          refine ⟨D,_,rfl,SqL.of e1,_,rfl,?_⟩
          have zt:Same H H'':=z.trans zz
          have ea:(rs.map fun r=>Sx01.cellOf x.cols r n != []).any id=tst2 x n rs:=by
            unfold tst2
            rw [List.any_map]
            rfl
          rw [ea]
          cases e:tst2 x n rs with
          | true =>
            refine iteT ?_
            have:((Sx01.fatesOf o x).1.map Sx01.Fate.before++[(Sx01.fatesOf o x).2]).any (tst2 x n)=true:=by
              rw [List.any_eq_true]
              exact ⟨rs,List.mem_of_getElem? hrs,e⟩
            have k2:=k _ zt
            rw [this] at k2
            exact k2
          | false =>
            refine iteF ⟨_,rfl,?_,zt⟩
            rw [zAh hrs,List.any_append,hno2,Bool.false_or,List.any_cons,e]
            rfl
      · rintro σ H' ⟨u4,rfl,hno2,z⟩
        rw [pl,List.take_length] at hno2
        rw [hno2] at k
        exact k _ z
abbrev mTch (P:Program) (w:World) (K:Fg) (mg:MG) (base:Heap) (c:Cs):Prop:=MCal P w K mg base CX0 2 c.doings "touches" ["self","name"] (spTch K c)
end
end Sh
set_option maxHeartbeats 2000000
namespace Sh
open PySem PySem.Spec PyProof.Rows L2 ShM
section
variable {P:Program}{w:World}{K:Fg}{mg:MG}{base:Heap}{c:Cs}
abbrev zHf:Stmt:=zAK (top 25) 3
theorem scRSeen:FnScope ["self","at","names","cells","name"] ["self","at","names"] (zAH zHf):=scm
def zHT (K:Fg) (c:Cs):Sp:=fun vs H Q _=>∃ (p:Addr) (i:Nat) (vn:V) (o x:Sx01.Sheet) (ns:List Sx01.Bytes) (ro rx:Sx01.Row) (ft:Sx01.Fate),vs=[.ref p,.int (i:Nat),vn]∧DoRd K c H p o x∧zA1 K H vn ns∧ns.length≤1000∧o.rows[i]? = some ro∧(Sx01.fatesOf o x).1[i]? = some ft∧ft.row=some rx ∧
 ∀ u H',zAy K H' u (ns.map fun n=>Sx01.seen o x ro rx n)→Same H H'→Q u H'
theorem ok_rseen {f:Addr}{fd:FuncData} (F:Fun K "row_seen" "Doings.row_seen" zHf f fd) (T:TxO K mg c) (m1:mCbn P w K mg base c) (m2:mHas P w K mg base c):FnOk P w K mg base CX0 2 f fd ["self","at","names"] (zHT K c):=by
  refine F.ok scRSeen (fun vs H Q E h=>?_) (fun cdv A outer s H vs Q E hr h=>?_)
  · obtain ⟨p,i,vn,o,x,ns,ro,rx,ft,rfl,_⟩:=h
    rfl
  · refine hide fun Gz zG=>?_
    obtain ⟨p,i,vn,o,x,ns,ro,rx,ft,rfl,R,hns,h1000,hro,hft,hrx,k⟩:=h
    obtain ⟨dx,oa,xa,ka,pa,ta,hp,So,Sx,kvs,pvs,hka,pk,hpa,pp⟩:=id R.ob
    obtain ⟨dxo,oca,ora,opa,okv,ho1,ho2,ho3,ho4,ho5⟩:=So.ob
    obtain ⟨dxx,xca,xra,xpa,xkv,hx1,hx2,hx3,hx4,hx5⟩:=Sx.ob
    obtain ⟨_,orv,e0,or1,or2⟩:=id ho3
    cases e0
    have wo:=So.wf
    have wx:=Sx.wf
    obtain ⟨fl,fok,f2ok,f2l⟩:=zA4 (o:=o) wx
    obtain ⟨na,nvs,rfl,hn1,hn2⟩:=id hns
    have nl:=zAM hn2
    obtain ⟨ov,hov,hor⟩:=zAm or2 hro
    obtain ⟨kv,hkv,hkr⟩:=zAm pk (show ((Sx01.fatesOf o x).1.map Sx01.Fate.row)[i]? = some (some rx) by rw [List.getElem?_map,hft,Option.map_some,hrx])
    refine zG ?_; clear zG
    have hkr:zAy K H kv rx:=hkr
    have rin:=(fok ft (List.mem_of_getElem? hft)).1 rx hrx
    refine ⟨_,zAD (zAN (i:=3) scRSeen.nd rfl (Or.inl rfl) (zAo zAE))
      (zAD (zA6 PassesOwn.never rfl (zBV (pv 2)) (zAR (i:=4) scRSeen.nd rfl (Or.inl rfl))
        (zAF (zAk (PW.pt (zC4 (zA2 (em m2 T.clS hr zAU (zAI (pv 0) rfl) (zAA (pv 4) zAE))) (zCL (zBm (zA2 (em m2 T.clS hr zAU (zAI (pv 0) rfl) (zAA (pv 4) zAE)))))))
          (zAF (zAT (zAw PySem.F.plainAttrs_list PySem.F.slot_list_append PySem.F.type_list_append zAW (pv 3) (zAA (em m1 T.clS hr zAU (zAI (pv 0) rfl) (zAA (zAn zBW (zAI (zAI (pv 0) rfl) rfl) (pv 1) (fun _ _=>rfl)) (zAA (pv 4) zAE))) zAE))))
          (zAF (zAT (zAw PySem.F.plainAttrs_list PySem.F.slot_list_append PySem.F.type_list_append zAW (pv 3) (zAA (em m1 T.clS hr zAU (zAI (pv 0) rfl) (zAA (zAn zAc (zAI (pv 0) rfl) (pv 1) (fun _ _=>rfl)) (zAA (pv 4) zAE))) zAE)))))))
      (zAF (zAQ (zAs zAe rfl T.tuple zBD (zAA (pv 3) zAE))))),?_⟩
    refine ⟨Nat.zero_le _,fun D hD=>?_⟩
    have z0:Same H (upd H D (.lst [])):=zAJ hD
    refine ⟨_,rfl,na,rfl,⟨_,z0.kt.sqt hn1⟩,zCw (K:=K) (a:=na) (xs:=nvs) (fun j σ H'=>∃ u4 acc,σ=[some (.ref p),some (.int (i:Nat)),some (.ref na),some (.ref D),u4]∧H' D=some (.lst acc)∧Paired (IsCel K H') acc ((ns.take j).map fun n=>Sx01.seen o x ro rx n)∧Same H H')
      ⟨none,[],rfl,zAB,.nil,z0⟩ ?_ ?_ ?_⟩
    · rintro j σ H' _ ⟨_,_,_,_,_,z⟩
      exact z.kt.sqt hn1
    · rintro j y σ H' hj ⟨u4,acc,rfl,e1,pc,z⟩
      obtain ⟨n,hn,hnm⟩:=zAl hn2 hj
      have al:=zAM pc
      rw [List.length_map,List.length_take] at al
      have jl:j < nvs.length:=(List.getElem?_eq_some_iff.mp hj).1
      have hnm':=mono_name _ _ _ _ z.kt hnm
      have fin:∀ u,IsCel K H' u (Sx01.seen o x ro rx n)→∃ u4 acc',([some (.ref p),some (.int (i:Nat)),some (.ref na),some (.ref D),some y]:L2.St)=[some (.ref p),some (.int (i:Nat)),some (.ref na),some (.ref D),u4]∧upd H' D (.lst (acc++[u])) D=some (.lst acc')∧Paired (IsCel K (upd H' D (.lst (acc++[u])))) acc' ((ns.take (j+1)).map fun n=>Sx01.seen o x ro rx n)∧Same H (upd H' D (.lst (acc++[u]))):=fun u hu=>by
        refine ⟨_,acc++[u],rfl,zAB,?_,z.upd hD⟩
        rw [zAh hn,List.map_append]
        exact zAv (mono_cel.pr (zAi e1) pc) (mono_cel _ _ _ _ (zAi e1) hu)
      have sz:acc.length < sizeLine:=small (m:=2000) (by omega)
      unfold Sx01.seen at fin
      refine ⟨_,rfl,p,c.doings,dx,_,.ref oa,rfl,z _ _ hp,T.cl,T.nO,lk0,oa,dxo,_,rfl,z _ _ ho1,(by rw [lk1,lk1,lk1]; rfl),_,rfl,oa,o,y,n,rfl,So.same z,hnm',_,rfl,?_⟩
      cases hco:o.cols.contains n with
      | true =>
        refine iteT ⟨_,rfl,p,c.doings,dx,_,.ref xa,rfl,z _ _ hp,T.cl,T.nS,(by rw [lk1,lk0]),xa,dxx,_,rfl,z _ _ hx1,(by rw [lk1,lk1,lk1]; rfl),_,rfl,xa,x,y,n,rfl,Sx.same z,hnm',_,rfl,?_⟩
        cases hcx:x.cols.contains n with
        | false =>
          refine iteT ⟨_,rfl,.inl ⟨rfl,_,SqL.of e1⟩,_,rfl,p,c.doings,dx,_,.ref oa,rfl,z _ _ hp,T.cl,T.nO,lk0,oa,dxo,_,rfl,z _ _ ho1,(by rw [lk1,lk1,lk1]; rfl),?_⟩
          refine ⟨_,rfl,p,c.doings,dx,_,.ref oa,rfl,z _ _ hp,T.cl,T.nO,lk0,oa,c.sheet,dxo,_,.ref ora,rfl,z _ _ ho1,T.clS,T.nR,(by rw [lk1,lk0]),_,rfl,ora,_,_,_,rfl,rfl,z.kt.sqt or1,zAO hov,_,rfl,oa,o,ov,y,ro,n,rfl,So.same z,mono_row _ _ _ _ z.kt hor,wo.wid ro (List.mem_of_getElem? hro),hnm',fun u hu=>⟨D,acc,u,rfl,rfl,e1,sz,?_⟩⟩
          have h0:Sx01.seen o x ro rx n=Sx01.cellOf o.cols ro n:=by
            unfold Sx01.seen
            rw [if_pos ⟨hco,hcx⟩]
          exact fin u (by rw [if_pos ⟨hco,hcx⟩]; exact hu)
        | true =>
          refine iteF ⟨_,rfl,.inl ⟨rfl,_,SqL.of e1⟩,_,rfl,p,c.doings,dx,_,.ref xa,rfl,z _ _ hp,T.cl,T.nS,(by rw [lk1,lk0]),xa,dxx,_,rfl,z _ _ hx1,(by rw [lk1,lk1,lk1]; rfl),?_⟩
          refine ⟨_,rfl,p,c.doings,dx,_,.ref ka,rfl,z _ _ hp,T.cl,T.nK,(by rw [lk1,lk1,lk0]),_,rfl,ka,_,_,_,rfl,rfl,SqL.of (z _ _ hka),zAO hkv,_,rfl,xa,x,kv,y,rx,n,rfl,Sx.same z,mono_row _ _ _ _ z.kt hkr,wx.wid rx rin,hnm',fun u hu=>⟨D,acc,u,rfl,rfl,e1,sz,?_⟩⟩
          exact fin u (by rw [if_neg (fun w=>by rw [hcx] at w; exact Bool.noConfusion w.2)]; exact hu)
      | false =>
        refine iteF (iteF ⟨_,rfl,.inl ⟨rfl,_,SqL.of e1⟩,_,rfl,p,c.doings,dx,_,.ref xa,rfl,z _ _ hp,T.cl,T.nS,(by rw [lk1,lk0]),xa,dxx,_,rfl,z _ _ hx1,(by rw [lk1,lk1,lk1]; rfl),?_⟩)
        refine ⟨_,rfl,p,c.doings,dx,_,.ref ka,rfl,z _ _ hp,T.cl,T.nK,(by rw [lk1,lk1,lk0]),_,rfl,ka,_,_,_,rfl,rfl,SqL.of (z _ _ hka),zAO hkv,_,rfl,xa,x,kv,y,rx,n,rfl,Sx.same z,mono_row _ _ _ _ z.kt hkr,wx.wid rx rin,hnm',fun u hu=>⟨D,acc,u,rfl,rfl,e1,sz,?_⟩⟩
        exact fin u (by rw [if_neg (fun w=>by rw [hco] at w; exact Bool.noConfusion w.1)]; exact hu)
    · rintro σ H' ⟨u4,acc,rfl,e1,pc,z⟩
      rw [nl,List.take_length] at pc
      refine ⟨_,rfl,D,acc,rfl,.inl ⟨SqL.of e1,fun q hq=>?_⟩⟩
      exact k _ _ ⟨q,acc,rfl,SqT.of zAB,mono_cel.pr (zBd hq) pc⟩ (z.upd (z.free hq))
abbrev zGT (P:Program) (w:World) (K:Fg) (mg:MG) (base:Heap) (c:Cs):Prop:=MCal P w K mg base CX0 2 c.doings "row_seen" ["self","at","names"] (zHT K c)
abbrev sChg:Stmt:=zAK (top 25) 4
theorem scChg:FnScope ["self","at","names"] ["self","at"] (zAH sChg):=scm
def spChg (K:Fg) (c:Cs):Sp:=fun vs H Q _=>∃ (p:Addr) (i:Nat) (o x:Sx01.Sheet) (ro rx:Sx01.Row) (ft:Sx01.Fate),vs=[.ref p,.int (i:Nat)]∧DoRd K c H p o x∧o.rows[i]? = some ro∧(Sx01.fatesOf o x).1[i]? = some ft∧ft.row=some rx ∧
 ∀ H',Same H H'→Q (.bl (Sx01.changed o x ro rx)) H'
theorem ok_chg {f:Addr}{fd:FuncData} (F:Fun K "has_changed" "Doings.has_changed" sChg f fd) (T:TxO K mg c) (m1:zGT P w K mg base c) (m2:mRbn P w K mg base c):FnOk P w K mg base CX0 3 f fd ["self","at"] (spChg K c):=by
 refine F.ok scChg (fun vs H Q E h=>?_) (fun cdv A outer s H vs Q E hr h=>?_)
 ·obtain ⟨p,i,o,x,ro,rx,ft,rfl,_⟩:=h
  rfl
 ·refine hide fun Gz zG=>?_
  obtain ⟨p,i,o,x,ro,rx,ft,rfl,R,hro,hft,hrx,k⟩:=h
  obtain ⟨dx,oa,xa,ka,pa,ta,hp,So,Sx,kvs,pvs,hka,pk,hpa,pp⟩:=id R.ob
  obtain ⟨dxo,oca,ora,opa,okv,ho1,ho2,ho3,ho4,ho5⟩:=So.ob
  obtain ⟨dxx,xca,xra,xpa,xkv,hx1,hx2,hx3,hx4,hx5⟩:=Sx.ob
  obtain ⟨_,orv,e0,or1,or2⟩:=id ho3
  cases e0
  obtain ⟨_,ocv,e0,oc1,oc2⟩:=id ho2
  cases e0
  obtain ⟨_,xcv,e0,xc1,xc2⟩:=id hx2
  cases e0
  have wo:=So.wf
  have wx:=Sx.wf
  have ocl:=zAM oc2
  have xcl:=zAM xc2
  have w1:=wo.c1
  have w2:=wx.c1
  have w3:=wo.c64
  have w4:=wx.c64
  obtain ⟨ov,hov,hor⟩:=zAm or2 hro
  refine zG ?_; clear zG
  refine ⟨_,zAD (zAN (i:=2) scChg.nd rfl (Or.inl rfl) (zA8 op_catT (zAI (zAI (pv 0) rfl) rfl) (zAI (zAI (pv 0) rfl) rfl)))
   (zAF (zAQ (zB4 (zDb hr.units) (em m1 T.cl hr zAU (pv 0) (zAA (pv 1) (zAA (pv 2) zAE))) (em m2 T.clS hr zAU (zAI (pv 0) rfl) (zAA (zAn zBW (zAI (zAI (pv 0) rfl) rfl) (pv 1) (fun _ _=>rfl)) (zAA (pv 2) zAE))) (zAb _)))),?_⟩
  refine ⟨_,rfl,p,c.doings,dx,_,.ref oa,rfl,hp,T.cl,T.nO,lk0,oa,c.sheet,dxo,_,.ref oca,rfl,ho1,T.clS,T.nC,lk0,?_⟩
  refine ⟨_,rfl,p,c.doings,dx,_,.ref xa,rfl,hp,T.cl,T.nS,(by rw [lk1,lk0]),xa,c.sheet,dxx,_,.ref xca,rfl,hx1,T.clS,T.nC,lk0,?_⟩
  refine ⟨oca,xca,ocv,xcv,rfl,rfl,oc1,xc1,(fun w=>by rw [w] at ocl; simp at ocl; omega),Nat.le_of_lt (small (m:=1000) (by omega)),(fun w=>by rw [w] at xcl; simp at xcl; omega),fun _ q hq=>?_⟩
  have z1:Same H (upd H q (.tup (ocv++xcv))):=zAJ hq
  have hns:zA1 K (upd H q (.tup (ocv++xcv))) (.ref q) (o.cols++x.cols):=⟨q,ocv++xcv,rfl,SqT.of zAB,zGE (mono_name.pr z1.kt oc2) (mono_name.pr z1.kt xc2)⟩
  refine ⟨_,rfl,p,dx,_,rfl,z1 _ _ hp,(by rw [lk1,lk1,lk1,lk1,lk1]; rfl),_,rfl,_,rfl,p,i,.ref q,o,x,o.cols++x.cols,ro,rx,ft,rfl,R.same z1,hns,by rw [List.length_append]; omega,hro,hft,hrx,fun u1 H2 hu1 z2=>?_⟩
  have z12:=z1.trans z2
  refine ⟨_,rfl,p,c.doings,dx,_,.ref oa,rfl,z12 _ _ hp,T.cl,T.nO,lk0,oa,dxo,_,rfl,z12 _ _ ho1,(by rw [lk1,lk1,lk1]; rfl),?_⟩
  refine ⟨_,rfl,p,c.doings,dx,_,.ref oa,rfl,z12 _ _ hp,T.cl,T.nO,lk0,oa,c.sheet,dxo,_,.ref ora,rfl,z12 _ _ ho1,T.clS,T.nR,(by rw [lk1,lk0]),_,rfl,ora,_,_,_,rfl,rfl,z12.kt.sqt or1,zAO hov,_,rfl,oa,o,ov,.ref q,ro,o.cols++x.cols,rfl,So.same z12,mono_row _ _ _ _ z12.kt hor,wo.wid ro (List.mem_of_getElem? hro),zAa _ _ _ _ z2.kt hns,by rw [List.length_append]; omega,fun u2 H3 hu2 z3=>?_⟩
  refine ⟨rowD _,rowD _,row_dp (mono_row _ _ _ _ z3.kt hu1),row_dp hu2,zDy _,zDy _,?_⟩
  rw [rowD_eq,zD5]
  exact k _ (z12.trans z3)
abbrev mChg (P:Program) (w:World) (K:Fg) (mg:MG) (base:Heap) (c:Cs):Prop:=MCal P w K mg base CX0 3 c.doings "has_changed" ["self","at"] (spChg K c)
abbrev zF7:Stmt:=zAK (top 25) 5
theorem scRsPut:FnScope ["self","at","names","row"] ["self","at","names"] (zAH zF7):=scm
def zHS (K:Fg) (c:Cs):Sp:=fun vs H Q _=>∃ (p:Addr) (i:Nat) (vn:V) (o x:Sx01.Sheet) (ns:List Sx01.Bytes) (rs:List Sx01.Row),vs=[.ref p,.int (i:Nat),vn]∧DoRd K c H p o x∧zA1 K H vn ns∧ns.length≤1000∧((Sx01.fatesOf o x).1.map Sx01.Fate.before++[(Sx01.fatesOf o x).2])[i]? = some rs ∧
 ∀ l H',IsRowsL K H' (.ref l) (rs.map fun r=>ns.map fun n=>Sx01.cellOf x.cols r n)→Same H H'→H l=none→Q (.ref l) H'
theorem ok_rsput {f:Addr}{fd:FuncData} (F:Fun K "rows_put" "Doings.rows_put" zF7 f fd) (T:TxO K mg c) (m2:mRbn P w K mg base c):FnOk P w K mg base CX0 3 f fd ["self","at","names"] (zHS K c):=by
 refine F.ok scRsPut (fun vs H Q E h=>?_) (fun cdv A outer s H vs Q E hr h=>?_)
 ·obtain ⟨p,i,vn,o,x,ns,rs,rfl,_⟩:=h
  rfl
 ·refine hide fun Gz zG=>?_
  obtain ⟨p,i,vn,o,x,ns,rs,rfl,R,hns,h1000,hrs,k⟩:=h
  obtain ⟨dx,oa,xa,ka,pa,ta,hp,So,Sx,kvs,pvs,hka,pk,hpa,pp⟩:=id R.ob
  obtain ⟨dxx,xca,xra,xpa,xkv,hx1,hx2,hx3,hx4,hx5⟩:=Sx.ob
  have wx:=Sx.wf
  obtain ⟨fl,fok,f2ok,f2l⟩:=zA4 (o:=o) wx
  obtain ⟨lv,hlv,la,lvs,rfl,hl1,hl2⟩:=zAm pp hrs
  refine zG ?_; clear zG
  have ll:=zAM hl2
  have inx:∀ r∈rs,r∈x.rows:=fun r hr'=>by
   have:=List.mem_of_getElem? hrs
   rw [List.mem_append,List.mem_map,List.mem_singleton] at this
   rcases this with ⟨ft,h1,h2⟩ | h
   ·exact (fok ft h1).2.1 r (h2 ▸ hr')
   ·exact f2ok r (h ▸ hr')
  have rsl:rs.length≤256:=by
   have:=List.mem_of_getElem? hrs
   rw [List.mem_append,List.mem_map,List.mem_singleton] at this
   rcases this with ⟨ft,h1,h2⟩ | h
   ·rw [←h2]; exact (fok ft h1).2.2
   ·rw [h]; exact f2l
  refine ⟨_,zAF (zAQ (zCo (own:=[("row",3)]) rfl scRsPut.nd (zBi (zAn zAc (zAI (pv 0) rfl) (pv 1) (fun _ _=>rfl))) (zAp (by show blkC ["self","at","names","row"] (zAH zF7) _ _=true; decide +kernel))
   (fun _ _ _ _ _=>zAR (i:=3) scRsPut.nd rfl (Or.inl rfl)) (fun _ _ _ _ _=>zBE) (fun _ _ _ _ _=>em m2 T.clS hr zAU (fldK (K:=K) rfl (pv 0) rfl) (zAA (pv 3) (zAA (pv 2) zAE))))),?_⟩
  refine ⟨_,rfl,p,c.doings,dx,_,.ref pa,rfl,hp,T.cl,T.nP,(by rw [lk1,lk1,lk1,lk0]),_,rfl,pa,_,_,_,rfl,rfl,SqL.of hpa,zAO hlv,la,rfl,⟨_,SqL.of hl1⟩,fun D hD=>zFq (K:=K) (a:=la) (xs:=lvs) (fun j H'=>∃ acc,H' D=some (.lst acc)∧Paired (zAy K H') acc ((rs.take j).map fun r=>ns.map fun n=>Sx01.cellOf x.cols r n)∧Same H H') ⟨[],zAB,.nil,zAJ hD⟩ ?_ ?_ ?_⟩
  ·rintro j H' _ ⟨_,_,_,z⟩
   exact SqL.of (z _ _ hl1)
  ·rintro j y H' hj ⟨acc,e1,pc,z⟩
   obtain ⟨r,hr',hcr⟩:=zAl hl2 hj
   have al:=zAM pc
   rw [List.length_map,List.length_take] at al
   refine ⟨rfl,yes ⟨_,rfl,p,c.doings,dx,_,.ref xa,rfl,z _ _ hp,T.cl,T.nS,(by rw [lk1,lk0]),xa,dxx,_,rfl,z _ _ hx1,(by rw [lk1,lk1,lk1]; rfl),_,rfl,_,rfl,xa,x,y,vn,r,ns,rfl,Sx.same z,mono_row _ _ _ _ z.kt hcr,wx.wid r (inx r (List.mem_of_getElem? hr')),zAa _ _ _ _ z.kt hns,h1000,fun u H2 hu z2=>?_⟩⟩
   refine ⟨acc,z2 _ _ e1,small (m:=1000) (by omega),acc++[u],zAB,?_,(z.trans z2).upd hD⟩
   rw [zAh hr',List.map_append]
   exact zAv (mono_row.pr (z2.kt.trans (zAi (z2 _ _ e1))) pc) (mono_row _ _ _ _ (zAi (z2 _ _ e1)) hu)
  ·rintro H' ⟨acc,e1,pc,z⟩
   rw [ll,List.take_length] at pc
   exact k D H' ⟨D,acc,rfl,e1,pc⟩ z hD
abbrev mRsPut (P:Program) (w:World) (K:Fg) (mg:MG) (base:Heap) (c:Cs):Prop:=MCal P w K mg base CX0 3 c.doings "rows_put" ["self","at","names"] (zHS K c)
end
end Sh
set_option maxHeartbeats 2000000
namespace Sh
open PySem PySem.Spec PyProof.Rows L2 ShM
theorem GoneThrough.sbi {K:Fg}{H H':Hp}{ka pa p C dx:Addr}{fs:List (Str×V)}{o x:Sx01.Sheet} (h:GoneThrough K H ka pa o x) (hp:H p=some (.ins C dx fs)) (k:SB [p] H H'):GoneThrough K H' ka pa o x:=by
 obtain ⟨kvs,pvs,h1,h2,h3,h4⟩:=h
 have kl:∀ {b:Addr}{xs:List V},H b=some (.lst xs)→H' b=some (.lst xs):=fun {b xs} e=>k _ _ e (by simpa using zBA e hp (by intro q; cases q))
 have kt:=kt_sb hp k
 refine ⟨kvs,pvs,kl h1,mono_optrow.pr kt h2,kl h3,zAr (fun v r ⟨a,vs,e,z1,z2⟩=>⟨a,vs,e,kl z1,mono_row.pr kt z2⟩) h4⟩
section
variable {P:Program}{w:World}{K:Fg}{mg:MG}{base:Heap}{c:Cs}
abbrev mGo (P:Program) (w:World) (K:Fg) (mg:MG) (base:Heap) (c:Cs):Prop:=MCal P w K mg base CX0 1 c.doings "go_through" ["self","steps"] (spGo K c)
abbrev cDf (P:Program) (w:World) (K:Fg) (mg:MG) (base:Heap) (c:Cs):Prop:=Cal P w K mg base CX0 3 "difference" ["one","other"] (spDf K c)
abbrev zHi:Stmt:=zAK (top 25) 0
theorem scOInit:FnScope ["self","origin","sheet","name"] ["self","origin","sheet"] (zAH zHi):=scm
def zHW (K:Fg) (c:Cs):Sp:=fun vs H Q _=>∃ (p dx oa xa:Addr) (o x:Sx01.Sheet),vs=[.ref p,.ref oa,.ref xa]∧H p=some (.ins c.doings dx [])∧SheetAt K c H oa o∧SheetAt K c H xa x∧∀ H',DoAt K c H' p o x→SB [p] H H'→Q .non H'
theorem ok_oinit {f:Addr}{fd:FuncData} (F:Fun K "__init__" "Doings.__init__" zHi f fd) (T:TxO K mg c) (m1:mGo P w K mg base c) (m2:mHas P w K mg base c) (m3:mTch P w K mg base c) (c1:cDf P w K mg base c) :
    FnOk P w K mg base CX0 4 f fd ["self","origin","sheet"] (zHW K c):=by
  refine F.ok scOInit (fun vs H Q E h=>?_) (fun cdv A outer s H vs Q E hr h=>?_)
  · obtain ⟨p,dx,oa,xa,o,x,rfl,_⟩:=h
    rfl
  · refine hide fun Gz zG=>?_
    obtain ⟨p,dx,oa,xa,o,x,rfl,hp,So,Sx,k⟩:=h
    refine zG ?_; clear zG
    have hu:=hu_of hr
    have hr1:Room 1 _:=hr.mono (by decide)
    have hr2:Room 2 _:=hr.mono (by decide)
    refine ⟨_,zAD (zA7 (pv 0) (pv 1) rfl) (zAD (zA7 (pv 0) (pv 2) rfl) (zAD (zA7 (pv 0) (zAo zAE) rfl) (zAD (zA7 (pv 0) (zAo (zAA (zAo zAE) zAE)) rfl)
      (zAD (zAT (em m1 T.cl hr1 zAU (pv 0) (zAA (zAI (ec c1 hr zAU (zAA (pv 1) (zAA (pv 2) zAE))) rfl) zAE)))
      (zAD (zA7 (pv 0) zGI rfl)
      (zAF (zA6 PassesOwn.never rfl (zBV (zAI (pv 2) rfl)) (zAR (i:=3) scOInit.nd rfl (Or.inl rfl))
        (zAF (zAk (PW.pt (zC4 (zA2 (em m2 T.clS hr1 zAU (pv 1) (zAA (pv 3) zAE))) (zCL (zA2 (em m3 T.cl hr2 zAU (pv 0) (zAA (pv 3) zAE))))))
          (zAF (ps_dput hu (zAI (pv 0) rfl) (pv 3) zEf rfl)) zAY))))))))),?_⟩
    refine ⟨_,rfl,_,rfl,p,c.doings,dx,[],rfl,hp,T.cl,T.nO,(by decide),?_⟩
    rw [pf0]
    refine ⟨_,rfl,_,rfl,p,c.doings,dx,_,rfl,zAB,T.cl,T.nS,(by show 1 < 1000; decide),?_⟩
    rw [zBh,pf1,pf0]
    generalize hH2:upd H p (.ins c.doings dx [("origin",.ref oa),("sheet",.ref xa)])=H2
    have sb2:SB [p] H H2:=by rw [←hH2]; exact zDX
    have e2:H2 p=some (.ins c.doings dx [("origin",.ref oa),("sheet",.ref xa)]):=by rw [←hH2]; exact zAB
    clear hH2
    refine ⟨Nat.zero_le _,fun ka hka=>?_⟩
    have npk:p≠ka:=zAC e2 hka
    refine ⟨_,rfl,p,c.doings,dx,_,rfl,(by rw [zAG npk]; exact e2),T.cl,T.nK,(by show 2 < 1000; decide),?_⟩
    rw [pf1,pf1,pf0]
    generalize hH3:upd (upd H2 ka (.lst [])) p (.ins c.doings dx [("origin",.ref oa),("sheet",.ref xa),("kept_as",.ref ka)])=H3
    have sb3:SB [p] H2 H3:=fun b ob e n=>by
      rw [←hH3,zAG (by simpa using n),zAG (zAC e hka)]
      exact e
    have e3:H3 p=some (.ins c.doings dx [("origin",.ref oa),("sheet",.ref xa),("kept_as",.ref ka)]):=by rw [←hH3]; exact zAB
    have k3:H3 ka=some (.lst []):=by rw [←hH3,zAG npk.symm,zAB]
    clear hH3
    have nkp:ka∉[p]:=by simpa using npk.symm
    have fka:H ka=none:=(sb2.free nkp hka)
    refine ⟨Nat.zero_le _,fun ia hia=>⟨(by show 1≤sizeLine; decide),fun pa hpa=>?_⟩⟩
    have npi:p≠ia:=zAC e3 hia
    have nki:ka≠ia:=zAC k3 hia
    have npp:p≠pa:=zAC (show upd H3 ia (.lst []) p=some _ by rw [zAG npi]; exact e3) hpa
    have nkpa:ka≠pa:=zAC (show upd H3 ia (.lst []) ka=some _ by rw [zAG nki]; exact k3) hpa
    have nip:ia≠pa:=zAC (show upd H3 ia (.lst []) ia=some (.lst []) from zAB) hpa
    refine ⟨_,rfl,p,c.doings,dx,_,rfl,(by rw [zAG npp,zAG npi]; exact e3),T.cl,T.nP,(by show 3 < 1000; decide),?_⟩
    rw [pf1,pf1,pf1,pf0]
    generalize hH4:upd (upd (upd H3 ia (.lst [])) pa (.lst [.ref ia])) p (.ins c.doings dx (doF4 oa xa ka pa))=H4
    have hpa3:H3 pa=none:=by rw [zAG nip.symm] at hpa; exact hpa
    have sb4:SB [p] H3 H4:=fun b ob e n=>by
      rw [←hH4,zAG (by simpa using n),zAG (zAC e hpa3),zAG (zAC e hia)]
      exact e
    have e4:H4 p=some (.ins c.doings dx (doF4 oa xa ka pa)):=by rw [←hH4]; exact zAB
    have k4:H4 ka=some (.lst []):=sb4 _ _ k3 nkp
    have i4:H4 ia=some (.lst []):=by rw [←hH4,zAG npi.symm,zAG nip,zAB]
    have p4:H4 pa=some (.lst [.ref ia]):=by rw [←hH4,zAG npp.symm,zAB]
    clear hH4
    have sb24:SB [p] H H4:=(sb2.trans sb3).trans sb4
    have fia:H ia=none:=(sb2.trans sb3).free (by simpa using npi.symm) hia
    have fpa:H pa=none:=(sb2.trans sb3).free (by simpa using npp.symm) hpa3
    have ks4:KSh H H4:=zCf hp (by decide) sb24
    refine ⟨_,rfl,p,dx,_,rfl,e4,(by rw [lk1,lk1,lk1,lk1]; rfl),?_⟩
    refine ⟨_,rfl,_,rfl,oa,xa,o,x,rfl,So.ks ks4,Sx.ks ks4,fun H5 dp q hd z5 ndp nq=>?_⟩
    refine hide fun Gz zG=>?_
    obtain ⟨ddx,hd1,_,svs,e0,hs1,hs2⟩:=hd
    cases e0
    refine zG ?_; clear zG
    refine ⟨dp,c.diff,ddx,_,.ref q,rfl,hd1,T.clD,T.nSt,(by rw [lk1,lk0]),?_⟩
    have nqk:q≠ka:=fun w=>by rw [w,k4] at nq; cases nq
    have nqp:q≠pa:=fun w=>by rw [w,p4] at nq; cases nq
    have nqi:q≠ia:=fun w=>by rw [w,i4] at nq; cases nq
    have k5:=z5 _ _ k4
    have i5:=z5 _ _ i4
    have p5:=z5 _ _ p4
    have ks5:KSh H H5:=ks4.trans z5.ks
    have ksc:=cut3_ks k5 p5 i5
    have ktc:=cut3_kt k5 p5 i5
    refine ⟨p,dx,oa,xa,ka,pa,ia,q,svs,o,x,cut3 H5 ka pa ia,rfl,(by rw [zBx npk npp npi]; exact z5 _ _ e4),k5,p5,i5,nki,zFN _ _ _ _,cut3_n1 _ _ _ _,cut3_n2 _ _ _ _,cut3_n3 _ _ _ _,Sx.ks (ks5.trans ksc),So.wf,(by rw [zBx nqk nqp nqi]; exact hs1),
      mono_stepW.pr ktc (zAr (fun v y z=>z.w) hs2),fun H6 G z6=>?_⟩
    have e6:H6 p=some (.ins c.doings dx (doF4 oa xa ka pa)):=z6 _ _ (by rw [zBx npk npp npi]; exact z5 _ _ e4)
    have sb6:SB [p] H H6:=fun b ob e n=>z6 _ _ (by
      rw [zBx (zAC e fka) (zAC e fpa) (zAC e fia)]
      exact z5 _ _ (sb24 _ _ e n))
    have ks6:KSh H H6:=zCf hp (by decide) sb6
    intro td htd
    have npt:p≠td:=zAC e6 htd
    refine ⟨_,rfl,p,c.doings,dx,_,rfl,(by rw [zAG npt]; exact e6),T.cl,T.nT,(by show 4 < 1000; decide),?_⟩
    rw [pf1,pf1,pf1,pf1,pf0]
    generalize hH7:upd (upd H6 td (.dT [])) p (.ins c.doings dx (doF oa xa ka pa td))=H7
    have sb7:SB [p] H6 (cutH H7 td):=fun b ob e n=>by
      rw [zBL (zAC e htd),←hH7,zAG (by simpa using n),zAG (zAC e htd)]
      exact e
    have e7:cutH H7 td p=some (.ins c.doings dx (doF oa xa ka pa td)):=by rw [zBL npt,←hH7]; exact zAB
    have t7:H7 td=some (.dT []):=by rw [←hH7,zAG npt.symm,zAB]
    clear hH7
    have ks7:KSh H6 (cutH H7 td):=zCf e6 (by show (4:Nat)≠3; decide) sb7
    have Sob:SheetAt K c (cutH H7 td) oa o:=So.ks (ks6.trans ks7)
    have Sxb:SheetAt K c (cutH H7 td) xa x:=Sx.ks (ks6.trans ks7)
    have Gb:GoneThrough K (cutH H7 td) ka pa o x:=G.sbi e6 sb7
    have Rb:DoRd K c (cutH H7 td) p o x:=⟨dx,oa,xa,ka,pa,td,e7,Sob,Sxb,Gb⟩
    have ftd:H td=none:=sb6.free (by simpa using npt.symm) htd
    refine hide fun Gz zG=>?_
    obtain ⟨dxx,xca,xra,xpa,xkv,hx1,hx2,hx3,hx4,hx5⟩:=Sxb.ob
    obtain ⟨_,xcv,e0,xc1,xc2⟩:=id hx2
    cases e0
    obtain ⟨dxo,oca,ora,opa,okv,ho1,ho2,ho3,ho4,ho5⟩:=Sob.ob
    refine zG ?_; clear zG
    have xcl:=zAM xc2
    have w64:=Sx.wf.c64
    refine ⟨_,rfl,xa,c.sheet,dxx,_,.ref xca,rfl,zA5 _ _ _ _ hx1,T.clS,T.nC,lk0,xca,rfl,⟨_,(zA5 _ _).kt.sqt xc1⟩,zCw (K:=K) (a:=xca) (xs:=xcv) (fun i σ H'=>∃ u3 tk,σ=[some (.ref p),some (.ref oa),some (.ref xa),u3]∧H' td=some (.dT tk)∧tk.length≤i ∧
      (∀ n,(valV tk (zCD n)).isSome=((x.cols.take i).contains n && (o.cols.contains n && Sx01.touched o x n)))∧Same (cutH H7 td) H') ⟨none,[],rfl,t7,Nat.le_refl _,(fun n=>rfl),zA5 _ _⟩ ?_ ?_ ?_⟩
    · rintro i σ H' _ ⟨_,_,_,_,_,_,z⟩
      exact z.kt.sqt xc1
    · intro i y σ H' hi hI
      refine hide fun Gz zG=>?_
      obtain ⟨u3,tk,rfl,htk,tl,hv,z⟩:=hI
      obtain ⟨n,hn,hnm⟩:=zAl xc2 hi
      refine zG ?_; clear zG
      have il:i < xcv.length:=(List.getElem?_eq_some_iff.mp hi).1
      have hnm':=mono_name _ _ _ _ z.kt hnm
      have snoc:∀ m,(x.cols.take (i+1)).contains m=((x.cols.take i).contains m || m == n):=fun m=>by
        rw [zAh hn,List.contains_eq_any_beq,List.any_append,←List.contains_eq_any_beq]
        simp
      refine ⟨_,rfl,oa,dxo,_,rfl,z _ _ ho1,(by rw [lk1,lk1,lk1]; rfl),_,rfl,oa,o,y,n,rfl,Sob.same z,hnm',_,rfl,?_⟩
      cases hco:o.cols.contains n with
      | false =>
        refine iteF (iteF ⟨_,tk,rfl,htk,by omega,fun m=>?_,z⟩)
        rw [hv m,snoc m]
        by_cases e:m=n
        · subst e
          rw [hco]
          simp
        · rw [beq_eq_false_iff_ne.mpr e,Bool.or_false]
      | true =>
        refine iteT ⟨_,rfl,p,dx,_,rfl,z _ _ e7,(by rw [lk1,lk1,lk1,lk1,lk1]; rfl),_,rfl,p,y,o,x,n,rfl,Rb.same z,hnm',fun H8 z8=>⟨_,rfl,?_⟩⟩
        have z78:=z.trans z8
        cases htc:Sx01.touched o x n with
        | false =>
          refine iteF ⟨_,tk,rfl,z8 _ _ htk,by omega,fun m=>?_,z78⟩
          rw [hv m,snoc m]
          by_cases e:m=n
          · subst e
            rw [htc]
            simp
          · rw [beq_eq_false_iff_ne.mpr e,Bool.or_false]
        | true =>
          obtain ⟨ya,rfl,hya⟩:=mono_name _ _ _ _ z8.kt hnm'
          refine iteT ⟨_,rfl,p,c.doings,dx,_,.ref td,rfl,z78 _ _ e7,T.cl,T.nT,(by rw [lk1,lk1,lk1,lk1,lk0]),_,rfl,td,_,rfl,DPut.t (k:=zCD n) (z8 _ _ htk) (by rw [zC9]; exact hya) (small (m:=100) (by omega)),?_⟩
          refine ⟨_,_,rfl,zAB,Nat.le_trans (zBu _ _ _) (by omega),fun m=>?_,fun b ob e=>?_⟩
          · rw [zF0,snoc m]
            by_cases e:m=n
            · subst e
              rw [if_pos rfl,hco,htc]
              simp
            · rw [if_neg (fun w=>e (key_inj w)),hv m,beq_eq_false_iff_ne.mpr e,Bool.or_false]
          · rw [zAG (zAC e (zBP _ _))]
            exact z78 _ _ e
    · intro σ H' hI
      refine hide fun Gz zG=>?_
      obtain ⟨u3,tk,rfl,htk,tl,hv,z⟩:=hI
      refine zG ?_; clear zG
      rw [xcl,List.take_length] at hv
      refine k H' ⟨dx,oa,xa,ka,pa,td,tk,z _ _ e7,Sob.same z,Sxb.same z,Gb.same z,htk,hv⟩ fun b ob e n=>?_
      exact z _ _ (sb7 _ _ (sb6 _ _ e n) n)
abbrev kDoings (P:Program) (w:World) (K:Fg) (mg:MG) (base:Heap) (c:Cs):Prop:=KCal P w K mg base CX0 4 "Doings" c.doings ["self","origin","sheet"] (zHW K c)
end
end Sh
set_option maxHeartbeats 2000000
namespace Sh
open PySem PySem.Spec PyProof.Rows L2 ShM
structure TxJ (K:Fg) (mg:MG) (c:Cs):Prop where
 clS:Cls K c.sheet
 nC:NoAttr K c.sheet "columns"
 nR:NoAttr K c.sheet "rows"
 clO:Cls K c.doings
 nS:NoAttr K c.doings "sheet"
 nK:NoAttr K c.doings "kept_as"
 nT:NoAttr K c.doings "touched"
 cl:Cls K c.joining
 nO:NoAttr K c.joining "origin"
 nA:NoAttr K c.joining "by_a"
 nB:NoAttr K c.joining "by_b"
 nCo:NoAttr K c.joining "columns"
 nRo:NoAttr K c.joining "rows"
 nU:NoAttr K c.joining "untold"
 clJ:Cls K c.joined
 nJs:NoAttr K c.joined "sheet"
 nJu:NoAttr K c.joined "untold"
 cellU:GI mg "CELL_UNTOLD" 1
 rowU:GI mg "ROW_UNTOLD" 2
 colU:GI mg "COLUMN_UNTOLD" 3
 takA:GI mg "TAKER_A" 1
 takB:GI mg "TAKER_B" 2
 mostC:GI mg "MOST_COLUMNS" 64
 mostR:GI mg "MOST_ROWS" 256
 enum:mg "enumerate" = none
 range:mg "range" = none
 len:mg "len" = none
 tuple:mg "tuple" = none
 joinE:ExcC K mg "NotJoinable" c.eJoin
def zBR (n:Sx01.Bytes):PyData:=celD (n.map fun (x:Nat)=>(x:Int))
theorem zEj (x y:Sx01.Bytes):PyData.eqv (zBR x) (zBR y)=decide (x=y):=by
 unfold zBR
 rw [zBj]
 by_cases h:x=y
 ·subst h; simp
 ·rw [decide_eq_false h,decide_eq_false (fun w=>h (zGm _ _ w))]
theorem zEi {K:Fg}{H:Hp}{v:V}{n:Sx01.Bytes} (h:zBq H v n):Dp K H v (zBR n):=(zGS h).dp
theorem zB6 {K:Fg}{H:Hp}:∀ {vs:List V}{ns:List Sx01.Bytes},Paired (zBq H) vs ns→DpAll K H vs (ns.map zBR)
 | _,_,.nil=>.nil
 | _,_,.cons h t=>.cons (zEi h) (zB6 t)
theorem zBs (n:Sx01.Bytes):SeqAt.shaped (zBR n)=true:=zAf _
theorem zDo (n:Sx01.Bytes):PyData.canLay0 (zBR n)=true:=zEL _
theorem zEG (n:Sx01.Bytes):PyData.depth (zBR n)≤1:=zFM _
theorem zC2 (ns:List Sx01.Bytes):SeqAt.shaped (.list (ns.map zBR))=true:=by
 unfold SeqAt.shaped
 have h1:PyData.canLay0 (.list (ns.map zBR))=true:=zBp zDo ns
 have h2:PyData.depth (.list (ns.map zBR))≤2:=by
  show PyData.depthAll (ns.map zBR)+1≤2
  have:=zB7 zEG ns
  omega
 rw [h1,decide_eq_true (Nat.le_trans h2 (by decide))]
 rfl
def zD6 (ns:List Sx01.Bytes):PyData:=.tuple (ns.map zBR)
theorem zC1 (ns:List Sx01.Bytes):SeqAt.shaped (zD6 ns)=true:=by
 unfold SeqAt.shaped
 have h1:PyData.canLay0 (zD6 ns)=true:=zBp zDo ns
 have h2:PyData.depth (zD6 ns)≤2:=by
  show PyData.depthAll (ns.map zBR)+1≤2
  have:=zB7 zEG ns
  omega
 rw [h1,decide_eq_true (Nat.le_trans h2 (by decide))]
 rfl
theorem namesD_eq (x y:List Sx01.Bytes):PyData.eqv (zD6 x) (zD6 y)=decide (x=y):=zEo zEj x y
theorem zGQ {K:Fg}{H:Hp}{v:V}{ns:List Sx01.Bytes} (h:zA1 K H v ns):Dp K H v (zD6 ns):=by
 obtain ⟨a,vs,rfl,h1,h2⟩:=h
 exact .tup h1 (zB6 h2)
theorem zD4:∀ x y:List Int,SeqAt.noMixAll (x.map PyData.int) (y.map PyData.int)=true
 | [],[]=>rfl
 | [],_::_=>rfl
 | _::_,[]=>rfl
 | a::x,b::y=>by
  show (SeqAt.noMix (.int a) (.int b) && SeqAt.noMixAll (x.map PyData.int) (y.map PyData.int))=true
  rw [zD4 x y]
  rfl
theorem zCq (x y:Sx01.Bytes):SeqAt.noMix (zBR x) (zBR y)=true:=zD4 _ _
theorem zDl (n:Sx01.Bytes) (ns:List Sx01.Bytes):decide (countIn (zBR n) (ns.map zBR)≠0)=ns.contains n:=by
 rw [←PyProof.Rows.any_eqv_countIn _ _ (fun y hy=>by
  obtain ⟨m,_,rfl⟩:=List.mem_map.mp hy
  exact zCq m n),List.any_map,List.contains_eq_any_beq]
 congr 1
 funext m
 show PyData.eqv (zBR m) (zBR n)=(n == m)
 rw [zEj]
 by_cases h:m=n
 ·subst h; simp
 ·rw [decide_eq_false h]
  exact (beq_eq_false_iff_ne.mpr (fun w=>h w.symm)).symm
theorem nameV_inj {a b:Sx01.Bytes} (h:zCr a=zCr b):a=b:=by
 unfold zCr at h
 exact (List.map_inj_right (fun x y e=>by have:=V.int.inj e; omega)).mp h
theorem zGP {H:Hp}:∀ {vs:List V}{ns:List Sx01.Bytes},Paired (zBq H) vs ns→ns.Nodup→vs.Nodup
 | _,_,.nil,_=>by simp
 | v::vs,n::ns,.cons h t,hn=>by
  obtain ⟨h1,h2⟩:=List.nodup_cons.mp hn
  refine List.nodup_cons.mpr ⟨fun hm=>h1 ?_,zGP t h2⟩
  obtain ⟨i,hi,e⟩:=List.getElem_of_mem hm
  obtain ⟨m,hm1,hm2⟩:=zAl t (show vs[i]? = some v by rw [List.getElem?_eq_getElem hi,e])
  obtain ⟨a,rfl,ha⟩:=h
  obtain ⟨b,e2,hb⟩:=hm2
  cases e2
  rw [ha] at hb
  have:=nameV_inj (HO.tup.inj (Option.some.inj hb))
  rw [this]
  exact List.mem_of_getElem? hm1
theorem pr_take {α β:Type}{F:α→β→Prop}:∀ {l:List α}{m:List β} (i:Nat),Paired F l m→Paired F (l.take i) (m.take i)
 | _,_,0,_=>.nil
 | _,_,_+1,.nil=>.nil
 | _,_,i+1,.cons h t=>.cons h (pr_take i t)
theorem pr_drop {α β:Type}{F:α→β→Prop}:∀ {l:List α}{m:List β} (i:Nat),Paired F l m→Paired F (l.drop i) (m.drop i)
 | _,_,0,h=>h
 | _,_,_+1,.nil=>.nil
 | _,_,i+1,.cons _ t=>pr_drop i t
section
variable {P:Program}{w:World}{K:Fg}{mg:MG}{base:Heap}{c:Cs}
abbrev sUnt:Stmt:=top 38
theorem scUnt:FnScope ["before","by_a","by_b"] ["before","by_a","by_b"] (zAH sUnt):=scm
def spUnt (K:Fg):Sp:=fun vs H Q _=>∃ (v0 va vb:V) (o a b:Sx01.Cell),vs=[v0,va,vb]∧IsCel K H v0 o∧IsCel K H va a∧IsCel K H vb b∧Q (.bl (Sx01.three o a b).2) H
theorem ok_unt {f:Addr}{fd:FuncData} (F:Fun K "is_untold" "is_untold" sUnt f fd):FnOk P w K mg base CX0 1 f fd ["before","by_a","by_b"] (spUnt K):=by
 refine F.ok scUnt (fun vs H Q E h=>?_) (fun cdv A outer s H vs Q E hr h=>?_)
 ·obtain ⟨v0,va,vb,o,a,b,rfl,_⟩:=h
  rfl
 ·refine hide fun Gz zG=>?_
  obtain ⟨v0,va,vb,o,a,b,rfl,h0,ha,hb,k⟩:=h
  refine zG ?_; clear zG
  refine ⟨_,zAF (zAQ (pe_and (zB4 (zDb hr.units) (pv 1) (pv 2) (zAb _)) (pe_and (zB4 (zDb hr.units) (pv 1) (pv 0) (zAb _)) (pe_one (zB4 (zDb hr.units) (pv 2) (pv 0) (zAb _)))))),?_⟩
  unfold Sx01.three at k
  refine ⟨_,rfl,_,rfl,_,_,ha.dp,hb.dp,zAf _,zAf _,_,rfl,?_⟩
  rw [zBj]
  by_cases h1:a=b
  ·rw [if_pos h1] at k
   rw [decide_eq_true h1]
   exact iteF k
  ·rw [if_neg h1] at k
   rw [decide_eq_false h1]
   refine iteT ⟨_,rfl,_,rfl,_,_,ha.dp,h0.dp,zAf _,zAf _,_,rfl,?_⟩
   rw [zBj]
   by_cases h2:a=o
   ·rw [if_pos h2] at k
    rw [decide_eq_true h2]
    exact iteF k
   ·rw [if_neg h2] at k
    rw [decide_eq_false h2]
    refine iteT ⟨_,rfl,_,rfl,_,_,hb.dp,h0.dp,zAf _,zAf _,?_⟩
    rw [zBj]
    by_cases h3:b=o
    ·rw [if_pos h3] at k
     rw [decide_eq_true h3]
     exact k
    ·rw [if_neg h3] at k
     rw [decide_eq_false h3]
     exact k
abbrev cUnt (P:Program) (w:World) (K:Fg) (mg:MG) (base:Heap):Prop:=Cal P w K mg base CX0 1 "is_untold" ["before","by_a","by_b"] (spUnt K)
abbrev sStay:Stmt:=top 40
theorem scStay:FnScope ["origin","by_a","by_b","name"] ["origin","by_a","by_b","name"] (zAH sStay):=scm
def zF5 (K:Fg) (c:Cs):Sp:=fun vs H Q _=>∃ (oa pa pb:Addr) (v:V) (o a b:Sx01.Sheet) (n:Sx01.Bytes),vs=[.ref oa,.ref pa,.ref pb,v]∧SheetAt K c H oa o∧DoAt K c H pa o a∧DoAt K c H pb o b∧zBq H v n∧(a.cols.contains n || b.cols.contains n)=true∧Q (.bl (Sx01.staysCol o a b n)) H
theorem ok_stay {f:Addr}{fd:FuncData} (F:Fun K "stays" "stays" sStay f fd) (T:TxJ K mg c) (m1:mHas P w K mg base c):FnOk P w K mg base CX0 2 f fd ["origin","by_a","by_b","name"] (zF5 K c):=by
  refine F.ok scStay (fun vs H Q E h=>?_) (fun cdv A outer s H vs Q E hr h=>?_)
  · obtain ⟨oa,pa,pb,v,o,a,b,n,rfl,_⟩:=h
    rfl
  · refine hide fun Gz zG=>?_
    obtain ⟨oa,pa,pb,v,o,a,b,n,rfl,So,Da,Db,hn,hab,k⟩:=h
    have hu:=hu_of hr
    obtain ⟨dxa,_,aa,_,_,ata,atk,ha1,_,Sa,_,ha2,ha3⟩:=Da.ob
    obtain ⟨dxb,_,ba,_,_,bta,btk,hb1,_,Sb,_,hb2,hb3⟩:=Db.ob
    obtain ⟨dxo,oca,ora,opa,okv,ho1,_⟩:=So.ob
    obtain ⟨dxa2,_,_,_,_,hsa1,_⟩:=Sa.ob
    obtain ⟨dxb2,_,_,_,_,hsb1,_⟩:=Sb.ob
    obtain ⟨na,rfl,hna⟩:=id hn
    refine zG ?_; clear zG
    refine ⟨_,zAD (zAk (zBm (zA2 (em m1 T.clS hr zAU (pv 0) (zAA (pv 3) zAE)))) (zAF (zAQ zEf)) zAY)
      (zAD (zAk (PW.pt (zC4 (zA2 (em m1 T.clS hr zAU (zAI (pv 1) rfl) (zAA (pv 3) zAE))) (zCL (zA2 (em m1 T.clS hr zAU (zAI (pv 2) rfl) (zAA (pv 3) zAE)))))) (zAF (zAQ zEf)) zAY)
      (zAF (zAQ (pe_or (zFB (zGK hu (pv 3) (zAI (pv 1) rfl))) (pe_one (zFB (zGK hu (pv 3) (zAI (pv 2) rfl)))))))),?_⟩
    unfold Sx01.staysCol at k
    refine ⟨_,rfl,oa,dxo,_,rfl,ho1,(by rw [lk1,lk1,lk1]; rfl),_,rfl,oa,o,.ref na,n,rfl,So,hn,_,rfl,?_⟩
    cases hco:o.cols.contains n with
    | false =>
      rw [hco,hab] at k
      exact iteT k
    | true =>
      rw [hco,if_pos rfl] at k
      refine iteF ?_
      refine ⟨_,rfl,pa,c.doings,dxa,_,.ref aa,rfl,ha1,T.clO,T.nS,(by rw [lk1,lk0]),aa,dxa2,_,rfl,hsa1,(by rw [lk1,lk1,lk1]; rfl),_,rfl,aa,a,.ref na,n,rfl,Sa,hn,_,rfl,?_⟩
      cases hca:a.cols.contains n with
      | false =>
        rw [hca,Bool.false_or] at hab
        have hk:Q (.bl (zCW o a n || zCW o b n)) H:=by
          rw [hca,hab] at k
          unfold zCW
          rw [hca,hab,hco]
          exact k
        refine iteF (iteF ?_)
        refine ⟨_,rfl,_,rfl,pa,c.doings,dxa,_,.ref ata,rfl,ha1,T.clO,T.nT,(by rw [lk1,lk1,lk1,lk1,lk0]),ata,_,rfl,DGet.t (k:=zCD n) ha2 (by rw [zC9]; exact hna),_,rfl,?_⟩
        rw [ha3 n]
        cases e1:zCW o a n with
        | true =>
          rw [e1,Bool.true_or] at hk
          exact iteT hk
        | false =>
          rw [e1,Bool.false_or] at hk
          refine iteF ⟨_,rfl,_,rfl,pb,c.doings,dxb,_,.ref bta,rfl,hb1,T.clO,T.nT,(by rw [lk1,lk1,lk1,lk1,lk0]),bta,_,rfl,DGet.t (k:=zCD n) hb2 (by rw [zC9]; exact hna),?_⟩
          rw [hb3 n]
          exact hk
      | true =>
        refine iteT ⟨_,rfl,pb,c.doings,dxb,_,.ref ba,rfl,hb1,T.clO,T.nS,(by rw [lk1,lk0]),ba,dxb2,_,rfl,hsb1,(by rw [lk1,lk1,lk1]; rfl),_,rfl,ba,b,.ref na,n,rfl,Sb,hn,_,rfl,?_⟩
        cases hcb:b.cols.contains n with
        | true =>
          rw [hca,hcb] at k
          exact iteT k
        | false =>
          have hk:Q (.bl (zCW o a n || zCW o b n)) H:=by
            rw [hca,hcb] at k
            unfold zCW
            rw [hca,hcb,hco,Bool.false_and,Bool.or_false]
            exact k
          refine iteF ?_
          refine ⟨_,rfl,_,rfl,pa,c.doings,dxa,_,.ref ata,rfl,ha1,T.clO,T.nT,(by rw [lk1,lk1,lk1,lk1,lk0]),ata,_,rfl,DGet.t (k:=zCD n) ha2 (by rw [zC9]; exact hna),_,rfl,?_⟩
          rw [ha3 n]
          cases e1:zCW o a n with
          | true =>
            rw [e1,Bool.true_or] at hk
            exact iteT hk
          | false =>
            rw [e1,Bool.false_or] at hk
            refine iteF ⟨_,rfl,_,rfl,pb,c.doings,dxb,_,.ref bta,rfl,hb1,T.clO,T.nT,(by rw [lk1,lk1,lk1,lk1,lk0]),bta,_,rfl,DGet.t (k:=zCD n) hb2 (by rw [zC9]; exact hna),?_⟩
            rw [hb3 n]
            exact hk
abbrev cStay (P:Program) (w:World) (K:Fg) (mg:MG) (base:Heap) (c:Cs):Prop:=Cal P w K mg base CX0 2 "stays" ["origin","by_a","by_b","name"] (zF5 K c)
abbrev sPBN:Stmt:=top 41
theorem scPBN:FnScope ["joined","columns","place"] ["joined","columns","place"] (zAH sPBN):=scm
def zDZ (cols:List Sx01.Bytes) (i:Nat):Option Sx01.Bytes:=if i=0 then none else cols[i - 1]?
def spPBN (K:Fg):Sp:=fun vs H Q _=>∃ (ja:Addr) (vc:V) (i:Nat) (jvs:List V) (J cols:List Sx01.Bytes),vs=[.ref ja,vc,.int (i:Nat)]∧H ja=some (.lst jvs)∧Paired (zBq H) jvs J∧J.Nodup∧zA1 K H vc cols∧i < cols.length ∧
 ∀ r:Nat,r≤J.length→(∀ n,Sx01.putBehind n (zDZ cols i) J=J.take r++n::J.drop r)→Q (.int (r:Nat)) H
theorem ok_pbn {f:Addr}{fd:FuncData} (F:Fun K "place_behind_neighbour" "place_behind_neighbour" sPBN f fd):FnOk P w K mg base CX0 1 f fd ["joined","columns","place"] (spPBN K):=by
 refine F.ok scPBN (fun vs H Q E h=>?_) (fun cdv A outer s H vs Q E hr h=>?_)
 ·obtain ⟨ja,vc,i,jvs,J,cols,rfl,_⟩:=h
  rfl
 ·refine hide fun Gz zG=>?_
  obtain ⟨ja,vc,i,jvs,J,cols,rfl,hj,pj,nd,⟨ca,cvs,rfl,hc1,hc2⟩,il,k⟩:=h
  refine zG ?_; clear zG
  have hu65:(A.deeper (envOfC "place_behind_neighbour" (zAH sPBN) s.heap.objs.size f cdv)).units+65 < cLine:=Nat.lt_of_le_of_lt (Nat.add_le_add_left (by decide:65≤16 * 0+200) _) hr.un
  have hui:(A.deeper (envOfC "place_behind_neighbour" (zAH sPBN) s.heap.objs.size f cdv)).in1.units+64 < cLine:=by
   have h0:(A.deeper (envOfC "place_behind_neighbour" (zAH sPBN) s.heap.objs.size f cdv)).in1.units≤(A.deeper (envOfC "place_behind_neighbour" (zAH sPBN) s.heap.objs.size f cdv)).units+1:=Nat.le_refl _
   omega
  refine ⟨_,zAD (zAk (PW.pt (zG1 (zAX zBn (pv 2) zAZ (zAb _)) (zD0 (zAX (zFC hu65) (zAn zBW (pv 1) (zA8 zD2 (pv 2) zAZ) (fun _ _=>rfl)) (pv 0) (by with_unfolding_all rfl))))) (zAF (zAQ zAZ)) zAY)
   (zAF (zAQ (zA8 zBK (zAw PySem.F.plainAttrs_list PySem.F.slot_list_index PySem.F.type_list_index (mt_indexD hui) (pv 0) (zAA (zAn zBW (pv 1) (zA8 zD2 (pv 2) zAZ) (fun _ _=>rfl)) zAE)) zAZ))),?_⟩
  refine ⟨_,rfl,rfl,_,rfl,?_⟩
  by_cases h0:i=0
  ·subst h0
   rw [decide_eq_true (show V.int ((0:Nat):Int)=V.int 0 from rfl)]
   refine iteT (iteT (k 0 (Nat.zero_le _) fun n=>?_))
   unfold zDZ Sx01.putBehind
   rfl
  ·rw [decide_eq_false (fun w=>h0 (by have:=V.int.inj w; omega))]
   obtain ⟨q,rfl⟩:∃ q,i=q+1:=⟨i - 1,by omega⟩
   obtain ⟨pn,hpn⟩:∃ pn,cols[q]? = some pn:=⟨_,List.getElem?_eq_getElem (by omega)⟩
   have epv:zDZ cols (q+1)=some pn:=by
    unfold zDZ
    rw [if_neg (by omega)]
    exact hpn
   obtain ⟨pv',hpv,hnm⟩:=zAm hc2 hpn
   have ej:V.int (((q+1:Nat):Int) - 1)=V.int (q:Int):=by congr 1; omega
   refine iteF ⟨_,rfl,_,rfl,_,_,rfl,rfl,ca,_,((q:Nat):Int),_,rfl,ej,hc1,zAO hpv,_,rfl,ja,jvs,zBR pn,J.map zBR,rfl,SqL.of hj,zB6 pj,zEi hnm,zC2 J,zBs pn,(fun e he=>by
    obtain ⟨m,_,rfl⟩:=List.mem_map.mp he
    exact zCq m pn),_,rfl,?_⟩
   rw [zDl]
   cases hin:J.contains pn with
   | false =>
    refine iteT (k 0 (Nat.zero_le _) fun n=>?_)
    rw [epv]
    unfold Sx01.putBehind
    have:J.findIdx? (fun m=>m == pn)=none:=by
     rw [List.findIdx?_eq_none_iff]
     intro m hm
     refine beq_eq_false_iff_ne.mpr fun w=>?_
     rw [w] at hm
     rw [List.contains_iff_mem.mpr hm] at hin
     cases hin
    simp only [Option.bind_some,this]
    rfl
   | true =>
    have hmem:pn∈J:=List.contains_iff_mem.mp hin
    obtain ⟨r,hr1,hr2⟩:=List.getElem_of_mem hmem
    have hjr:J[r]? = some pn:=by rw [List.getElem?_eq_getElem hr1,hr2]
    have hf:J.findIdx? (fun m=>m == pn)=some r:=by
     rw [List.findIdx?_eq_some_iff_getElem]
     refine ⟨hr1,by rw [hr2]; exact beq_self_eq_true _,fun r' hr'=>?_⟩
     intro w
     have w:=eq_of_beq w
     have:=nd_ix nd (show J[r']? = some pn by rw [List.getElem?_eq_getElem (by omega),w]) hjr
     omega
    obtain ⟨jv,hjv,jad,rfl,hja⟩:=zAm pj hjr
    refine iteF ⟨_,rfl,.inl ⟨rfl,_,SqL.of hj⟩,_,rfl,_,rfl,_,_,rfl,rfl,ca,_,((q:Nat):Int),_,rfl,ej,hc1,zAO hpv,ja,jvs,pv',r,zBR pn,J.map zBR,rfl,rfl,SqL.of hj,zB6 pj,zEi hnm,(fun e he=>by
     obtain ⟨m,_,rfl⟩:=List.mem_map.mp he
     exact zBs m),zBs pn,zGP pj nd,⟨jad,hjv⟩,(fun m e he=>?_),_,_,rfl,rfl,?_⟩
    ·rw [List.getElem?_map] at he
     cases e1:J[m]? with
     | none=>rw [e1] at he; cases he
     | some x =>
      rw [e1] at he
      have he:=Option.some.inj he
      rw [←he,zEj]
      by_cases w:m=r
      ·subst w
       rw [hjr] at e1
       rw [Option.some.inj e1]
       simp
      ·rw [decide_eq_false w,decide_eq_false]
       intro z
       rw [z] at e1
       exact w (nd_ix nd e1 hjr)
    ·refine k (r+1) (by omega) fun n=>?_
     rw [epv]
     unfold Sx01.putBehind
     simp only [Option.bind_some,hf]
abbrev cPBN (P:Program) (w:World) (K:Fg) (mg:MG) (base:Heap):Prop:=Cal P w K mg base CX0 1 "place_behind_neighbour" ["joined","columns","place"] (spPBN K)
end
end Sh
set_option maxHeartbeats 2000000
namespace Sh
open PySem PySem.Spec PyProof.Rows L2 ShM
section
variable {P:Program}{w:World}{K:Fg}{mg:MG}{base:Heap}{c:Cs}
abbrev sJC:Stmt:=top 39
theorem scJC:FnScope ["origin","by_a","by_b","first","other","joined","place","name"] ["origin","by_a","by_b"] (zAH sJC):=scm
def spJC (K:Fg) (c:Cs):Sp:=fun vs H Q _=>∃ (oa pa pb:Addr) (o a b:Sx01.Sheet),vs=[.ref oa,.ref pa,.ref pb]∧SheetAt K c H oa o∧DoAt K c H pa o a∧DoAt K c H pb o b∧∀ H' v,zA1 K H' v (Sx01.joinedCols o a b)→Same H H'→Q v H'
theorem prev_succ {cols:List Sx01.Bytes}{i:Nat}{n:Sx01.Bytes} (h:cols[i]? = some n):zDZ cols (i+1)=some n:=by
 unfold zDZ
 rw [if_neg (by omega)]
 exact h
theorem jc_rest {H:Hp}{Q:VK}{oa pa pb fp op:Addr}{o a b x y:Sx01.Sheet} (T:TxJ K mg c) (So:SheetAt K c H oa o) (Da:DoAt K c H pa o a) (Db:DoAt K c H pb o b) (Dx:DoAt K c H fp o x) (Dy:DoAt K c H op o y)
    (hx:∀ n∈x.cols,(a.cols.contains n || b.cols.contains n)=true) (hy:∀ n∈y.cols,(a.cols.contains n || b.cols.contains n)=true)
    (k:∀ H' v,zA1 K H' v (Sx01.filledIn (Sx01.staysCol o a b) none y.cols (x.cols.filter (Sx01.staysCol o a b)))→Same H H'→Q v H') :
    tSeq (tAsg (tLc (iTup K (tFld K (tFld K (tVar 3) "sheet") "columns")) (zDu 7) (tB (zHN (zF5 K c) [] E0 (zBl (tVar 0) (zBl (tVar 1) (zBl (tVar 2) (zBl (tVar 7) tNil)))))) (tVar 7) [7]) (zDu 5))
      (tSeq (tFor (iEnumT K (zBl (tFld K (tFld K (tVar 4) "sheet") "columns") tNil)) (gTup K 2 (gCons (zDu 6) (gCons (zDu 7) gNil)))
        (tIfS (tAnd (tB (zHN (zF5 K c) [] E0 (zBl (tVar 0) (zBl (tVar 1) (zBl (tVar 2) (zBl (tVar 7) tNil)))))) (tTest (tOp (rNotInD K) (tVar 7) (tVar 5))))
          (tDrop (tBM K "list" rInsert (tVar 5) (zBl (zHN (spPBN K) [] E0 (zBl (tVar 5) (zBl (tFld K (tFld K (tVar 4) "sheet") "columns") (zBl (tVar 6) tNil)))) (zBl (tVar 7) tNil)))) tNext))
        (tRet (tCB (fun xs H Q=>∃ p ys,xs=[.ref p]∧((SqL K H p ys∧∀ l,H l=none→Q (.ref l) (upd H l (.tup ys)))∨(SqT K H p ys∧Q (.ref p) H))) (zBl (tVar 5) tNil))))
      { nx:=fun _ H'=>Q .non H',rt:=Q } [some (.ref oa),some (.ref pa),some (.ref pb),some (.ref fp),some (.ref op),none,none,none] H:=by
  refine hide fun Gz zG=>?_
  obtain ⟨dxf,_,xa,_,_,_,_,hf1,_,Sx,_,_,_⟩:=Dx.ob
  obtain ⟨dxo,_,ya,_,_,_,_,hop1,_,Sy,_,_,_⟩:=Dy.ob
  obtain ⟨dxx,xca,xra,xpa,xkv,hx1,hx2,_⟩:=Sx.ob
  obtain ⟨dxy,yca,yra,ypa,ykv,hy1,hy2,_⟩:=Sy.ob
  obtain ⟨_,xcv,e0,xc1,xc2⟩:=id hx2
  cases e0
  obtain ⟨_,ycv,e0,yc1,yc2⟩:=id hy2
  cases e0
  refine zG ?_; clear zG
  have xl:=zAM xc2
  have yl:=zAM yc2
  have wx:=Sx.wf
  have wy:=Sy.wf
  have w1:=wx.c64
  have w2:=wy.c64
  refine ⟨_,rfl,fp,c.doings,dxf,_,.ref xa,rfl,hf1,T.clO,T.nS,(by rw [lk1,lk0]),xa,c.sheet,dxx,_,.ref xca,rfl,hx1,T.clS,T.nC,lk0,xca,rfl,⟨_,xc1⟩,fun D hD=>zCG (K:=K) (a:=xca) (xs:=xcv) (fun i H'=>∃ acc,H' D=some (.lst acc)∧Paired (zBq H') acc ((x.cols.take i).filter (Sx01.staysCol o a b))∧Same H H') ⟨[],zAB,.nil,zAJ hD⟩ ?_ ?_ ?_⟩
  · rintro i H' _ ⟨_,_,_,z⟩
    exact z.kt.sqt xc1
  · rintro i v H' hi ⟨acc,e1,pp,z⟩
    obtain ⟨n,hn,hnm⟩:=zAl xc2 hi
    have hnm':=mono_name _ _ _ _ z.kt hnm
    have al:=zAM pp
    have al2:=List.length_filter_le (Sx01.staysCol o a b) (x.cols.take i)
    rw [List.length_take] at al2
    refine ⟨rfl,_,rfl,_,rfl,_,rfl,_,rfl,oa,pa,pb,v,o,a,b,n,rfl,So.same z,Da.same z,Db.same z,hnm',hx n (List.mem_of_getElem? hn),_,rfl,?_⟩
    cases hs:Sx01.staysCol o a b n with
    | true =>
      refine iteT ⟨_,rfl,acc,e1,small (m:=1000) (by omega),acc++[v],zAB,?_,z.upd hD⟩
      rw [zAh hn,List.filter_append,List.filter_cons,if_pos hs,List.filter_nil]
      exact zAv (mono_name.pr (zAi e1) pp) (mono_name _ _ _ _ (zAi e1) hnm')
    | false =>
      refine iteF ⟨acc,e1,?_,z⟩
      rw [zAh hn,List.filter_append,List.filter_cons,if_neg (by rw [hs]; exact Bool.false_ne_true),List.filter_nil,List.append_nil]
      exact pp
  · rintro H1 ⟨acc,e1,pp,z1⟩
    rw [xl,List.take_length] at pp
    have hfl:=List.length_filter_le (Sx01.staysCol o a b) x.cols
    refine ⟨_,rfl,op,c.doings,dxo,_,.ref ya,rfl,z1 _ _ hop1,T.clO,T.nS,(by rw [lk1,lk0]),ya,c.sheet,dxy,_,.ref yca,rfl,z1 _ _ hy1,T.clS,T.nC,lk0,yca,ycv,rfl,z1.kt.sqt yc1,zCh (K:=K) (a:=yca) (xs:=ycv) (fun i σ H'=>∃ u6 u7 jvs J,σ=[some (.ref oa),some (.ref pa),some (.ref pb),some (.ref fp),some (.ref op),some (.ref D),u6,u7]∧H' D=some (.lst jvs)∧Paired (zBq H') jvs J∧J.Nodup∧J.length≤64+i ∧
      Sx01.filledIn (Sx01.staysCol o a b) (zDZ y.cols i) (y.cols.drop i) J=Sx01.filledIn (Sx01.staysCol o a b) none y.cols (x.cols.filter (Sx01.staysCol o a b))∧Same H H') ⟨none,none,acc,_,rfl,e1,pp,wx.nd.filter _,by omega,rfl,z1⟩ ?_ ?_ ?_⟩
    · rintro i σ H' _ ⟨_,_,_,_,_,_,_,_,_,_,z⟩
      exact z.kt.sqt yc1
    · intro i v σ H' Tn hi hI hT
      refine hide fun Gz zG=>?_
      obtain ⟨u6,u7,jvs,J,rfl,ej,pj,nd,jl,ef,z⟩:=hI
      obtain ⟨n,hn,hnm⟩:=zAl yc2 hi
      refine zG ?_; clear zG
      have il:i < y.cols.length:=(List.getElem?_eq_some_iff.mp hn).1
      have zT:Same H (upd H' Tn (.tup [.int (i:Nat),v])):=z.upd (z.free hT)
      have zT':Same H' (upd H' Tn (.tup [.int (i:Nat),v])):=zAJ hT
      have hnm':=mono_name _ _ _ _ zT.kt hnm
      have pj':=mono_name.pr zT'.kt pj
      have ej':=zT' _ _ ej
      have edr:y.cols.drop i=n::y.cols.drop (i+1):=by
        rw [List.drop_eq_getElem_cons il]
        rw [List.getElem?_eq_getElem il] at hn
        rw [Option.some.inj hn]
      rw [edr,Sx01.filledIn] at ef
      have epv:=prev_succ hn
      have jvl:=zAM pj
      refine ⟨Tn,_,rfl,SqT.of zAB,rfl,_,_,rfl,_,_,rfl,rfl,?_⟩
      refine ⟨_,rfl,_,rfl,_,rfl,_,rfl,oa,pa,pb,v,o,a,b,n,rfl,So.same zT,Da.same zT,Db.same zT,hnm',hy n (List.mem_of_getElem? hn),_,rfl,?_⟩
      cases hs:Sx01.staysCol o a b n with
      | false =>
        rw [if_neg (fun w=>by rw [hs] at w; exact Bool.noConfusion w.1)] at ef
        refine iteF (iteF ⟨_,_,jvs,J,rfl,ej',pj',nd,by omega,?_,zT⟩)
        rw [epv]
        exact ef
      | true =>
        refine iteT ⟨_,rfl,_,rfl,D,jvs,zBR n,J.map zBR,rfl,SqL.of ej',zB6 pj',zEi hnm',zC2 J,zBs n,(fun e he=>by
          obtain ⟨m,_,rfl⟩:=List.mem_map.mp he
          exact zCq m n),_,rfl,?_⟩
        rw [zDl]
        cases hin:J.contains n with
        | true =>
          rw [if_neg (fun w=>by rw [hin] at w; exact Bool.noConfusion w.2)] at ef
          refine iteF ⟨_,_,jvs,J,rfl,ej',pj',nd,by omega,?_,zT⟩
          rw [epv]
          exact ef
        | false =>
          rw [if_pos ⟨hs,hin⟩] at ef
          refine iteT ⟨_,rfl,.inl ⟨rfl,_,SqL.of ej'⟩,_,rfl,_,rfl,op,c.doings,dxo,_,.ref ya,rfl,zT _ _ hop1,T.clO,T.nS,(by rw [lk1,lk0]),ya,c.sheet,dxy,_,.ref yca,rfl,zT _ _ hy1,T.clS,T.nC,lk0,_,rfl,D,.ref yca,i,jvs,J,y.cols,rfl,ej',pj',nd,zAa _ _ _ _ zT.kt hy2,il,fun r hr hput=>?_⟩
          refine ⟨_,rfl,D,jvs,r,v,rfl,rfl,ej',by omega,small (m:=1000) (by omega),?_⟩
          have kt:=zAi (o:=.lst (jvs.take r++v::jvs.drop r)) ej'
          have nn:n∉J:=fun w=>by rw [List.contains_iff_mem.mpr w] at hin; cases hin
          refine ⟨_,_,jvs.take r++v::jvs.drop r,J.take r++n::J.drop r,rfl,zAB,?_,?_,?_,?_,zT.upd hD⟩
          · exact zGE (pr_take r (mono_name.pr kt pj')) (.cons (mono_name _ _ _ _ kt hnm') (pr_drop r (mono_name.pr kt pj')))
          · rw [←hput n]
            exact zC5 nd nn
          · rw [←hput n,zCa]
            omega
          · rw [epv,←hput n]
            exact ef
    · intro σ H' hI
      refine hide fun Gz zG=>?_
      obtain ⟨u6,u7,jvs,J,rfl,ej,pj,nd,jl,ef,z⟩:=hI
      refine zG ?_; clear zG
      rw [yl,List.drop_length,Sx01.filledIn] at ef
      refine ⟨_,rfl,D,jvs,rfl,.inl ⟨SqL.of ej,fun q hq=>?_⟩⟩
      refine k _ _ ⟨q,jvs,rfl,SqT.of zAB,?_⟩ (z.upd (z.free hq))
      rw [←ef]
      exact mono_name.pr (zBd hq) pj
theorem ok_jc {f:Addr}{fd:FuncData} (F:Fun K "joined_columns" "joined_columns" sJC f fd) (T:TxJ K mg c) (c1:cStay P w K mg base c) (c2:cPBN P w K mg base):FnOk P w K mg base CX0 3 f fd ["origin","by_a","by_b"] (spJC K c):=by
  refine F.ok scJC (fun vs H Q E h=>?_) (fun cdv A outer s H vs Q E hr h=>?_)
  · obtain ⟨oa,pa,pb,o,a,b,rfl,_⟩:=h
    rfl
  · refine hide fun Gz zG=>?_
    obtain ⟨oa,pa,pb,o,a,b,rfl,So,Da,Db,k⟩:=h
    refine zG ?_; clear zG
    have hr1:Room 1 _:=hr.mono (by decide)
    have hu65:(A.deeper (envOfC "joined_columns" (zAH sJC) s.heap.objs.size f cdv)).units+65 < cLine:=Nat.lt_of_le_of_lt (Nat.add_le_add_left (by decide:65≤200) _) (Nat.lt_of_le_of_lt (by omega) hr.un)
    refine ⟨_,zAD (zAN (i:=3) scJC.nd rfl (Or.inl rfl) (pv 1)) (zAD (zAN (i:=4) scJC.nd rfl (Or.inl rfl) (pv 2))
      (zAD (zAk (zAX (op_eqD hr.units) (zAI (zAI (pv 1) rfl) rfl) (zAI (pv 0) rfl) (zAb _)) (zAD (zAN (i:=3) scJC.nd rfl (Or.inl rfl) (pv 2)) (zAF (zAN (i:=4) scJC.nd rfl (Or.inl rfl) (pv 1)))) zAY)
      (zAD (zCb (i:=5) (own:=[("name",7)]) rfl scJC.nd rfl rfl (zDS rfl rfl rfl rfl) (zBV (zAI (zAI (pv 3) rfl) rfl)) (zAp (by show blkC ["origin","by_a","by_b","first","other","joined","place","name"] (zAH sJC) _ _=true; decide +kernel))
        (fun _ _ _ _ _=>zAR (i:=7) scJC.nd rfl (Or.inl rfl)) (fun _ _ _ _ _=>zFh (zA2 (ec c1 hr zAU (zAA (pv 0) (zAA (pv 1) (zAA (pv 2) (zAA (pv 7) zAE))))))) (fun _ _ _ _ _=>pv 7))
      (zAD (zA6 PassesOwn.never rfl (zCc rfl T.enum (zAA (zAI (zAI (pv 4) rfl) rfl) zAE)) (zB3 rfl (zAg (zAR (i:=6) scJC.nd rfl (Or.inl rfl)) (zAg (zAR (i:=7) scJC.nd rfl (Or.inl rfl)) zBb)))
        (zAF (zAk (PW.pt (zC4 (zA2 (ec c1 hr zAU (zAA (pv 0) (zAA (pv 1) (zAA (pv 2) (zAA (pv 7) zAE)))))) (zCL (zAX (zFC hu65) (pv 7) (pv 5) (by with_unfolding_all rfl)))))
          (zAF (zAT (zAw PySem.F.plainAttrs_list PySem.F.slot_list_insert PySem.F.type_list_insert mt_insert (pv 5) (zAA (ec c2 hr1 zAU (zAA (pv 5) (zAA (zAI (zAI (pv 4) rfl) rfl) (zAA (pv 6) zAE)))) (zAA (pv 7) zAE))))) zAY)))
      (zAF (zAQ (zAs zAe rfl T.tuple zBD (zAA (pv 5) zAE)))))))),?_⟩
    refine hide fun Gz zG=>?_
    obtain ⟨dxa,_,aa,_,_,_,_,ha1,_,Sa,_,_,_⟩:=Da.ob
    obtain ⟨dxa2,aca,_,_,_,hsa1,hsa2,_⟩:=Sa.ob
    obtain ⟨dxo,oca,ora,opa,okv,ho1,ho2,_⟩:=So.ob
    refine zG ?_; clear zG
    refine ⟨_,rfl,_,rfl,_,rfl,pa,c.doings,dxa,_,.ref aa,rfl,ha1,T.clO,T.nS,(by rw [lk1,lk0]),aa,c.sheet,dxa2,_,.ref aca,rfl,hsa1,T.clS,T.nC,lk0,?_⟩
    refine ⟨_,rfl,oa,c.sheet,dxo,_,.ref oca,rfl,ho1,T.clS,T.nC,lk0,_,_,zGQ hsa2,zGQ ho2,zC1 _,zC1 _,_,rfl,?_⟩
    rw [namesD_eq]
    have ina:∀ n∈a.cols,(a.cols.contains n || b.cols.contains n)=true:=fun n hn=>by rw [List.contains_iff_mem.mpr hn]; rfl
    have inb:∀ n∈b.cols,(a.cols.contains n || b.cols.contains n)=true:=fun n hn=>by rw [List.contains_iff_mem.mpr hn,Bool.or_true]
    unfold Sx01.joinedCols at k
    by_cases e:a.cols=o.cols
    · simp only [if_pos e] at k
      rw [decide_eq_true e]
      refine iteT ⟨_,rfl,_,rfl,?_⟩
      exact jc_rest T So Da Db Db Da inb ina k
    · simp only [if_neg e] at k
      rw [decide_eq_false e]
      refine iteF ?_
      exact jc_rest T So Da Db Da Db ina inb k
abbrev cJC (P:Program) (w:World) (K:Fg) (mg:MG) (base:Heap) (c:Cs):Prop:=Cal P w K mg base CX0 3 "joined_columns" ["origin","by_a","by_b"] (spJC K c)
end
end Sh
set_option maxHeartbeats 2000000
namespace Sh
open PySem PySem.Spec PyProof.Rows L2 ShM
abbrev jnF (oA aA bA:Addr) (vc:V) (rA uA:Addr):List (Str×V):=[("origin",.ref oA),("by_a",.ref aA),("by_b",.ref bA),("columns",vc),("rows",.ref rA),("untold",.ref uA)]
def IsUn (K:Fg) (H:Hp) (v:V) (x:Sx01.Clash):Prop:=∃ t,v = .ref t∧SqT K H t [.int (x.kind:Nat),.int (x.row:Nat),.int (x.col:Nat)]
theorem mono_un {K:Fg}:Mono (IsUn K):=fun H H' v x k ⟨t,e,h⟩=>⟨t,e,k.sqt h⟩
structure JB (K:Fg) (c:Cs) (Hb:Hp) (p rA uA:Addr) (o a b:Sx01.Sheet):Prop where
 ob:∃ dx oA aA bA vc,Hb p=some (.ins c.joining dx (jnF oA aA bA vc rA uA))∧SheetAt K c Hb oA o∧DoAt K c Hb aA o a∧DoAt K c Hb bA o b∧zA1 K Hb vc (Sx01.joinedCols o a b)
 nr:Hb rA=none
 nu:Hb uA=none
 ne:rA≠uA
structure JM (K:Fg) (H:Hp) (rA uA:Addr) (rows:List Sx01.Row) (unt:List Sx01.Clash):Prop where
 r:∃ rvs,H rA=some (.lst rvs)∧Paired (zAy K H) rvs rows
 u:∃ uvs,H uA=some (.lst uvs)∧Paired (IsUn K H) uvs unt
theorem JM.same {K:Fg}{H H':Hp}{rA uA:Addr}{rows:List Sx01.Row}{unt:List Sx01.Clash} (h:JM K H rA uA rows unt) (k:Same H H'):JM K H' rA uA rows unt:=by
 obtain ⟨⟨rvs,h1,h2⟩,uvs,h3,h4⟩:=h
 exact ⟨⟨rvs,k _ _ h1,mono_row.pr k.kt h2⟩,uvs,k _ _ h3,mono_un.pr k.kt h4⟩
theorem JM.unt {K:Fg}{H:Hp}{rA uA t:Addr}{rows:List Sx01.Row}{unt:List Sx01.Clash}{x:Sx01.Clash}{uvs:List V} (h:JM K H rA uA rows unt) (ne:rA≠uA) (hu:H uA=some (.lst uvs)) (ht:SqT K H t [.int (x.kind:Nat),.int (x.row:Nat),.int (x.col:Nat)]) :
  JM K (upd H uA (.lst (uvs++[.ref t]))) rA uA rows (unt++[x]):=by
 obtain ⟨⟨rvs,h1,h2⟩,uvs',h3,h4⟩:=h
 rw [hu] at h3
 have e:=HO.lst.inj (Option.some.inj h3)
 subst e
 have kt:=zAi (o:=.lst (uvs++[.ref t])) hu
 exact ⟨⟨rvs,by rw [zAG ne]; exact h1,mono_row.pr kt h2⟩,_,zAB,zAv (mono_un.pr kt h4) ⟨t,rfl,kt.sqt ht⟩⟩
theorem JM.rowsM {K:Fg}{H:Hp}{rA uA:Addr}{rows rs:List Sx01.Row}{unt:List Sx01.Clash}{rvs vs:List V} (h:JM K H rA uA rows unt) (ne:rA≠uA) (hr:H rA=some (.lst rvs)) (hv:Paired (zAy K H) vs rs) :
  JM K (upd H rA (.lst (rvs++vs))) rA uA (rows++rs) unt:=by
 obtain ⟨⟨rvs',h1,h2⟩,uvs,h3,h4⟩:=h
 rw [hr] at h1
 have e:=HO.lst.inj (Option.some.inj h1)
 subst e
 have kt:=zAi (o:=.lst (rvs++vs)) hr
 exact ⟨⟨_,zAB,zGE (mono_row.pr kt h2) (mono_row.pr kt hv)⟩,uvs,by rw [zAG ne.symm]; exact h3,mono_un.pr kt h4⟩
def zE3 (l:List Sx01.Row):PyData:=.list (l.map rowD)
theorem rowsD_eq (x y:List Sx01.Row):PyData.eqv (zE3 x) (zE3 y)=decide (x=y):=zEo rowD_eq x y
theorem dp_rows {K:Fg}{H:Hp}:∀ {vs:List V}{r:List Sx01.Row},Paired (zAy K H) vs r→DpAll K H vs (r.map rowD)
 | _,_,.nil=>.nil
 | _,_,.cons h t=>.cons (row_dp h) (dp_rows t)
theorem rows_dp {K:Fg}{H:Hp}{v:V}{l:List Sx01.Row} (h:IsRowsL K H v l):Dp K H v (zE3 l):=by
 obtain ⟨a,vs,rfl,h1,h2⟩:=h
 exact .lst (SqL.of h1) (dp_rows h2)
theorem zDU (l:List Sx01.Row):SeqAt.shaped (zE3 l)=true:=by
 unfold SeqAt.shaped
 have h1:PyData.canLay0 (zE3 l)=true:=zBp zEK l
 have h2:PyData.depth (zE3 l)≤3:=by
  show PyData.depthAll (l.map rowD)+1≤3
  have:=zB7 zFL l
  omega
 rw [h1,decide_eq_true (Nat.le_trans h2 (by decide))]
 rfl
section
variable {P:Program}{w:World}{K:Fg}{mg:MG}{base:Heap}{c:Cs}
def colF (o a b:Sx01.Sheet) (n:Sx01.Bytes×Nat):Option Sx01.Clash:=if o.cols.contains n.1=false then none else if a.cols.contains n.1=false then some ⟨3,n.2,1⟩ else if b.cols.contains n.1=false then some ⟨3,n.2,2⟩ else none
abbrev sTell:Stmt:=zAK (top 37) 2
theorem scTell:FnScope ["self","place","name"] ["self"] (zAH sTell):=scm
def spTell (K:Fg) (c:Cs):Sp:=fun vs H Q _=>∃ (p rA uA:Addr) (Hb:Hp) (o a b:Sx01.Sheet),vs=[.ref p]∧JB K c Hb p rA uA o a b∧Same Hb H∧JM K H rA uA [] []∧∀ H',JM K H' rA uA [] ((Sx01.joinedCols o a b).zipIdx.filterMap (colF o a b))→Same Hb H'→Q .non H'
theorem zEp (o a b:Sx01.Sheet) (l:List (Sx01.Bytes×Nat)):(l.filterMap (colF o a b)).length≤l.length:=List.length_filterMap_le _ _
theorem zDO {α:Type}{l:List α}{i:Nat}{x:α} (h:l[i]? = some x):(l.take (i+1)).zipIdx=(l.take i).zipIdx++[(x,i)]:=by
 have il:i < l.length:=(List.getElem?_eq_some_iff.mp h).1
 rw [zAh h,List.zipIdx_append]
 congr 1
 simp
 omega
theorem ok_tell {f:Addr}{fd:FuncData} (F:Fun K "tell_columns" "Joining.tell_columns" sTell f fd) (T:TxJ K mg c) (m1:mHas P w K mg base c):FnOk P w K mg base CX0 2 f fd ["self"] (spTell K c):=by
  refine F.ok scTell (fun vs H Q E h=>?_) (fun cdv A outer s H vs Q E hr h=>?_)
  · obtain ⟨p,rA,uA,Hb,o,a,b,rfl,_⟩:=h
    rfl
  · refine hide fun Gz zG=>?_
    obtain ⟨p,rA,uA,Hb,o,a,b,rfl,B,s0,M0,k⟩:=h
    obtain ⟨dx,oA,aA,bA,vc,hp,So,Da,Db,hc⟩:=B.ob
    obtain ⟨dxa,_,aa,_,_,_,_,ha1,_,Sa,_,_,_⟩:=Da.ob
    obtain ⟨dxb,_,ba,_,_,_,_,hb1,_,Sb,_,_,_⟩:=Db.ob
    obtain ⟨dxo,_,_,_,_,ho1,_⟩:=So.ob
    obtain ⟨dxa2,_,_,_,_,hsa1,_⟩:=Sa.ob
    obtain ⟨dxb2,_,_,_,_,hsb1,_⟩:=Sb.ob
    obtain ⟨j1,j2,j3,j4⟩:=zBS (o:=o) Sa.wf Sb.wf
    obtain ⟨ca,cvs,rfl,hc1,hc2⟩:=hc
    refine zG ?_; clear zG
    have cl:=zAM hc2
    refine ⟨_,zAF (zA6 PassesOwn.never rfl (zCc rfl T.enum (zAA (zAI (pv 0) rfl) zAE)) (zB3 rfl (zAg (zAR (i:=1) scTell.nd rfl (Or.inl rfl)) (zAg (zAR (i:=2) scTell.nd rfl (Or.inl rfl)) zBb)))
      (zAD (zAk (zBm (zA2 (em m1 T.clS hr zAU (zAI (pv 0) rfl) (zAA (pv 2) zAE)))) (zAF zCM) zAY)
      (zAD (zAk (zBm (zA2 (em m1 T.clS hr zAU (zAI (zAI (pv 0) rfl) rfl) (zAA (pv 2) zAE)))) (zAF (zAT (zAw PySem.F.plainAttrs_list PySem.F.slot_list_append PySem.F.type_list_append zAW (zAI (pv 0) rfl) (zAA (zBg (zAA (eg T.colU) (zAA (pv 1) (zAA (eg T.takA) zAE)))) zAE)))) zAY)
      (zAF (zAk (zBm (zA2 (em m1 T.clS hr zAU (zAI (zAI (pv 0) rfl) rfl) (zAA (pv 2) zAE)))) (zAF (zAT (zAw PySem.F.plainAttrs_list PySem.F.slot_list_append PySem.F.type_list_append zAW (zAI (pv 0) rfl) (zAA (zBg (zAA (eg T.colU) (zAA (pv 1) (zAA (eg T.takB) zAE)))) zAE)))) zAY))))),?_⟩
    refine ⟨_,rfl,p,c.joining,dx,_,.ref ca,rfl,s0 _ _ hp,T.cl,T.nCo,(by rw [lk1,lk1,lk1,lk0]),ca,cvs,rfl,s0.kt.sqt hc1,zCh (K:=K) (a:=ca) (xs:=cvs) (fun i σ H'=>∃ u1 u2,σ=[some (.ref p),u1,u2]∧JM K H' rA uA [] (((Sx01.joinedCols o a b).take i).zipIdx.filterMap (colF o a b))∧Same Hb H') ⟨none,none,rfl,M0,s0⟩ ?_ ?_ ?_⟩
    · rintro i σ H' _ ⟨_,_,_,_,z⟩
      exact z.kt.sqt hc1
    · rintro i v σ H' Tn hi ⟨u1,u2,rfl,M,z⟩ hT
      obtain ⟨n,hn,hnm⟩:=zAl hc2 hi
      have il:i < cvs.length:=(List.getElem?_eq_some_iff.mp hi).1
      have zT':Same H' (upd H' Tn (.tup [.int (i:Nat),v])):=zAJ hT
      have zT:Same Hb (upd H' Tn (.tup [.int (i:Nat),v])):=z.trans zT'
      have M':=M.same zT'
      have hnm':=mono_name _ _ _ _ zT.kt hnm
      have hor:=j4 n (List.mem_of_getElem? hn)
      have ul:=zEp o a b ((Sx01.joinedCols o a b).take i).zipIdx
      rw [List.length_zipIdx,List.length_take] at ul
      have ext:∀ (l:List Sx01.Clash),(colF o a b (n,i)).toList=l→((Sx01.joinedCols o a b).take (i+1)).zipIdx.filterMap (colF o a b)=((Sx01.joinedCols o a b).take i).zipIdx.filterMap (colF o a b)++l:=fun l e=>by
        rw [zDO hn,List.filterMap_append,←e]
        rw [List.filterMap_cons]
        cases colF o a b (n,i) <;> rfl
      have app:∀ (H2:Hp) (l1:List Sx01.Clash) (who:Nat) (R:Hp→Prop),JM K H2 rA uA [] l1→Same Hb H2→l1.length≤1000→(∀ H3,JM K H3 rA uA [] (l1++[⟨3,i,who⟩])→Same Hb H3→R H3) →
          ∀ t,H2 t=none→QA (.ref uA) [.ref t] (upd H2 t (.tup [.int (3:Int),.int (i:Nat),.int (who:Nat)])) fun _ H3=>R H3:=by
        intro H2 l1 who R M2 z2 hl hR t ht
        have zt:Same H2 (upd H2 t (.tup [.int (3:Int),.int (i:Nat),.int (who:Nat)])):=zAJ ht
        have M3:=M2.same zt
        obtain ⟨uvs,hu,hup⟩:=M3.u
        refine ⟨uA,uvs,_,rfl,rfl,hu,small (m:=2000) (by rw [zAM hup]; omega),?_⟩
        exact hR _ (M3.unt (x:=⟨3,i,who⟩) B.ne hu (SqT.of zAB)) (fun b' ob e=>by rw [zAG (zAC e B.nu)]; exact zt _ _ (z2 _ _ e))
      refine ⟨Tn,_,rfl,SqT.of zAB,rfl,_,_,rfl,_,_,rfl,rfl,?_⟩
      refine ⟨_,rfl,p,c.joining,dx,_,.ref oA,rfl,zT _ _ hp,T.cl,T.nO,lk0,oA,dxo,_,rfl,zT _ _ ho1,(by rw [lk1,lk1,lk1]; rfl),_,rfl,oA,o,v,n,rfl,So.same zT,hnm',_,rfl,?_⟩
      cases hco:o.cols.contains n with
      | false =>
        refine iteT ⟨_,_,rfl,?_,zT⟩
        rw [ext [] (by unfold colF; rw [if_pos hco]; rfl),List.append_nil]
        exact M'
      | true =>
        refine iteF ⟨_,rfl,p,c.joining,dx,_,.ref aA,rfl,zT _ _ hp,T.cl,T.nA,(by rw [lk1,lk0]),aA,c.doings,dxa,_,.ref aa,rfl,zT _ _ ha1,T.clO,T.nS,(by rw [lk1,lk0]),aa,dxa2,_,rfl,zT _ _ hsa1,(by rw [lk1,lk1,lk1]; rfl),_,rfl,aa,a,v,n,rfl,Sa.same zT,hnm',_,rfl,?_⟩
        cases hca:a.cols.contains n with
        | false =>
          have hcb:b.cols.contains n=true:=by
            rcases hor with w | w
            · rw [List.contains_iff_mem.mpr w] at hca; cases hca
            · exact List.contains_iff_mem.mpr w
          obtain ⟨uvs0,hu0,_⟩:=M'.u
          refine iteT ⟨_,rfl,p,c.joining,dx,_,.ref uA,rfl,zT _ _ hp,T.cl,T.nU,(by rw [lk1,lk1,lk1,lk1,lk1,lk0]),.inl ⟨rfl,_,SqL.of hu0⟩,_,rfl,(by show 3≤sizeLine; decide),?_⟩
          refine app _ _ 1 _ M' zT (by omega) (fun H3 M3 z3=>?_)
          refine ⟨_,rfl,p,c.joining,dx,_,.ref bA,rfl,z3 _ _ hp,T.cl,T.nB,(by rw [lk1,lk1,lk0]),bA,c.doings,dxb,_,.ref ba,rfl,z3 _ _ hb1,T.clO,T.nS,(by rw [lk1,lk0]),ba,dxb2,_,rfl,z3 _ _ hsb1,(by rw [lk1,lk1,lk1]; rfl),_,rfl,ba,b,v,n,rfl,Sb.same z3,mono_name _ _ _ _ z3.kt hnm,_,rfl,?_⟩
          rw [hcb]
          refine iteF ⟨_,_,rfl,?_,z3⟩
          rw [ext [⟨3,i,1⟩] (by unfold colF; rw [if_neg (by rw [hco]; exact Bool.noConfusion),if_pos hca]; rfl)]
          exact M3
        | true =>
          refine iteF ⟨_,rfl,p,c.joining,dx,_,.ref bA,rfl,zT _ _ hp,T.cl,T.nB,(by rw [lk1,lk1,lk0]),bA,c.doings,dxb,_,.ref ba,rfl,zT _ _ hb1,T.clO,T.nS,(by rw [lk1,lk0]),ba,dxb2,_,rfl,zT _ _ hsb1,(by rw [lk1,lk1,lk1]; rfl),_,rfl,ba,b,v,n,rfl,Sb.same zT,hnm',_,rfl,?_⟩
          cases hcb:b.cols.contains n with
          | true =>
            refine iteF ⟨_,_,rfl,?_,zT⟩
            rw [ext [] (by unfold colF; rw [if_neg (by rw [hco]; exact Bool.noConfusion),if_neg (by rw [hca]; exact Bool.noConfusion),if_neg (by rw [hcb]; exact Bool.noConfusion)]; rfl),List.append_nil]
            exact M'
          | false =>
            obtain ⟨uvs0,hu0,_⟩:=M'.u
            refine iteT ⟨_,rfl,p,c.joining,dx,_,.ref uA,rfl,zT _ _ hp,T.cl,T.nU,(by rw [lk1,lk1,lk1,lk1,lk1,lk0]),.inl ⟨rfl,_,SqL.of hu0⟩,_,rfl,(by show 3≤sizeLine; decide),?_⟩
            refine app _ _ 2 _ M' zT (by omega) (fun H3 M3 z3=>?_)
            refine ⟨_,_,rfl,?_,z3⟩
            rw [ext [⟨3,i,2⟩] (by unfold colF; rw [if_neg (by rw [hco]; exact Bool.noConfusion),if_neg (by rw [hca]; exact Bool.noConfusion),if_pos hcb]; rfl)]
            exact M3
    · rintro σ H' ⟨u1,u2,rfl,M,z⟩
      rw [cl,List.take_length] at M
      exact k H' M z
abbrev mTell (P:Program) (w:World) (K:Fg) (mg:MG) (base:Heap) (c:Cs):Prop:=MCal P w K mg base CX0 2 c.joining "tell_columns" ["self"] (spTell K c)
def zBk (o x:Sx01.Sheet):List (List Sx01.Row):=(Sx01.fatesOf o x).1.map Sx01.Fate.before++[(Sx01.fatesOf o x).2]
abbrev sJRP:Stmt:=zAK (top 37) 3
theorem scJRP:FnScope ["self","at","by_a","by_b"] ["self","at"] (zAH sJRP):=scm
def spJRP (K:Fg) (c:Cs):Sp:=fun vs H Q _=>∃ (p rA uA:Addr) (i:Nat) (Hb:Hp) (o a b:Sx01.Sheet) (rows:List Sx01.Row) (unt:List Sx01.Clash) (la lb:List Sx01.Row),vs=[.ref p,.int (i:Nat)]∧JB K c Hb p rA uA o a b∧Same Hb H∧JM K H rA uA rows unt∧(zBk o a)[i]? = some la∧(zBk o b)[i]? = some lb∧la.length≤256∧lb.length≤256∧rows.length≤300000 ∧
 ∀ H',JM K H' rA uA (rows++Sx01.bothPut o a b (Sx01.joinedCols o a b) la lb) unt→Same Hb H'→Q .non H'
theorem ok_jrp {f:Addr}{fd:FuncData} (F:Fun K "join_rows_put" "Joining.join_rows_put" sJRP f fd) (T:TxJ K mg c) (m1:mRsPut P w K mg base c):FnOk P w K mg base CX0 4 f fd ["self","at"] (spJRP K c):=by
  refine F.ok scJRP (fun vs H Q E h=>?_) (fun cdv A outer s H vs Q E hr h=>?_)
  · obtain ⟨p,rA,uA,i,Hb,o,a,b,rows,unt,la,lb,rfl,_⟩:=h
    rfl
  · refine hide fun Gz zG=>?_
    obtain ⟨p,rA,uA,i,Hb,o,a,b,rows,unt,la,lb,rfl,B,s0,M0,hla,hlb,la256,lb256,rl,k⟩:=h
    obtain ⟨dx,oA,aA,bA,vc,hp,So,Da,Db,hc⟩:=B.ob
    obtain ⟨dxa,_,aa,_,_,_,_,ha1,_,Sa,_,_,_⟩:=Da.ob
    obtain ⟨dxb,_,ba,_,_,_,_,hb1,_,Sb,_,_,_⟩:=Db.ob
    obtain ⟨j1,j2,j3,j4⟩:=zBS (o:=o) Sa.wf Sb.wf
    refine zG ?_; clear zG
    refine ⟨_,zAD (zAN (i:=2) scJRP.nd rfl (Or.inl rfl) (em m1 T.clO hr zAU (zAI (pv 0) rfl) (zAA (pv 1) (zAA (zAI (pv 0) rfl) zAE))))
      (zAD (zAN (i:=3) scJRP.nd rfl (Or.inl rfl) (em m1 T.clO hr zAU (zAI (pv 0) rfl) (zAA (pv 1) (zAA (zAI (pv 0) rfl) zAE))))
      (zAD (zAT (zAw PySem.F.plainAttrs_list PySem.F.slot_list_extend PySem.F.type_list_extend zBc (zAI (pv 0) rfl) (zAA (pv 2) zAE)))
      (zAF (zAk (zAX (zDb hr.units) (pv 2) (pv 3) (zAb _)) (zAF (zAT (zAw PySem.F.plainAttrs_list PySem.F.slot_list_extend PySem.F.type_list_extend zBc (zAI (pv 0) rfl) (zAA (pv 3) zAE)))) zAY)))),?_⟩
    refine ⟨_,rfl,p,c.joining,dx,_,.ref aA,rfl,s0 _ _ hp,T.cl,T.nA,(by rw [lk1,lk0]),aA,dxa,_,rfl,s0 _ _ ha1,(by rw [lk1,lk1,lk1,lk1,lk1]; rfl),_,rfl,_,rfl,p,c.joining,dx,_,vc,rfl,s0 _ _ hp,T.cl,T.nCo,(by rw [lk1,lk1,lk1,lk0]),aA,i,vc,o,a,_,la,rfl,Da.rd.same s0,zAa _ _ _ _ s0.kt hc,by omega,hla,fun l1 H1 q1 z1 n1=>?_⟩
    have z01:=s0.trans z1
    refine ⟨_,rfl,p,c.joining,dx,_,.ref bA,rfl,z01 _ _ hp,T.cl,T.nB,(by rw [lk1,lk1,lk0]),bA,dxb,_,rfl,z01 _ _ hb1,(by rw [lk1,lk1,lk1,lk1,lk1]; rfl),_,rfl,_,rfl,p,c.joining,dx,_,vc,rfl,z01 _ _ hp,T.cl,T.nCo,(by rw [lk1,lk1,lk1,lk0]),bA,i,vc,o,b,_,lb,rfl,Db.rd.same z01,zAa _ _ _ _ z01.kt hc,by omega,hlb,fun l2 H2 q2 z2 n2=>?_⟩
    have z02:=z01.trans z2
    have M2:=(M0.same z1).same z2
    obtain ⟨rvs,hrv,hrp⟩:=M2.r
    have rvl:=zAM hrp
    obtain ⟨_,xs1,e0,hx1,hxp1⟩:=q1.same z2
    cases e0
    obtain ⟨_,xs2,e0,hx2,hxp2⟩:=id q2
    cases e0
    have xl1:=zAM hxp1
    have xl2:=zAM hxp2
    rw [List.length_map] at xl1 xl2
    obtain ⟨rvs0,hrv0,_⟩:=M0.r
    have nl1:l1≠rA:=fun w=>by rw [w,hrv0] at n1; cases n1
    have nl2:l2≠rA:=fun w=>by rw [w,z1 _ _ hrv0] at n2; cases n2
    refine ⟨_,rfl,p,c.joining,dx,_,.ref rA,rfl,z02 _ _ hp,T.cl,T.nRo,(by rw [lk1,lk1,lk1,lk1,lk0]),.inl ⟨rfl,_,SqL.of hrv⟩,_,rfl,rA,l1,rvs,xs1,rfl,rfl,hrv,hx1,Nat.le_of_lt (small (m:=1000000) (by omega)),?_⟩
    have M3:=M2.rowsM B.ne hrv hxp1
    have z03:Same Hb (upd H2 rA (.lst (rvs++xs1))):=fun b' ob e=>by rw [zAG (zAC e B.nr)]; exact z02 _ _ e
    have kt3:=zAi (o:=.lst (rvs++xs1)) hrv
    have g1:IsRowsL K (upd H2 rA (.lst (rvs++xs1))) (.ref l1) (la.map fun r=>(Sx01.joinedCols o a b).map fun n=>Sx01.cellOf a.cols r n):=⟨l1,xs1,rfl,by rw [zAG nl1]; exact hx1,mono_row.pr kt3 hxp1⟩
    have g2:IsRowsL K (upd H2 rA (.lst (rvs++xs1))) (.ref l2) (lb.map fun r=>(Sx01.joinedCols o a b).map fun n=>Sx01.cellOf b.cols r n):=⟨l2,xs2,rfl,by rw [zAG nl2]; exact hx2,mono_row.pr kt3 hxp2⟩
    refine ⟨_,rfl,_,rfl,zE3 _,zE3 _,rows_dp g1,rows_dp g2,zDU _,zDU _,_,rfl,?_⟩
    rw [rowsD_eq]
    unfold Sx01.bothPut at k
    simp only at k
    by_cases e:(la.map fun r=>(Sx01.joinedCols o a b).map fun n=>Sx01.cellOf a.cols r n)=lb.map fun r=>(Sx01.joinedCols o a b).map fun n=>Sx01.cellOf b.cols r n
    · rw [if_pos e] at k
      rw [decide_eq_true e]
      exact iteF (k _ M3 z03)
    · rw [if_neg e] at k
      rw [decide_eq_false e]
      obtain ⟨_,xs2',e0,hx2',hxp2'⟩:=id g2
      cases e0
      rw [zAG nl2,hx2] at hx2'
      have ee:=HO.lst.inj (Option.some.inj hx2')
      subst ee
      refine iteT ⟨_,rfl,p,c.joining,dx,_,.ref rA,rfl,z03 _ _ hp,T.cl,T.nRo,(by rw [lk1,lk1,lk1,lk1,lk0]),.inl ⟨rfl,_,SqL.of zAB⟩,_,rfl,rA,l2,rvs++xs1,xs2,rfl,rfl,zAB,(by rw [zAG nl2]; exact hx2),Nat.le_of_lt (small (m:=1000000) (by rw [List.length_append]; omega)),?_⟩
      have M4:=M3.rowsM B.ne zAB hxp2'
      rw [List.append_assoc rows] at M4
      exact k _ M4 fun b' ob e=>by rw [zAG (zAC e B.nr)]; exact z03 _ _ e
abbrev mJRP (P:Program) (w:World) (K:Fg) (mg:MG) (base:Heap) (c:Cs):Prop:=MCal P w K mg base CX0 4 c.joining "join_rows_put" ["self","at"] (spJRP K c)
end
end Sh
set_option maxHeartbeats 2000000
namespace Sh
open PySem PySem.Spec PyProof.Rows L2 ShM
theorem JM.other {K:Fg}{H:Hp}{rA uA C:Addr}{rows:List Sx01.Row}{unt:List Sx01.Clash}{xs ys:List V} (h:JM K H rA uA rows unt) (hC:H C=some (.lst xs)) (n1:C≠rA) (n2:C≠uA):JM K (upd H C (.lst ys)) rA uA rows unt:=by
 obtain ⟨⟨rvs,h1,h2⟩,uvs,h3,h4⟩:=h
 have kt:=zAi (o:=.lst ys) hC
 exact ⟨⟨rvs,by rw [zAG n1.symm]; exact h1,mono_row.pr kt h2⟩,uvs,by rw [zAG n2.symm]; exact h3,mono_un.pr kt h4⟩
def zAz (k:Nat) (l:List (Nat×Nat)):List Sx01.Clash:=l.map fun c=>⟨c.1,k,c.2⟩
def kcl (l:List (Sx01.Cell×Bool)):List (Nat×Nat):=l.zipIdx.filterMap fun c=>if c.1.2=true then some (1,c.2) else none
theorem zEl {l:List (Sx01.Cell×Bool)}{i:Nat}{x:Sx01.Cell×Bool} (h:l[i]? = some x):kcl (l.take (i+1))=kcl (l.take i)++(if x.2=true then [(1,i)] else []):=by
 unfold kcl
 rw [zDO h,List.filterMap_append,List.filterMap_cons]
 cases x.2 <;> rfl
theorem kcl_len (l:List (Sx01.Cell×Bool)):(kcl l).length≤l.length:=by
 unfold kcl
 refine Nat.le_trans (List.length_filterMap_le _ _) ?_
 rw [List.length_zipIdx]
 exact Nat.le_refl _
section
variable {P:Program}{w:World}{K:Fg}{mg:MG}{base:Heap}{c:Cs}
abbrev sJG:Stmt:=zAK (top 37) 5
theorem scJG:FnScope ["self","at","keeper","taker"] ["self","at","keeper","taker"] (zAH sJG):=scm
def spJG (K:Fg) (c:Cs):Sp:=fun vs H Q _=>∃ (p rA uA kp:Addr) (i who:Nat) (Hb:Hp) (o a b x:Sx01.Sheet) (rows:List Sx01.Row) (unt:List Sx01.Clash) (ro rx:Sx01.Row) (ft:Sx01.Fate),vs=[.ref p,.int (i:Nat),.ref kp,.int (who:Nat)]∧JB K c Hb p rA uA o a b∧Same Hb H∧JM K H rA uA rows unt∧DoAt K c Hb kp o x ∧
 o.rows[i]? = some ro∧(Sx01.fatesOf o x).1[i]? = some ft∧ft.row=some rx∧rows.length≤400000∧unt.length≤100000 ∧
 ∀ H',JM K H' rA uA (if Sx01.changed o x ro rx=true then rows++[(Sx01.joinedCols o a b).map fun n=>Sx01.seen o x ro rx n] else rows) (if Sx01.changed o x ro rx=true then unt++[⟨2,rows.length,who⟩] else unt)→Same Hb H'→Q .non H'
theorem ok_jg {f:Addr}{fd:FuncData} (F:Fun K "join_row_gone_in_one" "Joining.join_row_gone_in_one" sJG f fd) (T:TxJ K mg c) (m1:mChg P w K mg base c) (m2:zGT P w K mg base c):FnOk P w K mg base CX0 4 f fd ["self","at","keeper","taker"] (spJG K c):=by
  refine F.ok scJG (fun vs H Q E h=>?_) (fun cdv A outer s H vs Q E hr h=>?_)
  · obtain ⟨p,rA,uA,kp,i,who,Hb,o,a,b,x,rows,unt,ro,rx,ft,rfl,_⟩:=h
    rfl
  · refine hide fun Gz zG=>?_
    obtain ⟨p,rA,uA,kp,i,who,Hb,o,a,b,x,rows,unt,ro,rx,ft,rfl,B,s0,M0,Dx,hro,hft,hrx,rl,ul,k⟩:=h
    obtain ⟨dx,oA,aA,bA,vc,hp,So,Da,Db,hc⟩:=B.ob
    obtain ⟨dxk,_,_,_,_,_,_,hk1,_,_,_,_,_⟩:=Dx.ob
    obtain ⟨_,_,aa,_,_,_,_,_,_,Sa,_,_,_⟩:=Da.ob
    obtain ⟨_,_,ba,_,_,_,_,_,_,Sb,_,_,_⟩:=Db.ob
    obtain ⟨j1,j2,j3,j4⟩:=zBS (o:=o) Sa.wf Sb.wf
    refine zG ?_; clear zG
    have hr2:Room 2 _:=hr.mono (by decide)
    refine ⟨_,zAF (zAk (zA2 (em m1 T.clO hr zAU (pv 2) (zAA (pv 1) zAE)))
      (zAD (zAT (zAw PySem.F.plainAttrs_list PySem.F.slot_list_append PySem.F.type_list_append zAW (zAI (pv 0) rfl) (zAA (zBg (zAA (eg T.rowU) (zAA (zAS zAL rfl T.len zAj (zAA (zAI (pv 0) rfl) zAE)) (zAA (pv 3) zAE)))) zAE)))
      (zAF (zAT (zAw PySem.F.plainAttrs_list PySem.F.slot_list_append PySem.F.type_list_append zAW (zAI (pv 0) rfl) (zAA (em m2 T.clO hr2 zAU (pv 2) (zAA (pv 1) (zAA (zAI (pv 0) rfl) zAE))) zAE))))) zAY),?_⟩
    refine ⟨_,rfl,kp,dxk,_,rfl,s0 _ _ hk1,(by rw [lk1,lk1,lk1,lk1,lk1]; rfl),_,rfl,kp,i,o,x,ro,rx,ft,rfl,Dx.rd.same s0,hro,hft,hrx,fun H1 z1=>⟨_,rfl,?_⟩⟩
    have z01:=s0.trans z1
    have M1:=M0.same z1
    cases hch:Sx01.changed o x ro rx with
    | false =>
      rw [hch] at k
      exact iteF (k H1 M1 z01)
    | true =>
      rw [hch,if_pos rfl,if_pos rfl] at k
      obtain ⟨uvs,hu,hup⟩:=M1.u
      obtain ⟨rvs,hrv,hrp⟩:=M1.r
      have uvl:=zAM hup
      have rvl:=zAM hrp
      refine iteT ⟨_,rfl,p,c.joining,dx,_,.ref uA,rfl,z01 _ _ hp,T.cl,T.nU,(by rw [lk1,lk1,lk1,lk1,lk1,lk0]),.inl ⟨rfl,_,SqL.of hu⟩,_,rfl,p,c.joining,dx,_,.ref rA,rfl,z01 _ _ hp,T.cl,T.nRo,(by rw [lk1,lk1,lk1,lk1,lk0]),rA,_,rfl,.inl (SqL.of hrv),_,rfl,(by show 3≤sizeLine; decide),fun t ht=>?_⟩
      rw [rvl]
      have zt:Same H1 (upd H1 t (.tup [.int (2:Int),.int (rows.length:Nat),.int (who:Nat)])):=zAJ ht
      have M2:=M1.same zt
      refine ⟨uA,uvs,_,rfl,rfl,zt _ _ hu,small (m:=1000000) (by omega),?_⟩
      have M3:=M2.unt (x:=⟨2,rows.length,who⟩) B.ne (zt _ _ hu) (SqT.of zAB)
      have z03:Same Hb (upd (upd H1 t (.tup [.int (2:Int),.int (rows.length:Nat),.int (who:Nat)])) uA (.lst (uvs++[.ref t]))):=fun b' ob e=>by rw [zAG (zAC e B.nu)]; exact zt _ _ (z01 _ _ e)
      have hrv3:upd (upd H1 t (.tup [.int (2:Int),.int (rows.length:Nat),.int (who:Nat)])) uA (.lst (uvs++[.ref t])) rA=some (.lst rvs):=by rw [zAG B.ne]; exact zt _ _ hrv
      refine ⟨_,rfl,p,c.joining,dx,_,.ref rA,rfl,z03 _ _ hp,T.cl,T.nRo,(by rw [lk1,lk1,lk1,lk1,lk0]),.inl ⟨rfl,_,SqL.of hrv3⟩,_,rfl,kp,dxk,_,rfl,z03 _ _ hk1,(by rw [lk1,lk1,lk1,lk1,lk1]; rfl),_,rfl,_,rfl,p,c.joining,dx,_,vc,rfl,z03 _ _ hp,T.cl,T.nCo,(by rw [lk1,lk1,lk1,lk0]),kp,i,vc,o,x,_,ro,rx,ft,rfl,Dx.rd.same z03,zAa _ _ _ _ z03.kt hc,by omega,hro,hft,hrx,fun u H4 hu4 z4=>?_⟩
      have M4:=M3.same z4
      refine ⟨rA,rvs,u,rfl,rfl,z4 _ _ hrv3,small (m:=1000000) (by omega),?_⟩
      exact k _ (M4.rowsM B.ne (z4 _ _ hrv3) (.cons hu4 .nil)) fun b' ob e=>by rw [zAG (zAC e B.nr)]; exact z4 _ _ (z03 _ _ e)
abbrev mJG (P:Program) (w:World) (K:Fg) (mg:MG) (base:Heap) (c:Cs):Prop:=MCal P w K mg base CX0 4 c.joining "join_row_gone_in_one" ["self","at","keeper","taker"] (spJG K c)
def zBU (o a b:Sx01.Sheet) (cols:List Sx01.Bytes) (ro rx ry:Sx01.Row):List (Sx01.Cell×Bool):=cols.map fun n=>Sx01.three (Sx01.cellOf o.cols ro n) (Sx01.seen o a ro rx n) (Sx01.seen o b ro ry n)
theorem zHM (o a b:Sx01.Cell):(Sx01.three o a b).1=if a=o then b else a:=by
 unfold Sx01.three
 by_cases h1:a=b
 ·rw [if_pos h1,h1]
  split <;> rfl
 ·rw [if_neg h1]
  by_cases h2:a=o
  ·rw [if_pos h2,if_pos h2]
  ·rw [if_neg h2,if_neg h2]
   split <;> rfl
abbrev sJK:Stmt:=zAK (top 37) 6
theorem scJK:FnScope ["self","at","before","by_a","by_b","cells","place","cell"] ["self","at"] (zAH sJK):=scm
def spJK (K:Fg) (c:Cs):Sp:=fun vs H Q _=>∃ (p rA uA:Addr) (i:Nat) (Hb:Hp) (o a b:Sx01.Sheet) (rows:List Sx01.Row) (unt:List Sx01.Clash) (ro rx ry:Sx01.Row) (fa fb:Sx01.Fate),vs=[.ref p,.int (i:Nat)]∧JB K c Hb p rA uA o a b∧Same Hb H∧JM K H rA uA rows unt ∧
 o.rows[i]? = some ro∧(Sx01.fatesOf o a).1[i]? = some fa∧fa.row=some rx∧(Sx01.fatesOf o b).1[i]? = some fb∧fb.row=some ry∧rows.length≤400000∧unt.length≤100000 ∧
 ∀ H',JM K H' rA uA (rows++[(zBU o a b (Sx01.joinedCols o a b) ro rx ry).map fun c=>c.1]) (unt++zAz rows.length (kcl (zBU o a b (Sx01.joinedCols o a b) ro rx ry)))→Same Hb H'→Q .non H'
theorem ok_jk {f:Addr}{fd:FuncData} (F:Fun K "join_row_kept" "Joining.join_row_kept" sJK f fd) (T:TxJ K mg c) (m1:mRbn P w K mg base c) (m2:zGT P w K mg base c) (c1:cUnt P w K mg base):FnOk P w K mg base CX0 3 f fd ["self","at"] (spJK K c):=by
  refine F.ok scJK (fun vs H Q E h=>?_) (fun cdv A outer s H vs Q E hr h=>?_)
  · obtain ⟨p,rA,uA,i,Hb,o,a,b,rows,unt,ro,rx,ry,fa,fb,rfl,_⟩:=h
    rfl
  · refine hide fun Gz zG=>?_
    obtain ⟨p,rA,uA,i,Hb,o,a,b,rows,unt,ro,rx,ry,fa,fb,rfl,B,s0,M0,hro,hfa,hrx,hfb,hry,rl,ul,k⟩:=h
    obtain ⟨dx,oA,aA,bA,vc,hp,So,Da,Db,hc⟩:=B.ob
    obtain ⟨dxa,_,aa,_,_,_,_,ha1,_,Sa,_,_,_⟩:=Da.ob
    obtain ⟨dxb,_,ba,_,_,_,_,hb1,_,Sb,_,_,_⟩:=Db.ob
    obtain ⟨dxo,oca,ora,opa,okv,ho1,ho2,ho3,_⟩:=So.ob
    obtain ⟨_,orv,e0,or1,or2⟩:=id ho3
    cases e0
    obtain ⟨ov,hov,hor⟩:=zAm or2 hro
    obtain ⟨j1,j2,j3,j4⟩:=zBS (o:=o) Sa.wf Sb.wf
    refine zG ?_; clear zG
    have hr1:Room 1 _:=hr.mono (by decide)
    refine ⟨_,zAD (zAN (i:=2) scJK.nd rfl (Or.inl rfl) (em m1 T.clS hr zAU (zAI (pv 0) rfl) (zAA (zAn zBW (zAI (zAI (pv 0) rfl) rfl) (pv 1) (fun _ _=>rfl)) (zAA (zAI (pv 0) rfl) zAE))))
      (zAD (zAN (i:=3) scJK.nd rfl (Or.inl rfl) (em m2 T.clO hr zAU (zAI (pv 0) rfl) (zAA (pv 1) (zAA (zAI (pv 0) rfl) zAE))))
      (zAD (zAN (i:=4) scJK.nd rfl (Or.inl rfl) (em m2 T.clO hr zAU (zAI (pv 0) rfl) (zAA (pv 1) (zAA (zAI (pv 0) rfl) zAE))))
      (zAD (zAN (i:=5) scJK.nd rfl (Or.inl rfl) (zAo zAE))
      (zAD (zA6 PassesOwn.never rfl (zCc rfl T.enum (zAA (pv 2) zAE)) (zB3 rfl (zAg (zAR (i:=6) scJK.nd rfl (Or.inl rfl)) (zAg (zAR (i:=7) scJK.nd rfl (Or.inl rfl)) zBb)))
        (zAD (zAT (zAw PySem.F.plainAttrs_list PySem.F.slot_list_append PySem.F.type_list_append zAW (pv 5) (zAA (zGH (zAX (op_eqD hr.units) (zAn zBW (pv 3) (pv 6) (fun _ _=>rfl)) (pv 7) (zAb _)) (zAn zBW (pv 4) (pv 6) (fun _ _=>rfl)) (zAn zBW (pv 3) (pv 6) (fun _ _=>rfl))) zAE)))
        (zAF (zAk (zA2 (ec c1 hr1 zAU (zAA (pv 7) (zAA (zAn zBW (pv 3) (pv 6) (fun _ _=>rfl)) (zAA (zAn zBW (pv 4) (pv 6) (fun _ _=>rfl)) zAE)))))
          (zAF (zAT (zAw PySem.F.plainAttrs_list PySem.F.slot_list_append PySem.F.type_list_append zAW (zAI (pv 0) rfl) (zAA (zBg (zAA (eg T.cellU) (zAA (zAS zAL rfl T.len zAj (zAA (zAI (pv 0) rfl) zAE)) (zAA (pv 6) zAE)))) zAE)))) zAY))))
      (zAF (zAT (zAw PySem.F.plainAttrs_list PySem.F.slot_list_append PySem.F.type_list_append zAW (zAI (pv 0) rfl) (zAA (zAs zAe rfl T.tuple zBD (zAA (pv 5) zAE)) zAE)))))))),?_⟩
    refine ⟨_,rfl,p,c.joining,dx,_,.ref oA,rfl,s0 _ _ hp,T.cl,T.nO,lk0,oA,dxo,_,rfl,s0 _ _ ho1,(by rw [lk1,lk1,lk1]; rfl),?_⟩
    refine ⟨_,rfl,p,c.joining,dx,_,.ref oA,rfl,s0 _ _ hp,T.cl,T.nO,lk0,oA,c.sheet,dxo,_,.ref ora,rfl,s0 _ _ ho1,T.clS,T.nR,(by rw [lk1,lk0]),_,rfl,ora,_,_,_,rfl,rfl,s0.kt.sqt or1,zAO hov,_,rfl,p,c.joining,dx,_,vc,rfl,s0 _ _ hp,T.cl,T.nCo,(by rw [lk1,lk1,lk1,lk0]),oA,o,ov,vc,ro,_,rfl,So.same s0,mono_row _ _ _ _ s0.kt hor,So.wf.wid ro (List.mem_of_getElem? hro),zAa _ _ _ _ s0.kt hc,by omega,fun u0 H1 hu0 z1=>?_⟩
    have z01:=s0.trans z1
    refine ⟨_,rfl,p,c.joining,dx,_,.ref aA,rfl,z01 _ _ hp,T.cl,T.nA,(by rw [lk1,lk0]),aA,dxa,_,rfl,z01 _ _ ha1,(by rw [lk1,lk1,lk1,lk1,lk1]; rfl),_,rfl,_,rfl,p,c.joining,dx,_,vc,rfl,z01 _ _ hp,T.cl,T.nCo,(by rw [lk1,lk1,lk1,lk0]),aA,i,vc,o,a,_,ro,rx,fa,rfl,Da.rd.same z01,zAa _ _ _ _ z01.kt hc,by omega,hro,hfa,hrx,fun u1 H2 hu1 z2=>?_⟩
    have z02:=z01.trans z2
    refine ⟨_,rfl,p,c.joining,dx,_,.ref bA,rfl,z02 _ _ hp,T.cl,T.nB,(by rw [lk1,lk1,lk0]),bA,dxb,_,rfl,z02 _ _ hb1,(by rw [lk1,lk1,lk1,lk1,lk1]; rfl),_,rfl,_,rfl,p,c.joining,dx,_,vc,rfl,z02 _ _ hp,T.cl,T.nCo,(by rw [lk1,lk1,lk1,lk0]),bA,i,vc,o,b,_,ro,ry,fb,rfl,Db.rd.same z02,zAa _ _ _ _ z02.kt hc,by omega,hro,hfb,hry,fun u2 H3 hu2 z3=>?_⟩
    have z03:=z02.trans z3
    have M3:=((M0.same z1).same z2).same z3
    refine ⟨Nat.zero_le _,fun C hC=>?_⟩
    have zC:Same H3 (upd H3 C (.lst [])):=zAJ hC
    have M4:=M3.same zC
    obtain ⟨rvs0,hrv0,_⟩:=M3.r
    obtain ⟨uvs0,hu0',_⟩:=M3.u
    have nCr:C≠rA:=(zAC hrv0 hC).symm
    have nCu:C≠uA:=(zAC hu0' hC).symm
    have hbC:Hb C=none:=z03.free hC
    have hu0:=mono_row _ _ _ _ ((z2.trans z3).trans zC).kt hu0
    have hu1:=mono_row _ _ _ _ (z3.trans zC).kt hu1
    have hu2:=mono_row _ _ _ _ zC.kt hu2
    obtain ⟨a0,vs0,rfl,q01,q02⟩:=hu0
    obtain ⟨a1,vs1,rfl,q11,q12⟩:=hu1
    obtain ⟨a2,vs2,rfl,q21,q22⟩:=hu2
    have l0:=zAM q02
    rw [List.length_map] at l0
    have lth:(zBU o a b (Sx01.joinedCols o a b) ro rx ry).length=(Sx01.joinedCols o a b).length:=by unfold zBU; rw [List.length_map]
    generalize hH4:upd H3 C (.lst [])=H4 at q01 q02 q11 q12 q21 q22 M4 zC
    have z04:Same Hb H4:=z03.trans zC
    have e4:H4 C=some (.lst []):=by rw [←hH4]; exact zAB
    refine ⟨_,rfl,a0,vs0,rfl,q01,zCh (K:=K) (a:=a0) (xs:=vs0) (fun j σ H'=>∃ u6 u7 acc,σ=[some (.ref p),some (.int (i:Nat)),some (.ref a0),some (.ref a1),some (.ref a2),some (.ref C),u6,u7]∧H' C=some (.lst acc)∧Paired (IsCel K H') acc (((zBU o a b (Sx01.joinedCols o a b) ro rx ry).take j).map fun c=>c.1) ∧
      JM K H' rA uA rows (unt++zAz rows.length (kcl ((zBU o a b (Sx01.joinedCols o a b) ro rx ry).take j)))∧KTup H4 H'∧Same Hb H') ⟨none,none,[],rfl,e4,.nil,by simpa [kcl,zAz] using M4,KTup.refl _,z04⟩ ?_ ?_ ?_⟩
    · rintro j σ H' _ ⟨_,_,_,_,_,_,_,kt,_⟩
      exact kt.sqt q01
    · intro j v σ H' Tn hj hI hT
      refine hide fun Gz zG=>?_
      obtain ⟨u6,u7,acc,rfl,eC,pc,M,kt,z⟩:=hI
      have jl:j < vs0.length:=(List.getElem?_eq_some_iff.mp hj).1
      have jlc:j < (Sx01.joinedCols o a b).length:=by omega
      obtain ⟨n,hn⟩:∃ n,(Sx01.joinedCols o a b)[j]? = some n:=⟨_,List.getElem?_eq_getElem jlc⟩
      have hth:(zBU o a b (Sx01.joinedCols o a b) ro rx ry)[j]? = some (Sx01.three (Sx01.cellOf o.cols ro n) (Sx01.seen o a ro rx n) (Sx01.seen o b ro ry n)):=by
        unfold zBU
        rw [List.getElem?_map,hn]
        rfl
      obtain ⟨y0,hy0,hc0⟩:=zAl q02 hj
      refine zG ?_; clear zG
      rw [List.getElem?_map,hn] at hy0
      have hy0:=Option.some.inj hy0
      subst hy0
      obtain ⟨v1,hv1,hc1⟩:=zAm q12 (show ((Sx01.joinedCols o a b).map fun n=>Sx01.seen o a ro rx n)[j]? = some (Sx01.seen o a ro rx n) by rw [List.getElem?_map,hn]; rfl)
      obtain ⟨v2,hv2,hc2⟩:=zAm q22 (show ((Sx01.joinedCols o a b).map fun n=>Sx01.seen o b ro ry n)[j]? = some (Sx01.seen o b ro ry n) by rw [List.getElem?_map,hn]; rfl)
      have zT':Same H' (upd H' Tn (.tup [.int (j:Nat),v])):=zAJ hT
      have ktT:KTup H4 (upd H' Tn (.tup [.int (j:Nat),v])):=kt.trans zT'.kt
      have zT:Same Hb (upd H' Tn (.tup [.int (j:Nat),v])):=z.trans zT'
      have MT:=M.same zT'
      have eCT:=zT' _ _ eC
      have pcT:=mono_cel.pr zT'.kt pc
      have c0:=mono_cel _ _ _ _ ktT hc0
      have c1':=mono_cel _ _ _ _ ktT hc1
      have c2':=mono_cel _ _ _ _ ktT hc2
      have al:=zAM pc
      rw [List.length_map,List.length_take] at al
      have kl:=kcl_len ((zBU o a b (Sx01.joinedCols o a b) ro rx ry).take j)
      rw [List.length_take] at kl
      refine ⟨Tn,_,rfl,SqT.of zAB,rfl,_,_,rfl,_,_,rfl,rfl,?_⟩
      refine ⟨_,rfl,.inl ⟨rfl,_,SqL.of eCT⟩,_,rfl,_,rfl,a1,_,_,_,rfl,rfl,ktT.sqt q11,zAO hv1,_,rfl,_,_,c1'.dp,c0.dp,zAf _,zAf _,_,rfl,?_⟩
      rw [zBj]
      have fin:∀ (u:V),IsCel K (upd H' Tn (.tup [.int (j:Nat),v])) u (Sx01.three (Sx01.cellOf o.cols ro n) (Sx01.seen o a ro rx n) (Sx01.seen o b ro ry n)).1 →
          let H5:=upd (upd H' Tn (.tup [.int (j:Nat),v])) C (.lst (acc++[u]))
          H5 C=some (.lst (acc++[u]))∧Paired (IsCel K H5) (acc++[u]) (((zBU o a b (Sx01.joinedCols o a b) ro rx ry).take (j+1)).map fun c=>c.1)∧JM K H5 rA uA rows (unt++zAz rows.length (kcl ((zBU o a b (Sx01.joinedCols o a b) ro rx ry).take j)))∧KTup H4 H5∧Same Hb H5:=by
        intro u hu H5
        refine ⟨zAB,?_,MT.other eCT nCr nCu,ktT.trans (zAi eCT),fun b' ob e=>by
          show upd _ C _ b' = _
          rw [zAG (zAC e hbC)]
          exact zT _ _ e⟩
        rw [zAh hth,List.map_append]
        exact zAv (mono_cel.pr (zAi eCT) pcT) (mono_cel _ _ _ _ (zAi eCT) hu)
      have ask:∀ (H5:Hp) (acc':List V),H5 C=some (.lst acc')→Paired (IsCel K H5) acc' (((zBU o a b (Sx01.joinedCols o a b) ro rx ry).take (j+1)).map fun c=>c.1)→JM K H5 rA uA rows (unt++zAz rows.length (kcl ((zBU o a b (Sx01.joinedCols o a b) ro rx ry).take j)))→KTup H4 H5→Same Hb H5 →
          ∀ t,(Sx01.three (Sx01.cellOf o.cols ro n) (Sx01.seen o a ro rx n) (Sx01.seen o b ro ry n)).2=true→H5 t=none→QA (.ref uA) [.ref t] (upd H5 t (.tup [.int (1:Int),.int (rows.length:Nat),.int (j:Nat)])) fun _ H6 =>
          ∃ u6 u7 acc,([some (.ref p),some (.int (i:Nat)),some (.ref a0),some (.ref a1),some (.ref a2),some (.ref C),some (.int (j:Nat)),some v]:L2.St)=[some (.ref p),some (.int (i:Nat)),some (.ref a0),some (.ref a1),some (.ref a2),some (.ref C),u6,u7]∧H6 C=some (.lst acc)∧Paired (IsCel K H6) acc (((zBU o a b (Sx01.joinedCols o a b) ro rx ry).take (j+1)).map fun c=>c.1) ∧
            JM K H6 rA uA rows (unt++zAz rows.length (kcl ((zBU o a b (Sx01.joinedCols o a b) ro rx ry).take (j+1))))∧KTup H4 H6∧Same Hb H6:=by
        intro H5 acc' e5 p5 M5 kt5 z5 t hth2 ht
        have zt:Same H5 (upd H5 t (.tup [.int (1:Int),.int (rows.length:Nat),.int (j:Nat)])):=zAJ ht
        have M6:=M5.same zt
        obtain ⟨uvs,hu,hup⟩:=M6.u
        have uvl:=zAM hup
        have cll:(zAz rows.length (kcl ((zBU o a b (Sx01.joinedCols o a b) ro rx ry).take j))).length≤128:=by
          unfold zAz
          rw [List.length_map]
          omega
        rw [List.length_append] at uvl
        refine ⟨uA,uvs,_,rfl,rfl,hu,small (m:=1000000) (by omega),_,_,acc',rfl,?_,?_,?_,(kt5.trans zt.kt).trans (zAi hu),fun b' ob e=>by rw [zAG (zAC e B.nu)]; exact zt _ _ (z5 _ _ e)⟩
        · rw [zAG nCu]
          exact zt _ _ e5
        · exact mono_cel.pr (zt.kt.trans (zAi hu)) p5
        · have M7:=M6.unt (x:=⟨1,rows.length,j⟩) B.ne hu (SqT.of zAB)
          rw [zEl hth,hth2,if_pos rfl]
          unfold zAz at M7 ⊢
          rw [List.map_append,←List.append_assoc]
          exact M7
      have rvlen:∀ (H5:Hp) (l5:List Sx01.Clash),JM K H5 rA uA rows l5→∃ rvs,H5 rA=some (.lst rvs)∧rvs.length=rows.length:=fun H5 l5 M5=>by
        obtain ⟨rvs,h1,h2⟩:=M5.r
        exact ⟨rvs,h1,zAM h2⟩
      have sz:acc.length < sizeLine:=small (m:=1000) (by omega)
      rw [zHM] at fin
      by_cases e:Sx01.seen o a ro rx n=Sx01.cellOf o.cols ro n
      · rw [decide_eq_true e]
        rw [if_pos e] at fin
        refine iteT ⟨_,rfl,_,rfl,a2,_,_,_,rfl,rfl,ktT.sqt q21,zAO hv2,C,acc,v2,rfl,rfl,eCT,sz,?_⟩
        obtain ⟨g1,g2,g3,g4,g5⟩:=fin v2 c2'
        refine ⟨_,rfl,_,rfl,_,rfl,a1,_,_,_,rfl,rfl,g4.sqt q11,zAO hv1,_,rfl,_,rfl,a2,_,_,_,rfl,rfl,g4.sqt q21,zAO hv2,v,v1,v2,_,_,_,rfl,mono_cel _ _ _ _ g4 hc0,mono_cel _ _ _ _ g4 hc1,mono_cel _ _ _ _ g4 hc2,_,rfl,?_⟩
        cases h3:(Sx01.three (Sx01.cellOf o.cols ro n) (Sx01.seen o a ro rx n) (Sx01.seen o b ro ry n)).2 with
        | true =>
          obtain ⟨rvs,hrv,hrl⟩:=rvlen _ _ g3
          obtain ⟨uvs,huv,_⟩:=g3.u
          refine iteT ⟨_,rfl,p,c.joining,dx,_,.ref uA,rfl,g5 _ _ hp,T.cl,T.nU,(by rw [lk1,lk1,lk1,lk1,lk1,lk0]),.inl ⟨rfl,_,SqL.of huv⟩,_,rfl,p,c.joining,dx,_,.ref rA,rfl,g5 _ _ hp,T.cl,T.nRo,(by rw [lk1,lk1,lk1,lk1,lk0]),rA,_,rfl,.inl (SqL.of hrv),_,rfl,(by show 3≤sizeLine; decide),fun t ht=>?_⟩
          rw [hrl]
          exact ask _ _ g1 g2 g3 g4 g5 t h3 ht
        | false =>
          refine iteF ⟨_,_,_,rfl,g1,g2,?_,g4,g5⟩
          rw [zEl hth,h3,if_neg Bool.false_ne_true,List.append_nil]
          exact g3
      · rw [decide_eq_false e]
        rw [if_neg e] at fin
        refine iteF ⟨_,rfl,_,rfl,a1,_,_,_,rfl,rfl,ktT.sqt q11,zAO hv1,C,acc,v1,rfl,rfl,eCT,sz,?_⟩
        obtain ⟨g1,g2,g3,g4,g5⟩:=fin v1 c1'
        refine ⟨_,rfl,_,rfl,_,rfl,a1,_,_,_,rfl,rfl,g4.sqt q11,zAO hv1,_,rfl,_,rfl,a2,_,_,_,rfl,rfl,g4.sqt q21,zAO hv2,v,v1,v2,_,_,_,rfl,mono_cel _ _ _ _ g4 hc0,mono_cel _ _ _ _ g4 hc1,mono_cel _ _ _ _ g4 hc2,_,rfl,?_⟩
        cases h3:(Sx01.three (Sx01.cellOf o.cols ro n) (Sx01.seen o a ro rx n) (Sx01.seen o b ro ry n)).2 with
        | true =>
          obtain ⟨rvs,hrv,hrl⟩:=rvlen _ _ g3
          obtain ⟨uvs,huv,_⟩:=g3.u
          refine iteT ⟨_,rfl,p,c.joining,dx,_,.ref uA,rfl,g5 _ _ hp,T.cl,T.nU,(by rw [lk1,lk1,lk1,lk1,lk1,lk0]),.inl ⟨rfl,_,SqL.of huv⟩,_,rfl,p,c.joining,dx,_,.ref rA,rfl,g5 _ _ hp,T.cl,T.nRo,(by rw [lk1,lk1,lk1,lk1,lk0]),rA,_,rfl,.inl (SqL.of hrv),_,rfl,(by show 3≤sizeLine; decide),fun t ht=>?_⟩
          rw [hrl]
          exact ask _ _ g1 g2 g3 g4 g5 t h3 ht
        | false =>
          refine iteF ⟨_,_,_,rfl,g1,g2,?_,g4,g5⟩
          rw [zEl hth,h3,if_neg Bool.false_ne_true,List.append_nil]
          exact g3
    · intro σ H' hI
      refine hide fun Gz zG=>?_
      obtain ⟨u6,u7,acc,rfl,eC,pc,M,kt,z⟩:=hI
      refine zG ?_; clear zG
      rw [l0,←lth,List.take_length] at pc M
      obtain ⟨rvs,hrv,hrp⟩:=M.r
      have rvl:=zAM hrp
      refine ⟨_,rfl,p,c.joining,dx,_,.ref rA,rfl,z _ _ hp,T.cl,T.nRo,(by rw [lk1,lk1,lk1,lk1,lk0]),.inl ⟨rfl,_,SqL.of hrv⟩,_,rfl,C,acc,rfl,.inl ⟨SqL.of eC,fun q hq=>?_⟩⟩
      have zq:Same H' (upd H' q (.tup acc)):=zAJ hq
      refine ⟨rA,rvs,_,rfl,rfl,zq _ _ hrv,small (m:=1000000) (by omega),?_⟩
      exact k _ ((M.same zq).rowsM B.ne (zq _ _ hrv) (.cons ⟨q,acc,rfl,SqT.of zAB,mono_cel.pr zq.kt pc⟩ .nil)) fun b' ob e=>by rw [zAG (zAC e B.nr)]; exact zq _ _ (z _ _ e)
abbrev mJK (P:Program) (w:World) (K:Fg) (mg:MG) (base:Heap) (c:Cs):Prop:=MCal P w K mg base CX0 3 c.joining "join_row_kept" ["self","at"] (spJK K c)
end
end Sh
set_option maxHeartbeats 2000000
namespace Sh
open PySem PySem.Spec PyProof.Rows L2 ShM
def outR (t:Option (Sx01.Row×List (Nat×Nat))):List Sx01.Row:=match t with
 | none=>[]
 | some t=>[t.1]
def outU (k:Nat) (t:Option (Sx01.Row×List (Nat×Nat))):List Sx01.Clash:=match t with
 | none=>[]
 | some t=>zAz k t.2
theorem zDp (o a b:Sx01.Sheet) (cols:List Sx01.Bytes) (l m:List Sx01.Row):(Sx01.bothPut o a b cols l m).length≤l.length+m.length:=by
 unfold Sx01.bothPut
 simp only
 split
 ·rw [List.length_map]; omega
 ·rw [List.length_append,List.length_map,List.length_map]; exact Nat.le_refl _
theorem zCE (o a b:Sx01.Sheet) (cols:List Sx01.Bytes) (r:Sx01.Row) (l:List Sx01.Row) (x:Sx01.Fate) (f:List Sx01.Fate) (y:Sx01.Fate) (g:List Sx01.Fate) (k:Nat) :
  Sx01.threeRows o a b cols (r::l) (x::f) (y::g) k =
   let p:=Sx01.bothPut o a b cols x.before y.before
   let t:=Sx01.threeRow o a b cols r x.row y.row
   let z:=Sx01.threeRows o a b cols l f g (k+p.length+(outR t).length)
   (p++(outR t++z.1),outU (k+p.length) t++z.2):=by
 rw [Sx01.threeRows]
 simp only
 cases Sx01.threeRow o a b cols r x.row y.row with
 | none=>rfl
 | some t=>rfl
theorem zCY (o a b:Sx01.Sheet) (cols:List Sx01.Bytes) (f g:List Sx01.Fate) (k:Nat):Sx01.threeRows o a b cols [] f g k=([],[]):=by
 rw [Sx01.threeRows]
 intros
 contradiction
section
variable {P:Program}{w:World}{K:Fg}{mg:MG}{base:Heap}{c:Cs}
abbrev sJR:Stmt:=zAK (top 37) 4
theorem scJR:FnScope ["self","at","gone_in_a","gone_in_b"] ["self","at"] (zAH sJR):=scm
def spJR (K:Fg) (c:Cs):Sp:=fun vs H Q _=>∃ (p rA uA:Addr) (i:Nat) (Hb:Hp) (o a b:Sx01.Sheet) (rows:List Sx01.Row) (unt:List Sx01.Clash) (ro:Sx01.Row) (fa fb:Sx01.Fate),vs=[.ref p,.int (i:Nat)]∧JB K c Hb p rA uA o a b∧Same Hb H∧JM K H rA uA rows unt ∧
 o.rows[i]? = some ro∧(Sx01.fatesOf o a).1[i]? = some fa∧(Sx01.fatesOf o b).1[i]? = some fb∧rows.length≤400000∧unt.length≤100000 ∧
 ∀ H',JM K H' rA uA (rows++outR (Sx01.threeRow o a b (Sx01.joinedCols o a b) ro fa.row fb.row)) (unt++outU rows.length (Sx01.threeRow o a b (Sx01.joinedCols o a b) ro fa.row fb.row))→Same Hb H'→Q .non H'
theorem ok_jr {f:Addr}{fd:FuncData} (F:Fun K "join_row" "Joining.join_row" sJR f fd) (T:TxJ K mg c) (m1:mJG P w K mg base c) (m2:mJK P w K mg base c):FnOk P w K mg base CX0 5 f fd ["self","at"] (spJR K c):=by
  refine F.ok scJR (fun vs H Q E h=>?_) (fun cdv A outer s H vs Q E hr h=>?_)
  · obtain ⟨p,rA,uA,i,Hb,o,a,b,rows,unt,ro,fa,fb,rfl,_⟩:=h
    rfl
  · refine hide fun Gz zG=>?_
    obtain ⟨p,rA,uA,i,Hb,o,a,b,rows,unt,ro,fa,fb,rfl,B,s0,M0,hro,hfa,hfb,rl,ul,k⟩:=h
    obtain ⟨dx,oA,aA,bA,vc,hp,So,Da,Db,hc⟩:=B.ob
    obtain ⟨dxa,_,aa,aka,_,_,_,ha1,_,Sa,⟨akv,_,hak,pak,_,_⟩,_,_⟩:=id Da.ob
    obtain ⟨dxb,_,ba,bka,_,_,_,hb1,_,Sb,⟨bkv,_,hbk,pbk,_,_⟩,_,_⟩:=id Db.ob
    have hr3:Room 3 _:=hr.mono (by decide)
    obtain ⟨va,hva,hra⟩:=zAm pak (show ((Sx01.fatesOf o a).1.map Sx01.Fate.row)[i]? = some fa.row by rw [List.getElem?_map,hfa]; rfl)
    obtain ⟨vb,hvb,hrb⟩:=zAm pbk (show ((Sx01.fatesOf o b).1.map Sx01.Fate.row)[i]? = some fb.row by rw [List.getElem?_map,hfb]; rfl)
    refine zG ?_; clear zG
    refine ⟨_,zAD (zAN (i:=2) scJR.nd rfl (Or.inl rfl) (zFB (zGJ (zAn zAc (zAI (zAI (pv 0) rfl) rfl) (pv 1) (fun _ _=>rfl)))))
      (zAD (zAN (i:=3) scJR.nd rfl (Or.inl rfl) (zFB (zGJ (zAn zAc (zAI (zAI (pv 0) rfl) rfl) (pv 1) (fun _ _=>rfl)))))
      (zAD (zAk (PW.pt (zC4 (zA2 (pv 2)) (zCL (zA2 (pv 3))))) (zAF ps_retN) zAY)
      (zAF (zAk (zA2 (pv 2)) (zAF (zAT (em m1 T.cl hr zAU (pv 0) (zAA (pv 1) (zAA (zAI (pv 0) rfl) (zAA (eg T.takA) zAE))))))
        (zAF (zAk (zA2 (pv 3)) (zAF (zAT (em m1 T.cl hr zAU (pv 0) (zAA (pv 1) (zAA (zAI (pv 0) rfl) (zAA (eg T.takB) zAE))))))
          (zAF (zAT (em m2 T.cl hr3 zAU (pv 0) (zAA (pv 1) zAE)))))))))),?_⟩
    refine ⟨_,rfl,p,c.joining,dx,_,.ref aA,rfl,s0 _ _ hp,T.cl,T.nA,(by rw [lk1,lk0]),aA,c.doings,dxa,_,.ref aka,rfl,s0 _ _ ha1,T.clO,T.nK,(by rw [lk1,lk1,lk0]),_,rfl,aka,_,_,va,rfl,rfl,SqL.of (s0 _ _ hak),zAO hva,?_⟩
    refine ⟨_,rfl,p,c.joining,dx,_,.ref bA,rfl,s0 _ _ hp,T.cl,T.nB,(by rw [lk1,lk1,lk0]),bA,c.doings,dxb,_,.ref bka,rfl,s0 _ _ hb1,T.clO,T.nK,(by rw [lk1,lk1,lk0]),_,rfl,bka,_,_,vb,rfl,rfl,SqL.of (s0 _ _ hbk),zAO hvb,?_⟩
    refine ⟨_,rfl,_,rfl,?_⟩
    cases hfra:fa.row with
    | none =>
      rw [hfra] at hra k
      have hra:va = .non:=hra
      subst hra
      rw [decide_eq_true rfl]
      refine iteT ⟨_,rfl,_,rfl,?_⟩
      cases hfrb:fb.row with
      | none =>
        rw [hfrb] at hrb k
        have hrb:vb = .non:=hrb
        subst hrb
        rw [decide_eq_true rfl]
        refine iteT ?_
        have k2:=k H
        simp only [Sx01.threeRow,outR,outU,List.append_nil] at k2
        exact k2 M0 s0
      | some ry =>
        rw [hfrb] at hrb k
        obtain ⟨ya,yvs,rfl,_,_⟩:=id (show zAy K Hb vb ry from hrb)
        rw [decide_eq_false (by intro w; cases w)]
        refine iteF ⟨_,rfl,_,rfl,?_⟩
        refine iteT ⟨_,rfl,p,dx,_,rfl,s0 _ _ hp,(by rw [lk1,lk1,lk1,lk1,lk1,lk1]; rfl),_,rfl,_,rfl,p,c.joining,dx,_,.ref bA,rfl,s0 _ _ hp,T.cl,T.nB,(by rw [lk1,lk1,lk0]),p,rA,uA,bA,i,1,Hb,o,a,b,b,rows,unt,ro,ry,fb,rfl,B,s0,M0,Db,hro,hfb,hfrb,rl,ul,fun H' M' z'=>?_⟩
        refine k H' ?_ z'
        simp only [Sx01.threeRow]
        cases hch:Sx01.changed o b ro ry with
        | true =>
          rw [hch,if_pos rfl,if_pos rfl] at M'
          exact M'
        | false =>
          rw [hch,if_neg Bool.false_ne_true,if_neg Bool.false_ne_true] at M'
          simpa [outR,outU] using M'
    | some rx =>
      rw [hfra] at hra k
      obtain ⟨xa,xvs,rfl,_,_⟩:=id (show zAy K Hb va rx from hra)
      rw [decide_eq_false (by intro w; cases w)]
      refine iteF (iteF ⟨_,rfl,_,rfl,?_⟩)
      refine iteF ⟨_,rfl,_,rfl,?_⟩
      cases hfrb:fb.row with
      | none =>
        rw [hfrb] at hrb k
        have hrb:vb = .non:=hrb
        subst hrb
        rw [decide_eq_true rfl]
        refine iteT ⟨_,rfl,p,dx,_,rfl,s0 _ _ hp,(by rw [lk1,lk1,lk1,lk1,lk1,lk1]; rfl),_,rfl,_,rfl,p,c.joining,dx,_,.ref aA,rfl,s0 _ _ hp,T.cl,T.nA,(by rw [lk1,lk0]),p,rA,uA,aA,i,2,Hb,o,a,b,a,rows,unt,ro,rx,fa,rfl,B,s0,M0,Da,hro,hfa,hfra,rl,ul,fun H' M' z'=>?_⟩
        refine k H' ?_ z'
        simp only [Sx01.threeRow]
        cases hch:Sx01.changed o a ro rx with
        | true =>
          rw [hch,if_pos rfl,if_pos rfl] at M'
          exact M'
        | false =>
          rw [hch,if_neg Bool.false_ne_true,if_neg Bool.false_ne_true] at M'
          simpa [outR,outU] using M'
      | some ry =>
        rw [hfrb] at hrb k
        obtain ⟨ya,yvs,rfl,_,_⟩:=id (show zAy K Hb vb ry from hrb)
        rw [decide_eq_false (by intro w; cases w)]
        refine iteF ⟨_,rfl,p,dx,_,rfl,s0 _ _ hp,(by rw [lk1,lk1,lk1,lk1,lk1,lk1]; rfl),_,rfl,p,rA,uA,i,Hb,o,a,b,rows,unt,ro,rx,ry,fa,fb,rfl,B,s0,M0,hro,hfa,hfra,hfb,hfrb,rl,ul,fun H' M' z'=>?_⟩
        exact k H' M' z'
abbrev mJR (P:Program) (w:World) (K:Fg) (mg:MG) (base:Heap) (c:Cs):Prop:=MCal P w K mg base CX0 5 c.joining "join_row" ["self","at"] (spJR K c)
theorem zGL {o a b:Sx01.Sheet}{cols:List Sx01.Bytes}{ro:Sx01.Row}{ra rb:Option Sx01.Row} (k:Nat) (h0:∀ c∈ro,c.length≤64) (h1:∀ r,ra=some r→∀ c∈r,c.length≤64) (h2:∀ r,rb=some r→∀ c∈r,c.length≤64) :
  (outU k (Sx01.threeRow o a b cols ro ra rb)).length≤cols.length+1∧(outR (Sx01.threeRow o a b cols ro ra rb)).length≤1:=by
 cases e:Sx01.threeRow o a b cols ro ra rb with
 | none=>exact ⟨Nat.zero_le _,Nat.zero_le _⟩
 | some t =>
  obtain ⟨_,_,t3⟩:=zDR e h0 h1 h2
  refine ⟨?_,Nat.le_refl _⟩
  show (zAz k t.2).length≤_
  unfold zAz
  rw [List.length_map]
  exact t3
abbrev sJA:Stmt:=zAK (top 37) 1
theorem scJA:FnScope ["self","at"] ["self"] (zAH sJA):=scm
def spJA (K:Fg) (c:Cs):Sp:=fun vs H Q _=>∃ (p rA uA:Addr) (Hb:Hp) (o a b:Sx01.Sheet),vs=[.ref p]∧JB K c Hb p rA uA o a b∧Same Hb H∧JM K H rA uA [] []∧∀ H',JM K H' rA uA (Sx01.join o a b).1.rows (Sx01.join o a b).2→(Sx01.join o a b).1.rows.length≤400000→Same Hb H'→Q .non H'
theorem ok_ja {f:Addr}{fd:FuncData} (F:Fun K "join_all" "Joining.join_all" sJA f fd) (T:TxJ K mg c) (m1:mTell P w K mg base c) (m2:mJRP P w K mg base c) (m3:mJR P w K mg base c):FnOk P w K mg base CX0 6 f fd ["self"] (spJA K c):=by
  refine F.ok scJA (fun vs H Q E h=>?_) (fun cdv A outer s H vs Q E hr h=>?_)
  · obtain ⟨p,rA,uA,Hb,o,a,b,rfl,_⟩:=h
    rfl
  · refine hide fun Gz zG=>?_
    obtain ⟨p,rA,uA,Hb,o,a,b,rfl,B,s0,M0,k⟩:=h
    obtain ⟨dx,oA,aA,bA,vc,hp,So,Da,Db,hc⟩:=B.ob
    obtain ⟨dxa,_,aa,_,_,_,_,ha1,_,Sa,_,_,_⟩:=Da.ob
    obtain ⟨dxb,_,ba,_,_,_,_,hb1,_,Sb,_,_,_⟩:=Db.ob
    obtain ⟨dxo,oca,ora,opa,okv,ho1,ho2,ho3,_⟩:=So.ob
    obtain ⟨_,orv,e0,or1,or2⟩:=id ho3
    cases e0
    have ol:=zAM or2
    have wo:=So.wf
    have wa:=Sa.wf
    have wb:=Sb.wf
    have o256:=wo.r256
    obtain ⟨fl,fok,f2ok,f2l⟩:=zA4 (o:=o) wa
    obtain ⟨gl,gok,g2ok,g2l⟩:=zA4 (o:=o) wb
    obtain ⟨j1,j2,j3,j4⟩:=zBS (o:=o) wa wb
    refine zG ?_; clear zG
    have hr2:Room 2 _:=hr.mono (by decide)
    have hr4:Room 4 _:=hr.mono (by decide)
    refine ⟨_,zAD (zAT (em0 m1 T.cl hr2 zAU (pv 0)))
      (zAD (zA6 PassesOwn.never rfl (zB2 rfl T.range (zAA (zAS zAL rfl T.len zAj (zAA (zAI (zAI (pv 0) rfl) rfl) zAE)) zAE)) (zAR (i:=1) scJA.nd rfl (Or.inl rfl))
        (zAD (zAT (em m2 T.cl hr4 zAU (pv 0) (zAA (pv 1) zAE))) (zAF (zAT (em m3 T.cl hr zAU (pv 0) (zAA (pv 1) zAE))))))
      (zAF (zAT (em m2 T.cl hr4 zAU (pv 0) (zAA (zAS zAL rfl T.len zAj (zAA (zAI (zAI (pv 0) rfl) rfl) zAE)) zAE))))),?_⟩
    refine ⟨_,rfl,p,dx,_,rfl,s0 _ _ hp,(by rw [lk1,lk1,lk1,lk1,lk1,lk1]; rfl),p,rA,uA,Hb,o,a,b,rfl,B,s0,M0,fun H1 M1 z1=>?_⟩
    have cll:=zEp o a b (Sx01.joinedCols o a b).zipIdx
    rw [List.length_zipIdx] at cll
    refine ⟨_,rfl,p,c.joining,dx,_,.ref oA,rfl,z1 _ _ hp,T.cl,T.nO,lk0,oA,c.sheet,dxo,_,.ref ora,rfl,z1 _ _ ho1,T.clS,T.nR,(by rw [lk1,lk0]),ora,_,rfl,.inr (z1.kt.sqt or1),((orv.length:Nat):Int),rfl,by omega,by omega,for_range (lo:=0) (n:=orv.length) (fun i σ H'=>∃ u1 rows unt,σ=[some (.ref p),u1]∧JM K H' rA uA rows unt∧rows.length≤513 * i∧unt.length≤128+129 * i ∧
      (Sx01.threeRows o a b (Sx01.joinedCols o a b) o.rows (Sx01.fatesOf o a).1 (Sx01.fatesOf o b).1 0).1=rows++(Sx01.threeRows o a b (Sx01.joinedCols o a b) (o.rows.drop i) ((Sx01.fatesOf o a).1.drop i) ((Sx01.fatesOf o b).1.drop i) rows.length).1 ∧
      ((Sx01.joinedCols o a b).zipIdx.filterMap (colF o a b))++(Sx01.threeRows o a b (Sx01.joinedCols o a b) o.rows (Sx01.fatesOf o a).1 (Sx01.fatesOf o b).1 0).2=unt++(Sx01.threeRows o a b (Sx01.joinedCols o a b) (o.rows.drop i) ((Sx01.fatesOf o a).1.drop i) ((Sx01.fatesOf o b).1.drop i) rows.length).2∧Same Hb H')
      ⟨none,[],_,rfl,M1,Nat.le_refl _,by omega,rfl,rfl,z1⟩ ?_ ?_⟩
    · intro i σ H' hi hI
      refine hide fun Gz zG=>?_
      obtain ⟨u1,rows,unt,rfl,M,rl,ul,er,eu,z⟩:=hI
      refine zG ?_; clear zG
      have ei:(0:Int)+((i:Nat):Int)=((i:Nat):Int):=by omega
      rw [ei]
      have hio:i < o.rows.length:=by omega
      have hia:i < (Sx01.fatesOf o a).1.length:=by omega
      have hib:i < (Sx01.fatesOf o b).1.length:=by omega
      rw [List.drop_eq_getElem_cons hio,List.drop_eq_getElem_cons hia,List.drop_eq_getElem_cons hib,zCE] at er eu
      simp only at er eu
      have ga:(zBk o a)[i]? = some (Sx01.fatesOf o a).1[i].before:=by
        unfold zBk
        rw [List.getElem?_append_left (by rw [List.length_map]; exact hia),List.getElem?_map,List.getElem?_eq_getElem hia]
        rfl
      have gb:(zBk o b)[i]? = some (Sx01.fatesOf o b).1[i].before:=by
        unfold zBk
        rw [List.getElem?_append_left (by rw [List.length_map]; exact hib),List.getElem?_map,List.getElem?_eq_getElem hib]
        rfl
      obtain ⟨fa1,fa2,fa3⟩:=fok _ (List.getElem_mem hia)
      obtain ⟨fb1,fb2,fb3⟩:=gok _ (List.getElem_mem hib)
      refine ⟨_,rfl,p,dx,_,rfl,z _ _ hp,(by rw [lk1,lk1,lk1,lk1,lk1,lk1]; rfl),_,rfl,p,rA,uA,i,Hb,o,a,b,rows,unt,_,_,rfl,B,z,M,ga,gb,fa3,fb3,by omega,fun H2 M2 z2=>?_⟩
      have bl:=zDp o a b (Sx01.joinedCols o a b) (Sx01.fatesOf o a).1[i].before (Sx01.fatesOf o b).1[i].before
      have rl2:(rows++Sx01.bothPut o a b (Sx01.joinedCols o a b) (Sx01.fatesOf o a).1[i].before (Sx01.fatesOf o b).1[i].before).length≤513 * i+512:=by rw [List.length_append]; omega
      refine ⟨_,rfl,p,dx,_,rfl,z2 _ _ hp,(by rw [lk1,lk1,lk1,lk1,lk1,lk1]; rfl),_,rfl,p,rA,uA,i,Hb,o,a,b,_,unt,o.rows[i],(Sx01.fatesOf o a).1[i],(Sx01.fatesOf o b).1[i],rfl,B,z2,M2,List.getElem?_eq_getElem hio,List.getElem?_eq_getElem hia,List.getElem?_eq_getElem hib,by omega,by omega,fun H3 M3 z3=>?_⟩
      obtain ⟨t1,t2⟩:=zGL (o:=o) (a:=a) (b:=b) (cols:=Sx01.joinedCols o a b) (ro:=o.rows[i]) (ra:=(Sx01.fatesOf o a).1[i].row) (rb:=(Sx01.fatesOf o b).1[i].row) (rows++Sx01.bothPut o a b (Sx01.joinedCols o a b) (Sx01.fatesOf o a).1[i].before (Sx01.fatesOf o b).1[i].before).length (wo.cel _ (List.getElem_mem hio)) (fun r hr'=>wa.cel r (fa1 r hr')) (fun r hr'=>wb.cel r (fb1 r hr'))
      refine ⟨_,_,_,rfl,M3,by rw [List.length_append]; omega,by rw [List.length_append]; omega,?_,?_,z3⟩
      · rw [er,List.length_append,List.length_append,List.append_assoc,List.append_assoc]
      · rw [eu]
        simp only [List.length_append,List.append_assoc,Nat.add_assoc]
    · intro σ H' hI
      refine hide fun Gz zG=>?_
      obtain ⟨u1,rows,unt,rfl,M,rl,ul,er,eu,z⟩:=hI
      refine zG ?_; clear zG
      rw [ol,List.drop_length,zCY,List.append_nil] at er eu
      · · have ga:(zBk o a)[orv.length]? = some (Sx01.fatesOf o a).2:=by
            unfold zBk
            rw [List.getElem?_append_right (by rw [List.length_map]; omega),List.length_map,fl,ol,Nat.sub_self]
            rfl
          have gb:(zBk o b)[orv.length]? = some (Sx01.fatesOf o b).2:=by
            unfold zBk
            rw [List.getElem?_append_right (by rw [List.length_map]; omega),List.length_map,gl,ol,Nat.sub_self]
            rfl
          refine ⟨_,rfl,p,dx,_,rfl,z _ _ hp,(by rw [lk1,lk1,lk1,lk1,lk1,lk1]; rfl),_,rfl,p,c.joining,dx,_,.ref oA,rfl,z _ _ hp,T.cl,T.nO,lk0,oA,c.sheet,dxo,_,.ref ora,rfl,z _ _ ho1,T.clS,T.nR,(by rw [lk1,lk0]),ora,_,rfl,.inr (z.kt.sqt or1),p,rA,uA,orv.length,Hb,o,a,b,rows,unt,_,_,rfl,B,z,M,ga,gb,f2l,g2l,by omega,fun H2 M2 z2=>?_⟩
          have bl:=zDp o a b (Sx01.joinedCols o a b) (Sx01.fatesOf o a).2 (Sx01.fatesOf o b).2
          rw [←er,←eu] at M2
          refine k H2 M2 ?_ z2
          show ((Sx01.threeRows o a b (Sx01.joinedCols o a b) o.rows (Sx01.fatesOf o a).1 (Sx01.fatesOf o b).1 0).1++Sx01.bothPut o a b (Sx01.joinedCols o a b) (Sx01.fatesOf o a).2 (Sx01.fatesOf o b).2).length≤400000
          rw [er,List.length_append]
          omega
abbrev mJA (P:Program) (w:World) (K:Fg) (mg:MG) (base:Heap) (c:Cs):Prop:=MCal P w K mg base CX0 6 c.joining "join_all" ["self"] (spJA K c)
end
end Sh
set_option maxHeartbeats 2000000
namespace Sh
open PySem PySem.Spec PyProof.Rows L2 ShM
theorem DoAt.sbi {K:Fg}{c:Cs}{H H':Hp}{q p C dx:Addr}{fs:List (Str×V)}{o x:Sx01.Sheet} (h:DoAt K c H q o x) (hp:H p=some (.ins C dx fs)) (n3:fs.length≠3) (n5:fs.length≠5) (k:SB [p] H H'):DoAt K c H' q o x:=by
 obtain ⟨d,oa,xa,ka,pa,ta,tk,h1,h2,h3,h4,h5,h6⟩:=h.ob
 have ks:=zCf hp n3 k
 refine ⟨d,oa,xa,ka,pa,ta,tk,k _ _ h1 ?_,h2.ks ks,h3.ks ks,h4.sbi hp k,ks _ _ h5 trivial,h6⟩
 have:q≠p:=zBA h1 hp (fun e=>by
  have e:=(HO.ins.inj e).2.2
  rw [←e] at n5
  exact n5 rfl)
 simpa using this
section
variable {P:Program}{w:World}{K:Fg}{mg:MG}{base:Heap}{c:Cs}
abbrev sJI:Stmt:=zAK (top 37) 0
theorem scJI:FnScope ["self","origin","a","b"] ["self","origin","a","b"] (zAH sJI):=scm
def spJI (K:Fg) (c:Cs):Sp:=fun vs H Q _=>∃ (p dx oA sa sb:Addr) (o a b:Sx01.Sheet),vs=[.ref p,.ref oA,.ref sa,.ref sb]∧H p=some (.ins c.joining dx [])∧SheetAt K c H oA o∧SheetAt K c H sa a∧SheetAt K c H sb b ∧
 ∀ H' Hb rA uA,JB K c Hb p rA uA o a b→JM K H' rA uA [] []→Same Hb H'→(∀ b' ob,H b' = some ob→b'≠p→Hb b' = some ob)→Q .non H'
theorem ok_ji {f:Addr}{fd:FuncData} (F:Fun K "__init__" "Joining.__init__" sJI f fd) (T:TxJ K mg c) (k1:kDoings P w K mg base c) (c1:cJC P w K mg base c):FnOk P w K mg base CX0 6 f fd ["self","origin","a","b"] (spJI K c):=by
 refine F.ok scJI (fun vs H Q E h=>?_) (fun cdv A outer s H vs Q E hr h=>?_)
 ·obtain ⟨p,dx,oA,sa,sb,o,a,b,rfl,_⟩:=h
  rfl
 ·refine hide fun Gz zG=>?_
  obtain ⟨p,dx,oA,sa,sb,o,a,b,rfl,hp,So,Sa,Sb,k⟩:=h
  refine zG ?_; clear zG
  have hr3:Room 3 _:=hr.mono (by decide)
  refine ⟨_,zAD (zA7 (pv 0) (pv 1) rfl) (zAD (zA7 (pv 0) (ek k1 hr zAU (zAA (pv 1) (zAA (pv 2) zAE))) rfl) (zAD (zA7 (pv 0) (ek k1 hr zAU (zAA (pv 1) (zAA (pv 3) zAE))) rfl)
   (zAD (zA7 (pv 0) (ec c1 hr3 zAU (zAA (pv 1) (zAA (zAI (pv 0) rfl) (zAA (zAI (pv 0) rfl) zAE)))) rfl) (zAD (zA7 (pv 0) (zAo zAE) rfl) (zAF (zA7 (pv 0) (zAo zAE) rfl)))))),?_⟩
  refine ⟨_,rfl,_,rfl,p,c.joining,dx,[],rfl,hp,T.cl,T.nO,(by decide),?_⟩
  rw [pf0]
  generalize hH1:upd H p (.ins c.joining dx [("origin",.ref oA)])=H1
  have sb1:SB [p] H H1:=by rw [←hH1]; exact zDX
  have e1:H1 p=some (.ins c.joining dx [("origin",.ref oA)]):=by rw [←hH1]; exact zAB
  clear hH1
  have ks1:KSh H H1:=zCf hp (by decide) sb1
  refine ⟨_,rfl,_,rfl,?_⟩
  intro aA da haA hda nda
  have zn:Same H1 (upd (upd H1 da (.own aA)) aA (.ins c.doings da [])):=(zAJ hda).upd haA
  refine ⟨aA,da,oA,sa,o,a,rfl,zAB,(So.ks ks1).same zn,(Sa.ks ks1).same zn,fun H2 Da s2=>⟨rfl,?_⟩⟩
  have z12:Same H1 H2:=zB1 haA hda s2
  clear zn s2
  have e2:=z12 _ _ e1
  refine ⟨_,rfl,p,c.joining,dx,_,rfl,e2,T.cl,T.nA,(by show 1 < 1000; decide),?_⟩
  rw [pf1,pf0]
  generalize hH3:upd H2 p (.ins c.joining dx [("origin",.ref oA),("by_a",.ref aA)])=H3
  have sb3:SB [p] H2 H3:=by rw [←hH3]; exact zDX
  have e3:H3 p=some (.ins c.joining dx [("origin",.ref oA),("by_a",.ref aA)]):=by rw [←hH3]; exact zAB
  clear hH3
  have sbH3:SB [p] H H3:=(sb1.trans (z12.sb [p])).trans sb3
  have ks3:KSh H H3:=zCf hp (by decide) sbH3
  refine ⟨_,rfl,_,rfl,?_⟩
  intro bA db hbA hdb ndb
  have zn:Same H3 (upd (upd H3 db (.own bA)) bA (.ins c.doings db [])):=(zAJ hdb).upd hbA
  refine ⟨bA,db,oA,sb,o,b,rfl,zAB,(So.ks ks3).same zn,(Sb.ks ks3).same zn,fun H4 Db s4=>⟨rfl,?_⟩⟩
  have z34:Same H3 H4:=zB1 hbA hdb s4
  clear zn s4
  have e4:=z34 _ _ e3
  refine ⟨_,rfl,p,c.joining,dx,_,rfl,e4,T.cl,T.nB,(by show 2 < 1000; decide),?_⟩
  rw [pf1,pf1,pf0]
  generalize hH5:upd H4 p (.ins c.joining dx [("origin",.ref oA),("by_a",.ref aA),("by_b",.ref bA)])=H5
  have sb5:SB [p] H4 H5:=by rw [←hH5]; exact zDX
  have e5:H5 p=some (.ins c.joining dx [("origin",.ref oA),("by_a",.ref aA),("by_b",.ref bA)]):=by rw [←hH5]; exact zAB
  clear hH5
  have sb25:SB [p] H2 H5:=(sb3.trans (z34.sb [p])).trans sb5
  have sbH5:SB [p] H H5:=(sbH3.trans (z34.sb [p])).trans sb5
  have ks5:KSh H H5:=zCf hp (by decide) sbH5
  have Da5:DoAt K c H5 aA o a:=Da.sbi e2 (by show (1:Nat)≠3; decide) (by show (1:Nat)≠5; decide) sb25
  have Db5:DoAt K c H5 bA o b:=Db.sbi e4 (by show (2:Nat)≠3; decide) (by show (2:Nat)≠5; decide) sb5
  refine ⟨_,rfl,_,rfl,p,c.joining,dx,_,.ref aA,rfl,e5,T.cl,T.nA,(by rw [lk1,lk0]),_,rfl,p,c.joining,dx,_,.ref bA,rfl,e5,T.cl,T.nB,(by rw [lk1,lk1,lk0]),oA,aA,bA,o,a,b,rfl,So.ks ks5,Da5,Db5,fun H6 vc hvc z56=>?_⟩
  have e6:=z56 _ _ e5
  refine ⟨_,rfl,p,c.joining,dx,_,rfl,e6,T.cl,T.nCo,(by show 3 < 1000; decide),?_⟩
  rw [pf1,pf1,pf1,pf0]
  generalize hH7:upd H6 p (.ins c.joining dx [("origin",.ref oA),("by_a",.ref aA),("by_b",.ref bA),("columns",vc)])=H7
  have sb7:SB [p] H6 H7:=by rw [←hH7]; exact zDX
  have e7:H7 p=some (.ins c.joining dx [("origin",.ref oA),("by_a",.ref aA),("by_b",.ref bA),("columns",vc)]):=by rw [←hH7]; exact zAB
  clear hH7
  refine ⟨Nat.zero_le _,fun rA hrA=>?_⟩
  have npr:p≠rA:=zAC e7 hrA
  refine ⟨_,rfl,p,c.joining,dx,_,rfl,(by rw [zAG npr]; exact e7),T.cl,T.nRo,(by show 4 < 1000; decide),?_⟩
  rw [pf1,pf1,pf1,pf1,pf0]
  generalize hH8:upd (upd H7 rA (.lst [])) p (.ins c.joining dx [("origin",.ref oA),("by_a",.ref aA),("by_b",.ref bA),("columns",vc),("rows",.ref rA)])=H8
  have sb8:SB [p] H7 H8:=fun b' ob e n=>by
   rw [←hH8,zAG (by simpa using n),zAG (zAC e hrA)]
   exact e
  have e8:H8 p=some (.ins c.joining dx [("origin",.ref oA),("by_a",.ref aA),("by_b",.ref bA),("columns",vc),("rows",.ref rA)]):=by rw [←hH8]; exact zAB
  have r8:H8 rA=some (.lst []):=by rw [←hH8,zAG npr.symm,zAB]
  clear hH8
  refine ⟨Nat.zero_le _,fun uA huA=>?_⟩
  have npu:p≠uA:=zAC e8 huA
  have nru:rA≠uA:=zAC r8 huA
  refine ⟨_,rfl,p,c.joining,dx,_,rfl,(by rw [zAG npu]; exact e8),T.cl,T.nU,(by show 5 < 1000; decide),?_⟩
  rw [pf1,pf1,pf1,pf1,pf1,pf0]
  generalize hH9:upd (upd H8 uA (.lst [])) p (.ins c.joining dx (jnF oA aA bA vc rA uA))=H9
  have sb9:SB [p] H8 H9:=fun b' ob e n=>by
   rw [←hH9,zAG (by simpa using n),zAG (zAC e huA)]
   exact e
  have e9:H9 p=some (.ins c.joining dx (jnF oA aA bA vc rA uA)):=by rw [←hH9]; exact zAB
  have u9:H9 uA=some (.lst []):=by rw [←hH9,zAG npu.symm,zAB]
  have r9:H9 rA=some (.lst []):=sb9 _ _ r8 (by simpa using npr.symm)
  clear hH9
  have huA7:H7 uA=none:=sb8.free (by simpa using npu.symm) huA
  have base7:SB [p] H7 (cutH (cutH H9 rA) uA):=fun b' ob e n=>by
   rw [zBL (zAC e huA7),zBL (zAC e hrA)]
   exact sb9 _ _ (sb8 _ _ e n) n
  have sb2b:SB [p] H2 (cutH (cutH H9 rA) uA):=((sb25.trans (z56.sb [p])).trans sb7).trans base7
  have sb4b:SB [p] H4 (cutH (cutH H9 rA) uA):=((sb5.trans (z56.sb [p])).trans sb7).trans base7
  have sb6b:SB [p] H6 (cutH (cutH H9 rA) uA):=sb7.trans base7
  have sbHb:SB [p] H (cutH (cutH H9 rA) uA):=((sbH5.trans (z56.sb [p])).trans sb7).trans base7
  have ksb:KSh H (cutH (cutH H9 rA) uA):=zCf hp (by decide) sbHb
  refine k H9 (cutH (cutH H9 rA) uA) rA uA ⟨⟨dx,oA,aA,bA,vc,(by rw [zBL npu,zBL npr]; exact e9),So.ks ksb,Da.sbi e2 (by show (1:Nat)≠3; decide) (by show (1:Nat)≠5; decide) sb2b,Db.sbi e4 (by show (2:Nat)≠3; decide) (by show (2:Nat)≠5; decide) sb4b,zAa _ _ _ _ (kt_sb e6 sb6b) hvc⟩,?_,zBP _ _,nru⟩ ⟨⟨[],r9,.nil⟩,[],u9,.nil⟩ ((zA5 _ _).trans (zA5 _ _)) (fun b' ob e n=>sbHb b' ob e (by simpa using n))
  rw [zBL nru,zBP]
abbrev zGZ (P:Program) (w:World) (K:Fg) (mg:MG) (base:Heap) (c:Cs):Prop:=KCal P w K mg base CX0 6 "Joining" c.joining ["self","origin","a","b"] (spJI K c)
abbrev sJdI:Stmt:=zAK (top 42) 0
theorem scJdI:FnScope ["self","sheet","untold"] ["self","sheet","untold"] (zAH sJdI):=scm
abbrev jdF (x y:V):List (Str×V):=[("sheet",x),("untold",y)]
def spJdI (c:Cs):Sp:=fun vs H Q _=>∃ (p dx:Addr) (x y:V),vs=[.ref p,x,y]∧H p=some (.ins c.joined dx [])∧Q .non (upd H p (.ins c.joined dx (jdF x y)))
theorem ok_jdi {f:Addr}{fd:FuncData} (F:Fun K "__init__" "Joined.__init__" sJdI f fd) (T:TxJ K mg c):FnOk P w K mg base CX0 1 f fd ["self","sheet","untold"] (spJdI c):=by
 refine F.ok scJdI (fun vs H Q E h=>?_) (fun cdv A outer s H vs Q E hr h=>?_)
 ·obtain ⟨p,dx,x,y,rfl,_⟩:=h
  rfl
 ·refine hide fun Gz zG=>?_
  obtain ⟨p,dx,x,y,rfl,hp,k⟩:=h
  refine zG ?_; clear zG
  refine ⟨_,zAD (zA7 (pv 0) (pv 1) rfl) (zAF (zA7 (pv 0) (pv 2) rfl)),?_⟩
  refine ⟨_,rfl,_,rfl,p,c.joined,dx,[],rfl,hp,T.clJ,T.nJs,(by decide),?_⟩
  rw [pf0]
  refine ⟨_,rfl,_,rfl,p,c.joined,dx,_,rfl,zAB,T.clJ,T.nJu,(by show 1 < 1000; decide),?_⟩
  rw [zBh,pf1,pf0]
  exact k
abbrev kJoined (P:Program) (w:World) (K:Fg) (mg:MG) (base:Heap) (c:Cs):Prop:=KCal P w K mg base CX0 1 "Joined" c.joined ["self","sheet","untold"] (spJdI c)
def JdAt (K:Fg) (c:Cs) (H:Hp) (p uA:Addr) (s:Sx01.Sheet) (unt:List Sx01.Clash):Prop:=∃ dx sA uvs,H p=some (.ins c.joined dx (jdF (.ref sA) (.ref uA)))∧SheetAt K c H sA s∧H uA=some (.lst uvs)∧Paired (IsUn K H) uvs unt
def zCC (j:Sx01.Sheet×List Sx01.Clash):Prop:=Sx01.COLS < j.1.cols.length∨Sx01.ROWS < j.1.rows.length∨j.1.cols=[]
abbrev sJS:Stmt:=top 43
theorem scJS:FnScope ["origin","a","b","work"] ["origin","a","b"] (zAH sJS):=scm
def spJS (K:Fg) (c:Cs):Sp:=fun vs H Q E=>∃ (oA sa sb:Addr) (o a b:Sx01.Sheet),vs=[.ref oA,.ref sa,.ref sb]∧SheetAt K c H oA o∧SheetAt K c H sa a∧SheetAt K c H sb b ∧
 (zCC (Sx01.join o a b)→∀ H',Same H H'→E (.ref c.eJoin) none H')∧(¬ zCC (Sx01.join o a b)→∀ H' p uA,JdAt K c H' p uA (Sx01.join o a b).1 (Sx01.join o a b).2→H uA=none→Same H H'→Q (.ref p) H')
theorem ok_js {f:Addr}{fd:FuncData} (F:Fun K "joined_sheet" "joined_sheet" sJS f fd) (T:TxJ K mg c) (k1:zGZ P w K mg base c) (k2:kJoined P w K mg base c) (k3:zGY P w K mg base c) (m1:mJA P w K mg base c):FnOk P w K mg base (CXE P w) 8 f fd ["origin","a","b"] (spJS K c):=by
  refine okX F scJS (fun vs H Q E h=>?_) (fun cdv A outer s H vs Q E hr h=>?_)
  · obtain ⟨oA,sa,sb,o,a,b,rfl,_⟩:=h
    rfl
  · refine hide fun Gz zG=>?_
    obtain ⟨oA,sa,sb,o,a,b,rfl,So,Sa,Sb,kE,kQ⟩:=h
    have hr2:Room 2 _:=hr.mono (by decide)
    have hr6:Room 6 _:=hr.mono (by decide)
    have wo:=So.wf
    have wa:=Sa.wf
    have wb:=Sb.wf
    obtain ⟨j1,j2,j3,j4⟩:=zBS (o:=o) wa wb
    refine zG ?_; clear zG
    refine ⟨_,zAD (zAN (i:=3) scJS.nd rfl (Or.inl rfl) (ek k1 hr zAU (zAA (pv 0) (zAA (pv 1) (zAA (pv 2) zAE)))))
      (zAD (zAT (em0 m1 T.cl hr6 zAU (pv 3)))
      (zAD (zAk (PW.pt (zG1 (zBm (zEb zFj zFj zAZ (zAS zAL rfl T.len zAj (zAA (zAI (pv 3) rfl) zAE)) (eg T.mostC))) (zD0 (zAX op_gt (zAS zAL rfl T.len zAj (zAA (zAI (pv 3) rfl) zAE)) (eg T.mostR) (zAb _))))) (zAF (zBZ xbody T.joinE rfl)) zAY)
      (zAF (zAQ (ek k2 hr2 zAU (zAA (ek k3 hr2 zAU (zAA (zAI (pv 3) rfl) (zAA (zAs zAe rfl T.tuple zBD (zAA (zAI (pv 3) rfl) zAE)) zAE))) (zAA (zAI (pv 3) rfl) zAE))))))),?_⟩
    refine ⟨_,rfl,_,rfl,_,rfl,?_⟩
    intro p dp hp hdp ndp
    have zn:Same H (upd (upd H dp (.own p)) p (.ins c.joining dp [])):=(zAJ hdp).upd hp
    refine ⟨p,dp,oA,sa,sb,o,a,b,rfl,zAB,So.same zn,Sa.same zn,Sb.same zn,fun H1 Hb rA uA B M1 z1 fr=>⟨rfl,?_⟩⟩
    have zb:Same H Hb:=fun b' ob e=>fr b' ob (zn _ _ e) (zAC e hp)
    refine hide fun Gz zG=>?_
    obtain ⟨dx,oA',aA,bA,vc,hpb,_,_,_,hc⟩:=B.ob
    obtain ⟨ca,cvs,rfl,hc1,hc2⟩:=id hc
    refine zG ?_; clear zG
    have cl:=zAM hc2
    refine ⟨_,rfl,p,dx,_,rfl,z1 _ _ hpb,(by rw [lk1,lk1,lk1,lk1,lk1,lk1]; rfl),p,rA,uA,Hb,o,a,b,rfl,B,z1,M1,fun H2 M2 rl z2=>?_⟩
    have z02:Same H H2:=zb.trans z2
    have hp2:=z2 _ _ hpb
    obtain ⟨rvs,hrv,hrp⟩:=M2.r
    obtain ⟨uvs,huv,hup⟩:=M2.u
    have rvl:=zAM hrp
    have ejc:(Sx01.join o a b).1.cols=Sx01.joinedCols o a b:=rfl
    have no:zCC (Sx01.join o a b)→E (.ref c.eJoin) none H2:=fun h=>kE h H2 z02
    refine ⟨_,rfl,p,c.joining,dx,_,.ref ca,rfl,hp2,T.cl,T.nCo,(by rw [lk1,lk1,lk1,lk0]),ca,_,rfl,.inr (z2.kt.sqt hc1),_,_,rfl,rfl,_,rfl,?_⟩
    by_cases h1:1≤(Sx01.joinedCols o a b).length
    · rw [decide_eq_true (show (1:Int)≤((cvs.length:Nat):Int) by omega)]
      refine iteT ⟨_,_,rfl,rfl,_,rfl,?_⟩
      by_cases h64:(Sx01.joinedCols o a b).length≤64
      · have e2:decide (((cvs.length:Nat):Int)≤64)=true:=decide_eq_true (by omega)
        show (if (!decide (((cvs.length:Nat):Int)≤64))=true then _ else _)
        rw [e2]
        refine iteF ⟨_,rfl,p,c.joining,dx,_,.ref rA,rfl,hp2,T.cl,T.nRo,(by rw [lk1,lk1,lk1,lk1,lk0]),rA,_,rfl,.inl (SqL.of hrv),_,_,rfl,rfl,_,rfl,?_⟩
        by_cases h256:(Sx01.join o a b).1.rows.length≤256
        · rw [decide_eq_false (show ¬ (256:Int) < ((rvs.length:Nat):Int) by omega)]
          have good:¬ zCC (Sx01.join o a b):=by
            rintro (h | h | h)
            · rw [ejc] at h
              exact absurd h (by unfold Sx01.COLS; omega)
            · exact absurd h (by unfold Sx01.ROWS; omega)
            · rw [ejc] at h
              rw [h] at h1
              simp at h1
          have wj:=wf_join wo wa wb good
          refine iteF ⟨_,rfl,p,c.joining,dx,_,.ref ca,rfl,hp2,T.cl,T.nCo,(by rw [lk1,lk1,lk1,lk0]),_,rfl,p,c.joining,dx,_,.ref rA,rfl,hp2,T.cl,T.nRo,(by rw [lk1,lk1,lk1,lk1,lk0]),rA,rvs,rfl,.inl ⟨SqL.of hrv,fun q hq=>?_⟩⟩
          intro sp ds hsp hds nds
          have zq:Same H2 (upd H2 q (.tup rvs)):=zAJ hq
          have zs:Same (upd H2 q (.tup rvs)) (upd (upd (upd H2 q (.tup rvs)) ds (.own sp)) sp (.ins c.sheet ds [])):=(zAJ hds).upd hsp
          refine ⟨sp,ds,.ref ca,.ref q,(Sx01.join o a b).1,rfl,zAB,zAa _ _ _ _ ((z2.trans zq).trans zs).kt hc,⟨q,rvs,rfl,zs.kt.sqt (SqT.of zAB),mono_row.pr (zq.trans zs).kt hrp⟩,wj,fun H5 S5 sb5=>⟨rfl,?_⟩⟩
          have z25:Same H2 H5:=zq.trans (zB1 hsp hds sb5)
          refine ⟨_,rfl,p,c.joining,dx,_,.ref uA,rfl,z25 _ _ hp2,T.cl,T.nU,(by rw [lk1,lk1,lk1,lk1,lk1,lk0]),?_⟩
          intro jp dj hjp hdj ndj
          refine ⟨jp,dj,.ref sp,.ref uA,rfl,zAB,rfl,?_⟩
          rw [zBh]
          have zf:Same H5 (upd (upd H5 dj (.own jp)) jp (.ins c.joined dj (jdF (.ref sp) (.ref uA)))):=(zAJ hdj).upd hjp
          exact kQ good _ jp uA ⟨dj,sp,uvs,zAB,S5.same zf,zf _ _ (z25 _ _ huv),mono_un.pr (z25.trans zf).kt hup⟩ (zb.free B.nu) ((z02.trans z25).trans zf)
        · rw [decide_eq_true (show (256:Int) < ((rvs.length:Nat):Int) by omega)]
          exact iteT (no (.inr (.inl (by unfold Sx01.ROWS; omega))))
      · have e2:decide (((cvs.length:Nat):Int)≤64)=false:=decide_eq_false (by omega)
        show (if (!decide (((cvs.length:Nat):Int)≤64))=true then _ else _)
        rw [e2]
        exact iteT (iteT (no (.inl (by rw [ejc]; unfold Sx01.COLS; omega))))
    · rw [decide_eq_false (show ¬ (1:Int)≤((cvs.length:Nat):Int) by omega)]
      refine iteF ⟨_,rfl,iteT (iteT (no (.inr (.inr ?_))))⟩
      rw [ejc]
      exact List.eq_nil_of_length_eq_zero (by omega)
abbrev cJS (P:Program) (w:World) (K:Fg) (mg:MG) (base:Heap) (c:Cs):Prop:=Cal P w K mg base (CXE P w) 8 "joined_sheet" ["origin","a","b"] (spJS K c)
end
end Sh
set_option maxHeartbeats 2000000
namespace Sh
open PySem PySem.Spec PyProof.Rows L2 ShM
structure TxK (K:Fg) (mg:MG) (c:Cs):Prop where
 clS:Cls K c.sheet
 nR:NoAttr K c.sheet "rows"
 clD:Cls K c.diff
 nDc:NoAttr K c.diff "cost"
 nDs:NoAttr K c.diff "steps"
 clJ:Cls K c.joined
 nJs:NoAttr K c.joined "sheet"
 nJu:NoAttr K c.joined "untold"
 clR:Cls K c.reader
 cl:Cls K c.desk
 nP:NoAttr K c.desk "places"
 places:GI mg "PLACES" 4
 new:GI mg "NEW" 0
 sheet:GI mg "SHEET" 1
 diff:GI mg "DIFF" 2
 patch:GI mg "PATCH" 3
 join:GI mg "JOIN" 4
 mostR:GI mg "MOST_ROWS" 256
 len:mg "len" = none
 all:mg "all" = none
 ePl:ExcC K mg "NoSuchPlace" c.ePlace
 eSh:ExcC K mg "NoSheetThere" c.eSheet
 eFi:ExcC K mg "NotFitting" c.eFit
 eJo:ExcC K mg "NotJoinable" c.eJoin
 m11:PySem.W.mroIn K c.ePlace (.ref c.ePlace)=some true
 m21:PySem.W.mroIn K c.eSheet (.ref c.ePlace)=some false
 m22:PySem.W.mroIn K c.eSheet (.ref c.eSheet)=some true
 m31:PySem.W.mroIn K c.eFit (.ref c.ePlace)=some false
 m32:PySem.W.mroIn K c.eFit (.ref c.eSheet)=some false
 m33:PySem.W.mroIn K c.eFit (.ref c.eFit)=some true
 m41:PySem.W.mroIn K c.eJoin (.ref c.ePlace)=some false
 m42:PySem.W.mroIn K c.eJoin (.ref c.eSheet)=some false
 m43:PySem.W.mroIn K c.eJoin (.ref c.eFit)=some false
 m44:PySem.W.mroIn K c.eJoin (.ref c.eJoin)=some true
def IsPl (K:Fg) (c:Cs) (H:Hp) (v:V) (s:Option Sx01.Sheet):Prop:=match s with
 | none=>v = .non
 | some s=>∃ a,v = .ref a∧SheetAt K c H a s
theorem IsPl.ks {K:Fg}{c:Cs}{H H':Hp}{v:V}{s:Option Sx01.Sheet} (h:IsPl K c H v s) (k:KSh H H'):IsPl K c H' v s:=by
 cases s with
 | none=>exact h
 | some s =>
  obtain ⟨a,e,S⟩:=h
  exact ⟨a,e,S.ks k⟩
structure DeskAt (K:Fg) (c:Cs) (H:Hp) (p la:Addr) (st:Sx01.St):Prop where
 ob:∃ dx,H p=some (.ins c.desk dx [("places",.ref la)])
 pl:∃ vs,H la=some (.lst vs)∧Paired (IsPl K c H) vs st
 four:st.length=4
theorem DeskAt.same {K:Fg}{c:Cs}{H H':Hp}{p la:Addr}{st:Sx01.St} (h:DeskAt K c H p la st) (k:Same H H'):DeskAt K c H' p la st:=by
 obtain ⟨⟨dx,h1⟩,⟨vs,h2,h3⟩,h4⟩:=h
 exact ⟨⟨dx,k _ _ h1⟩,⟨vs,k _ _ h2,zAr (fun v s z=>z.ks k.ks) h3⟩,h4⟩
theorem DeskAt.rd {K:Fg}{c:Cs}{H H':Hp}{p la rp na:Addr}{st:Sx01.St}{N:List Int}{i:Nat} (h:DeskAt K c H p la st) (r:RdAt c H rp na N i) (k:SB [rp] H H'):DeskAt K c H' p la st:=by
 have ks:=r.ks k
 obtain ⟨⟨dr,hr⟩,_⟩:=r
 obtain ⟨⟨dx,h1⟩,⟨vs,h2,h3⟩,h4⟩:=h
 refine ⟨⟨dx,k _ _ h1 ?_⟩,⟨vs,k _ _ h2 ?_,zAr (fun v s z=>z.ks ks) h3⟩,h4⟩
 ·have:p≠rp:=zBA h1 hr (fun e=>by
   have e:=congrArg List.length (HO.ins.inj e).2.2
   simp at e)
  simpa using this
 ·have:la≠rp:=zBA h2 hr (by intro q; cases q)
  simpa using this
def Refuse (c:Cs) (v:Int) (C:Addr):Prop:=(v = -1∧C=c.ePlace)∨(v = -2∧C=c.eSheet)∨(v = -3∧C=c.eFit)∨(v = -5∧C=c.eJoin)
structure AnsSp (K:Fg) (c:Cs) (H:Hp) (p la rp:Addr) (st:Sx01.St) (y:Sx01.St×Sx01.Ans) (Q:VK) (E:XK):Prop where
 q:0≤y.2.v→∀ H' la' l,DeskAt K c H' p la' y.1→H' l=some (.lst ((y.2.v::y.2.l).map V.int))→SB [p,la,rp] H H'→(la' = la∨H la' = none)→H l=none→Q (.ref l) H'
 e:∀ C H',Refuse c y.2.v C→DeskAt K c H' p la st→SB [p,la,rp] H H'→E (.ref C) none H'
section
variable {P:Program}{w:World}{K:Fg}{mg:MG}{base:Heap}{c:Cs}
abbrev sIsSh:Stmt:=top 10
theorem scIsSh:FnScope ["columns","rows","row"] ["columns","rows"] (zAH sIsSh):=scm
def spIsSh (K:Fg):Sp:=fun vs H Q _=>∃ (vc vr:V) (ns:List Sx01.Bytes) (rs:List Sx01.Row),vs=[vc,vr]∧zA1 K H vc ns∧ns.length≤8∧zDF K H vr rs∧rs.length≤1000∧(∀ r∈rs,r.length≤1000)∧∀ H',Same H H'→Q (.bl (Sx01.sheetOk ⟨ns,rs⟩)) H'
theorem ok_issh {f:Addr}{fd:FuncData} (F:Fun K "is_sheet" "is_sheet" sIsSh f fd) (T:TxK K mg c) (c1:cAre P w K mg base) (c2:cIsRow P w K mg base):FnOk P w K mg base CX0 3 f fd ["columns","rows"] (spIsSh K):=by
  refine F.ok scIsSh (fun vs H Q E h=>?_) (fun cdv A outer s H vs Q E hr h=>?_)
  · obtain ⟨vc,vr,ns,rs,rfl,_⟩:=h
    rfl
  · refine hide fun Gz zG=>?_
    obtain ⟨vc,vr,ns,rs,rfl,hn,h8,hrs,h1000,hw,k⟩:=h
    obtain ⟨na,nvs,rfl,hn1,hn2⟩:=id hn
    obtain ⟨ra,rvs,rfl,hr1,hr2⟩:=id hrs
    refine zG ?_; clear zG
    have nl:=zAM hn2
    have rl:=zAM hr2
    have hrr:Room 1 _:=hr.mono (by decide)
    refine ⟨_,zAD (zAk (PW.pt (zG1 (zBm (zA2 (ec c1 hrr zAU (zAA (pv 0) zAE)))) (zD0 (zAX op_gt (zAS zAL rfl T.len zAj (zAA (pv 1) zAE)) (eg T.mostR) (zAb _))))) (zAF (zAQ zEf)) zAY)
      (zAF (zAQ (zAS (cr_all rfl) rfl T.all bt_all (zAA (zCo (own:=[("row",2)]) rfl scIsSh.nd (zBV (pv 1)) (zAp (by show blkC ["columns","rows","row"] (zAH sIsSh) _ _=true; decide +kernel))
        (fun _ _ _ _ _=>zAR (i:=2) scIsSh.nd rfl (Or.inl rfl)) (fun _ _ _ _ _=>zBE) (fun _ _ _ _ _=>ec c2 hr zAU (zAA (pv 2) (zAA (zAS (lenK (K:=K) rfl) rfl T.len zAj (zAA (pv 0) zAE)) zAE)))) zAE)))),?_⟩
    unfold Sx01.sheetOk at k
    refine ⟨_,rfl,.ref na,ns,rfl,hn,h8,fun H1 z1=>⟨_,rfl,?_⟩⟩
    cases hc:Sx01.colsOk ns with
    | false =>
      refine iteT (iteT ?_)
      have k2:=k H1 z1
      rw [hc,Bool.false_and] at k2
      exact k2
    | true =>
      refine iteF ⟨_,rfl,ra,_,rfl,.inr (z1.kt.sqt hr1),_,_,rfl,rfl,_,rfl,?_⟩
      by_cases h256:rs.length≤256
      · rw [decide_eq_false (show ¬ (256:Int) < ((rvs.length:Nat):Int) by omega)]
        refine iteF ⟨_,rfl,ra,rfl,⟨_,z1.kt.sqt hr1⟩,fun D hD=>zCG (K:=K) (a:=ra) (xs:=rvs) (fun i H'=>H' D=some (.lst (((rs.take i).map fun r=>r.length == ns.length && r.all Sx01.cellOk).map V.bl))∧Same H1 H') ⟨zAB,zAJ hD⟩ ?_ ?_ ?_⟩
        · rintro i H' _ ⟨_,z⟩
          exact (z1.trans z).kt.sqt hr1
        · rintro i x H' hi ⟨e1,z⟩
          obtain ⟨y,hy,hcy⟩:=zAl hr2 hi
          have il:i < rvs.length:=(List.getElem?_eq_some_iff.mp hi).1
          have zz:=z1.trans z
          refine ⟨rfl,yes ⟨_,rfl,_,rfl,na,_,rfl,.inr (zz.kt.sqt hn1),x,y,ns.length,(by rw [nl]; rfl),mono_row _ _ _ _ zz.kt hcy,hw y (List.mem_of_getElem? hy),fun H2 z2=>⟨_,z2 _ _ e1,small (m:=2000) (by rw [List.length_map,List.length_map,List.length_take]; omega),?_,(z.trans z2).upd hD⟩⟩⟩
          rw [zAB,zAh hy,List.map_append,List.map_append]
          rfl
        · rintro H' ⟨e1,z⟩
          rw [rl,List.take_length] at e1
          refine ⟨D,_,rfl,SqL.of e1,?_⟩
          have k2:=k H' (z1.trans z)
          rw [hc,Bool.true_and,decide_eq_true (show rs.length≤Sx01.ROWS from h256),Bool.true_and] at k2
          have e2:(rs.map fun r=>r.length == ns.length && r.all Sx01.cellOk).all id=rs.all fun r=>r.length == ns.length && r.all Sx01.cellOk:=by
            rw [List.all_map]
            rfl
          rw [e2]
          exact k2
      · rw [decide_eq_true (show (256:Int) < ((rvs.length:Nat):Int) by omega)]
        refine iteT ?_
        have k2:=k H1 z1
        rw [hc,Bool.true_and,decide_eq_false (show ¬ rs.length≤Sx01.ROWS from h256),Bool.false_and] at k2
        exact k2
abbrev cIsSh (P:Program) (w:World) (K:Fg) (mg:MG) (base:Heap):Prop:=Cal P w K mg base CX0 3 "is_sheet" ["columns","rows"] (spIsSh K)
abbrev sRP:Stmt:=top 63
theorem scRP:FnScope ["reader","place"] ["reader"] (zAH sRP):=scm
def spRP (c:Cs):Sp:=fun vs H Q E=>∃ (rp na:Addr) (N:List Int) (i:Nat) (z:Int),vs=[.ref rp]∧RdAt c H rp na N i∧N[i]? = some z∧(∀ n:Nat,z=(n:Int)→n < 4→Sx01.slot z=true→∀ H',RdAt c H' rp na N (i+1)→SB [rp] H H'→Q (.int (n:Int)) H')∧(Sx01.slot z=false→∀ H',RdAt c H' rp na N (i+1)→SB [rp] H H'→E (.ref c.ePlace) none H')
theorem ok_rp {f:Addr}{fd:FuncData} (F:Fun K "read_place" "read_place" sRP f fd) (T:TxK K mg c) (m1:mNum P w K mg base c):FnOk P w K mg base (CXE P w) 2 f fd ["reader"] (spRP c):=by
 refine okX F scRP (fun vs H Q E h=>?_) (fun cdv A outer s H vs Q E hr h=>?_)
 ·obtain ⟨rp,na,N,i,z,rfl,_⟩:=h
  rfl
 ·refine hide fun Gz zG=>?_
  obtain ⟨rp,na,N,i,z,rfl,R,hz,kQ,kE⟩:=h
  obtain ⟨⟨dr,hrp⟩,_⟩:=id R
  refine zG ?_; clear zG
  refine ⟨_,zAD (zAN (i:=1) scRP.nd rfl (Or.inl rfl) (em0 m1 T.clR hr zAU (pv 0)))
   (zAD (zAk (zBm (zEb zFj zFD zAZ (pv 1) (eg T.places))) (zAF (zBZ xbody T.ePl rfl)) zAY) (zAF (zAQ (pv 1)))),?_⟩
  refine ⟨_,rfl,rp,dr,_,rfl,hrp,(by rw [lk1,lk1]; rfl),rp,na,N,i,z,rfl,R,hz,fun H1 R1 s1=>?_⟩
  refine ⟨_,rfl,_,_,rfl,rfl,_,rfl,?_⟩
  by_cases h0:0≤z
  ·rw [decide_eq_true h0]
   refine iteT ⟨_,_,rfl,rfl,_,rfl,?_⟩
   show (if (!decide (z < 4))=true then _ else _)
   by_cases h4:z < 4
   ·rw [decide_eq_true h4]
    refine iteF ⟨_,rfl,?_⟩
    have ez:z=((z.toNat:Nat):Int):=by omega
    have k2:=kQ z.toNat ez (by omega) (by unfold Sx01.slot; rw [decide_eq_true h0,decide_eq_true (show z≤3 by omega)]; rfl) H1 R1 s1
    rw [←ez] at k2
    exact k2
   ·rw [decide_eq_false h4]
    exact iteT (kE (by unfold Sx01.slot; rw [decide_eq_false (show ¬ z≤3 by omega),Bool.and_false]) H1 R1 s1)
  ·rw [decide_eq_false h0]
   exact iteF ⟨_,rfl,iteT (kE (by unfold Sx01.slot; rw [decide_eq_false h0,Bool.false_and]) H1 R1 s1)⟩
abbrev cRP (P:Program) (w:World) (K:Fg) (mg:MG) (base:Heap) (c:Cs):Prop:=Cal P w K mg base (CXE P w) 2 "read_place" ["reader"] (spRP c)
abbrev sSA:Stmt:=zAK (top 62) 9
theorem scSA:FnScope ["self","place","sheet"] ["self","place"] (zAH sSA):=scm
def spSA (K:Fg) (c:Cs):Sp:=fun vs H Q E=>∃ (p la:Addr) (st:Sx01.St) (n:Nat),vs=[.ref p,.int (n:Nat)]∧DeskAt K c H p la st∧n < 4∧(st.at_ (n:Int)=none→E (.ref c.eSheet) none H)∧∀ s,st.at_ (n:Int)=some s→∀ a,SheetAt K c H a s→Q (.ref a) H
theorem ok_sa {f:Addr}{fd:FuncData} (F:Fun K "sheet_at" "Desk.sheet_at" sSA f fd) (T:TxK K mg c):FnOk P w K mg base (CXE P w) 1 f fd ["self","place"] (spSA K c):=by
 refine okX F scSA (fun vs H Q E h=>?_) (fun cdv A outer s H vs Q E hr h=>?_)
 ·obtain ⟨p,la,st,n,rfl,_⟩:=h
  rfl
 ·refine hide fun Gz zG=>?_
  obtain ⟨p,la,st,n,rfl,D,hn,kE,kQ⟩:=h
  obtain ⟨⟨dx,h1⟩,⟨vs,h2,h3⟩,h4⟩:=D
  refine zG ?_; clear zG
  refine ⟨_,zAD (zAN (i:=2) scSA.nd rfl (Or.inl rfl) (zAn zAc (zAI (pv 0) rfl) (pv 1) (fun _ _=>rfl)))
   (zAD (zAk (pt_cmp (zGJ (pv 2))) (zAF (zBZ xbody T.eSh rfl)) zAY) (zAF (zAQ (pv 2)))),?_⟩
  obtain ⟨s0,hs0⟩:∃ s0,st[n]? = some s0:=⟨_,List.getElem?_eq_getElem (by omega)⟩
  obtain ⟨v,hv,hpl⟩:=zAm h3 hs0
  have eat:st.at_ (n:Int)=s0:=by
   unfold Sx01.St.at_
   rw [Int.toNat_natCast,hs0]
   rfl
  rw [eat] at kE kQ
  refine ⟨_,rfl,p,c.desk,dx,_,.ref la,rfl,h1,T.cl,T.nP,lk0,_,rfl,la,_,_,v,rfl,rfl,SqL.of h2,zAO hv,?_⟩
  refine ⟨_,rfl,_,rfl,?_⟩
  cases s0 with
  | none =>
   have hpl:v = .non:=hpl
   subst hpl
   rw [decide_eq_true rfl]
   exact iteT (kE rfl)
  | some sh =>
   obtain ⟨a,rfl,Sh'⟩:=hpl
   rw [decide_eq_false (by intro w; cases w)]
   exact iteF ⟨_,rfl,kQ sh rfl a Sh'⟩
abbrev mSA (P:Program) (w:World) (K:Fg) (mg:MG) (base:Heap) (c:Cs):Prop:=MCal P w K mg base (CXE P w) 1 c.desk "sheet_at" ["self","place"] (spSA K c)
abbrev sDI:Stmt:=zAK (top 62) 0
theorem scDI:FnScope ["self"] ["self"] (zAH sDI):=scm
def spDI (K:Fg) (c:Cs):Sp:=fun vs H Q _=>∃ (p dx:Addr),vs=[.ref p]∧H p=some (.ins c.desk dx [])∧∀ H' la,DeskAt K c H' p la Sx01.fresh→SB [p] H H'→H la=none→Q .non H'
theorem zGf (H:Hp):Paired (IsPl K c H) [.non,.non,.non,.non] Sx01.fresh:=.cons rfl (.cons rfl (.cons rfl (.cons rfl .nil)))
theorem ok_di {f:Addr}{fd:FuncData} (F:Fun K "__init__" "Desk.__init__" sDI f fd) (T:TxK K mg c):FnOk P w K mg base CX0 1 f fd ["self"] (spDI K c):=by
 refine F.ok scDI (fun vs H Q E h=>?_) (fun cdv A outer s H vs Q E hr h=>?_)
 ·obtain ⟨p,dx,rfl,_⟩:=h
  rfl
 ·obtain ⟨p,dx,rfl,hp,k⟩:=h
  refine ⟨_,zAF (zA7 (pv 0) (zA8 op_rep (zAo (zAA pe_non zAE)) (eg T.places)) rfl),?_⟩
  refine ⟨(by show 1≤sizeLine; decide),fun l1 hl1=>⟨l1,4,_,rfl,rfl,zAB,by decide,by decide,(by show 1 * 4≤sizeLine; decide),fun la hla=>?_⟩⟩
  have np1:p≠l1:=zAC hp hl1
  have np2:p≠la:=zAC (show upd H l1 (.lst [.non]) p=some _ by rw [zAG np1]; exact hp) hla
  refine ⟨_,rfl,p,c.desk,dx,[],rfl,(by rw [zAG np2,zAG np1]; exact hp),T.cl,T.nP,(by decide),?_⟩
  rw [pf0]
  have fla:H la=none:=(zAJ hl1).free hla
  refine k _ la ⟨⟨dx,zAB⟩,⟨[.non,.non,.non,.non],?_,zGf _⟩,rfl⟩ (fun b o e n=>?_) fla
  ·rw [zAG np2.symm,zAB]
   rfl
  ·rw [zAG (by simpa using n),zAG (zAC e fla),zAG (zAC e hl1)]
   exact e
abbrev kDesk (P:Program) (w:World) (K:Fg) (mg:MG) (base:Heap) (c:Cs):Prop:=KCal P w K mg base CX0 1 "Desk" c.desk ["self"] (spDI K c)
abbrev sAN:Stmt:=zAK (top 62) 3
theorem scAN:FnScope ["self"] ["self"] (zAH sAN):=scm
def spAN (K:Fg) (c:Cs):Sp:=fun vs H Q _=>∃ (p la:Addr) (st:Sx01.St),vs=[.ref p]∧DeskAt K c H p la st∧∀ H' la' l,DeskAt K c H' p la' Sx01.fresh→H' l=some (.lst [.int 0])→SB [p] H H'→H la' = none→H l=none→Q (.ref l) H'
theorem ok_an {f:Addr}{fd:FuncData} (F:Fun K "answer_new" "Desk.answer_new" sAN f fd) (T:TxK K mg c):FnOk P w K mg base CX0 1 f fd ["self"] (spAN K c):=by
 refine F.ok scAN (fun vs H Q E h=>?_) (fun cdv A outer s H vs Q E hr h=>?_)
 ·obtain ⟨p,la,st,rfl,_⟩:=h
  rfl
 ·obtain ⟨p,la0,st,rfl,D,k⟩:=h
  obtain ⟨⟨dx,hp⟩,_,_⟩:=D
  refine ⟨_,zAD (zA7 (pv 0) (zA8 op_rep (zAo (zAA pe_non zAE)) (eg T.places)) rfl) (zAF (zAQ (zAo (zAA zAZ zAE)))),?_⟩
  refine ⟨(by show 1≤sizeLine; decide),fun l1 hl1=>⟨l1,4,_,rfl,rfl,zAB,by decide,by decide,(by show 1 * 4≤sizeLine; decide),fun la hla=>?_⟩⟩
  have np1:p≠l1:=zAC hp hl1
  have np2:p≠la:=zAC (show upd H l1 (.lst [.non]) p=some _ by rw [zAG np1]; exact hp) hla
  refine ⟨_,rfl,p,c.desk,dx,_,rfl,(by rw [zAG np2,zAG np1]; exact hp),T.cl,T.nP,(by show 1 < 1000; decide),?_⟩
  rw [pf2]
  have fla:H la=none:=(zAJ hl1).free hla
  generalize hH3:upd (upd (upd H l1 (.lst [.non])) la (.lst (List.replicate (4:Int).toNat [V.non]).flatten)) p (.ins c.desk dx [("places",.ref la)])=H3
  have sb3:SB [p] H H3:=fun b o e n=>by
   rw [←hH3,zAG (by simpa using n),zAG (zAC e fla),zAG (zAC e hl1)]
   exact e
  have e3:H3 p=some (.ins c.desk dx [("places",.ref la)]):=by rw [←hH3]; exact zAB
  have l3:H3 la=some (.lst [.non,.non,.non,.non]):=by rw [←hH3,zAG np2.symm,zAB]; rfl
  clear hH3
  refine ⟨(by show 1≤sizeLine; decide),fun l hl=>?_⟩
  have npl:p≠l:=zAC e3 hl
  refine k _ la l ⟨⟨dx,by rw [zAG npl]; exact e3⟩,⟨_,by rw [zAG (zAC l3 hl)]; exact l3,zGf _⟩,rfl⟩ zAB (sb3.new (sb3.free (by simpa using npl.symm) hl)) fla (sb3.free (by simpa using npl.symm) hl)
abbrev mAN (P:Program) (w:World) (K:Fg) (mg:MG) (base:Heap) (c:Cs):Prop:=MCal P w K mg base CX0 1 c.desk "answer_new" ["self"] (spAN K c)
end
end Sh
set_option maxHeartbeats 2000000
namespace Sh
open PySem PySem.Spec PyProof.Rows L2 ShM
theorem ks_lst {H:Hp}{p:Addr}{o:HO}{xs:List V} (h:H p=some (.lst xs)):KSh H (upd H p o):=fun b ob e s=>by
 have n:b≠p:=fun w=>by
  rw [w,h] at e
  cases e
  exact s
 rw [zAG n]
 exact e
theorem DeskAt.store {K:Fg}{c:Cs}{H:Hp}{p la a:Addr}{st:Sx01.St}{s:Sx01.Sheet}{n:Nat}{vs:List V} (D:DeskAt K c H p la st) (S:SheetAt K c H a s) (hl:H la=some (.lst vs)):DeskAt K c (upd H la (.lst (vs.set n (.ref a)))) p la (st.set n (some s)):=by
 obtain ⟨⟨dx,h1⟩,⟨vs',h2,h3⟩,h4⟩:=D
 rw [hl] at h2
 have e:=HO.lst.inj (Option.some.inj h2)
 subst e
 have ks:=ks_lst (o:=.lst (vs.set n (.ref a))) hl
 refine ⟨⟨dx,by rw [zAG (zBA h1 hl (by intro q; cases q))]; exact h1⟩,⟨_,zAB,pr_set ⟨a,rfl,S.ks ks⟩ n (zAr (fun v s z=>z.ks ks) h3)⟩,by rw [List.length_set]; exact h4⟩
theorem zCg {S:List Addr}{H H':Hp}{l:Addr} (k:SB S H H') (h:H' l=none) (hs:∀ q∈S,∃ o,H' q=some o):H l=none:=k.free (fun w=>by
 obtain ⟨o,e⟩:=hs l w
 rw [h] at e
 cases e) h
theorem sb3 {H H':Hp}{p la rp:Addr} (k:SB [rp] H H'):SB [p,la,rp] H H':=k.mono fun b hb=>by
 have:b=rp:=by simpa using hb
 simp [this]
theorem zEy (N:List Int) (i:Nat) (t:List Int) (h:N.drop i=t):Tk N i t:=⟨[],by rw [List.append_nil]; exact h⟩
theorem zGR (l:List Sx01.Bytes):Sx01Neutral.told.namesTold l=tokL Sx01.ofCell (l.map fun n=>n.map fun (x:Nat)=>(x:Int)):=by
 unfold Sx01Neutral.told.namesTold tokL
 rw [List.length_map,List.flatMap_map]
 congr 1
 congr 1
 funext n
 exact zC8 n
theorem zD3 {K:Fg}{H:Hp}{v:V}{l:List Sx01.Bytes} (h:zBJ K zBY H v (l.map fun n=>n.map fun (x:Nat)=>(x:Int))):zA1 K H v l:=by
 obtain ⟨a,vs,e,h1,h2⟩:=h
 refine ⟨a,vs,e,h1,?_⟩
 clear h1 e
 induction l generalizing vs with
 | nil =>
  cases h2
  exact .nil
 | cons n l ih =>
  cases h2 with
  | cons r t =>
   refine .cons ?_ (ih _ t)
   obtain ⟨b,e,hb⟩:=r
   refine ⟨b,e,?_⟩
   unfold zCr
   rw [List.map_map] at hb
   exact hb
def zCF (K:Fg) (c:Cs) (isx:Sx01.Call→Prop):Sp:=fun vs H Q E=>∃ (p la rp na:Addr) (st:Sx01.St) (x:Sx01.Call),vs=[.ref p,.ref rp]∧DeskAt K c H p la st∧RdAt c H rp na (zAd x) 1∧AskC x∧isx x∧AnsSp K c H p la rp st (Sx01.does st x) Q E
theorem DeskAt.ne_rd {K:Fg}{c:Cs}{H:Hp}{p la rp na:Addr}{st:Sx01.St}{N:List Int}{i:Nat} (h:DeskAt K c H p la st) (r:RdAt c H rp na N i):p≠rp∧la≠rp:=by
 obtain ⟨⟨dr,hr⟩,_⟩:=r
 obtain ⟨⟨dx,h1⟩,⟨vs,h2,h3⟩,h4⟩:=h
 refine ⟨zBA h1 hr (fun e=>by
   have e:=congrArg List.length (HO.ins.inj e).2.2
   simp at e),zBA h2 hr (by intro q; cases q)⟩
section
variable {P:Program}{w:World}{K:Fg}{mg:MG}{base:Heap}{c:Cs}
abbrev mNames (P:Program) (w:World) (K:Fg) (mg:MG) (base:Heap) (c:Cs):Prop:=MCal P w K mg base CX0 4 c.reader "read_names" ["self"] (spRd c (zBJ K zBY) (tokL Sx01.ofCell) (okL (fun _=>True)))
abbrev mRows (P:Program) (w:World) (K:Fg) (mg:MG) (base:Heap) (c:Cs):Prop:=MCal P w K mg base CX0 4 c.reader "read_rows" ["self"] (spRd c (zBJ K (zBJ K zBY)) (tokL (tokL Sx01.ofCell)) (okL (okL (fun _=>True))))
abbrev mSteps (P:Program) (w:World) (K:Fg) (mg:MG) (base:Heap) (c:Cs):Prop:=MCal P w K mg base CX0 6 c.reader "read_steps" ["self"] (spRd c (zBJ K (zCU K)) (tokL zCK) (okL zCn))
abbrev sAS:Stmt:=zAK (top 62) 4
theorem scAS:FnScope ["self","reader","place","columns","rows"] ["self","reader"] (zAH sAS):=scm
theorem ok_as {f:Addr}{fd:FuncData} (F:Fun K "answer_sheet" "Desk.answer_sheet" sAS f fd) (T:TxK K mg c) (c1:cRP P w K mg base c) (m1:mNames P w K mg base c) (m2:mRows P w K mg base c) (c2:cIsSh P w K mg base) (k1:zGY P w K mg base c) :
    FnOk P w K mg base (CXE P w) 5 f fd ["self","reader"] (zCF K c fun x=>∃ k l r,x = .sheet k l r):=by
  refine okX F scAS (fun vs H Q E h=>?_) (fun cdv A outer s H vs Q E hr h=>?_)
  · obtain ⟨p,la,rp,na,st,x,rfl,_⟩:=h
    rfl
  · refine hide fun Gz zG=>?_
    obtain ⟨p,la,rp,na,st,x,rfl,D,R,hask,⟨k,l,r,rfl⟩,A⟩:=h
    obtain ⟨hn,h20,hrow⟩:=hask
    have hr2:Room 2 _:=hr.mono (by decide)
    have hr3:Room 3 _:=hr.mono (by decide)
    obtain ⟨npr,nlr⟩:=D.ne_rd R
    refine zG ?_; clear zG
    refine ⟨_,zAD (zAN (i:=2) scAS.nd rfl (Or.inl rfl) (ec c1 hr2 (zBQ xbody) (zAA (pv 1) zAE)))
      (zAD (zAN (i:=3) scAS.nd rfl (Or.inl rfl) (em0 m1 T.clR hr zAU (pv 1)))
      (zAD (zAN (i:=4) scAS.nd rfl (Or.inl rfl) (em0 m2 T.clR hr zAU (pv 1)))
      (zAD (zAk (zBm (zA2 (ec c2 hr3 zAU (zAA (pv 3) (zAA (pv 4) zAE))))) (zAF (zBZ xbody T.eFi rfl)) zAY)
      (zAD (zE5 (ek k1 hr2 zAU (zAA (pv 3) (zAA (pv 4) zAE))) (zE9 (zAI (pv 0) rfl) (pv 2) zCZ))
      (zAF (zAQ (zAo (zAA zAZ zAE)))))))),?_⟩
    have t0:Tk (zAd (.sheet k l r)) 1 (k::(Sx01Neutral.told.namesTold l++tokL (tokL Sx01.ofCell) r)):=zEy _ _ _ rfl
    obtain ⟨t1,t2⟩:=t0.head
    have t3:=t2.app.1
    have t4:=t2.app.2
    rw [zGR] at t3 t4
    have A0:=A
    unfold Sx01.does at A
    refine ⟨_,rfl,rp,na,_,1,k,rfl,R,t1,fun n en hn4 hsl H1 R1 s1=>?_,fun hsl H1 R1 s1=>?_⟩
    · simp only [hsl,Bool.true_eq_false,if_false] at A
      have D1:=D.rd R s1
      obtain ⟨⟨dr1,g1⟩,_⟩:=id R1
      have nm:=of_decide_eq_true (Bool.and_eq_true_iff.mp hn).1
      refine ⟨_,rfl,rp,dr1,_,rfl,g1,(by rw [lk1,lk1]; rfl),rp,na,_,2,_,rfl,R1,t3,⟨by rw [List.length_map]; omega,fun _ _=>trivial⟩,fun vc H2 hvc R2 s2=>?_⟩
      have D2:=D1.rd R1 s2
      obtain ⟨⟨dr2,g2⟩,_⟩:=id R2
      have rw8:∀ x∈r,x.length≤8:=fun x hx=>of_decide_eq_true (Bool.and_eq_true_iff.mp (hrow x hx)).1
      refine ⟨_,rfl,rp,dr2,_,rfl,g2,(by rw [lk1,lk1]; rfl),rp,na,_,_,r,rfl,R2,t4,⟨by omega,fun x hx=>⟨by have:=rw8 x hx; omega,fun _ _=>trivial⟩⟩,fun vr H3 hvr R3 s3=>?_⟩
      have D3:=D2.rd R2 s3
      have sb03:SB [rp] H H3:=(s1.trans s2).trans s3
      have hvc3:zA1 K H3 vc l:=zAa _ _ _ _ (R2.kt s3) (zD3 hvc)
      have hvr3:zDF K H3 vr r:=nums_rows hvr
      refine ⟨_,rfl,_,rfl,vc,vr,l,r,rfl,hvc3,nm,hvr3,by omega,(fun x hx=>by have:=rw8 x hx; omega),fun H4 z4=>⟨_,rfl,?_⟩⟩
      have D4:=D3.same z4
      have sb04:SB [p,la,rp] H H4:=(sb3 sb03).trans (z4.sb _)
      cases hok:Sx01.sheetOk ⟨l,r⟩ with
      | false =>
        simp only [hok,if_true] at A
        exact iteT (A.e c.eFit H4 (.inr (.inr (.inl ⟨rfl,rfl⟩))) D4 sb04)
      | true =>
        simp only [hok,Bool.true_eq_false,if_false] at A
        refine iteF ⟨_,rfl,_,rfl,?_⟩
        intro sp ds hsp hds nds
        have zs:Same H4 (upd (upd H4 ds (.own sp)) sp (.ins c.sheet ds [])):=(zAJ hds).upd hsp
        refine ⟨sp,ds,vc,vr,⟨l,r⟩,rfl,zAB,zAa _ _ _ _ (z4.trans zs).kt hvc3,zBo _ _ _ _ (z4.trans zs).kt hvr3,wf_sheet hok,fun H5 S5 sb5=>⟨rfl,?_⟩⟩
        have z45:Same H4 H5:=zB1 hsp hds sb5
        have D5:=D4.same z45
        obtain ⟨⟨dd,hd5⟩,⟨vs5,hl5,hp5⟩,h4⟩:=id D5
        have pl5:=zAM hp5
        refine ⟨_,rfl,p,c.desk,dd,_,.ref la,rfl,hd5,T.cl,T.nP,lk0,_,rfl,la,vs5,_,n,rfl,rfl,hl5,zDi (by omega),?_⟩
        have D6:=D5.store (n:=n) S5 hl5
        have sb6:SB [p,la,rp] H (upd H5 la (.lst (vs5.set n (.ref sp)))):=fun b o e nb=>by
          rw [zAG (fun w=>nb (by simp [w]))]
          exact z45 _ _ (sb04 _ _ e nb)
        refine ⟨(by show 1≤sizeLine; decide),fun q hq=>?_⟩
        have fq:H q=none:=zCg sb6 hq (fun b hb=>by
          have hb:b=p∨b=la∨b=rp:=by simpa using hb
          rcases hb with w | w | w
          · rw [w]; exact ⟨_,by rw [zAG (zBA hd5 hl5 (by intro z; cases z))]; exact hd5⟩
          · rw [w]; exact ⟨_,zAB⟩
          · rw [w]
            obtain ⟨⟨dr3,g3⟩,_⟩:=R3
            exact ⟨_,by rw [zAG nlr.symm]; exact z45 _ _ (z4 _ _ g3)⟩)
        have en':k.toNat=n:=by rw [en]; simp
        rw [en'] at A
        exact A.q (Int.le_refl 0) _ la q (D6.same (zAJ hq)) zAB (sb6.new fq) (.inl rfl) fq
    · simp only [hsl,if_true] at A
      exact A.e c.ePlace H1 (.inl ⟨rfl,rfl⟩) (D.rd R s1) (sb3 s1)
abbrev sAL:Stmt:=zAK (top 62) 8
theorem scAL:FnScope ["self","reader"] ["self","reader"] (zAH sAL):=scm
abbrev cWSh (P:Program) (w:World) (K:Fg) (mg:MG) (base:Heap) (c:Cs):Prop:=Cal P w K mg base CX0 2 "write_sheet" ["sheet"] (spWSh K c)
theorem zDc {s:Sx01.Sheet} (wf:WF s):(Sx01.ofSheet s).length≤1100000:=by
 have limc:(s.cols.flatMap Sx01.ofBytes).length≤65 * s.cols.length:=zBf (m:=65) fun x hx=>by
  show (x.map fun (c:Nat)=>(c:Int)).length+1≤65
  have:=wf.nm x hx
  rw [List.length_map]
  omega
 have limr:(s.rows.flatMap fun r=>r.flatMap Sx01.ofCell).length≤4160 * s.rows.length:=zBf (m:=4160) fun r hr=>by
  have h0:(r.flatMap Sx01.ofCell).length≤65 * r.length:=zBf (m:=65) fun x hx=>by
   show x.length+1≤65
   have:=wf.cel r hr x hx
   omega
  have h1:=wf.wid r hr
  have h2:=wf.c64
  have h3:65 * r.length≤65 * 64:=Nat.mul_le_mul_left _ (by omega)
  show (r.flatMap Sx01.ofCell).length≤4160
  omega
 have h2:=wf.c64
 have h3:=wf.r256
 show ((s.cols.flatMap Sx01.ofBytes)++((s.rows.length:Int)::s.rows.flatMap fun r=>r.flatMap Sx01.ofCell)).length+1≤1100000
 rw [List.length_append,List.length_cons]
 omega
theorem ok_al {f:Addr}{fd:FuncData} (F:Fun K "answer_look" "Desk.answer_look" sAL f fd) (T:TxK K mg c) (c1:cRP P w K mg base c) (m1:mSA P w K mg base c) (c2:cWSh P w K mg base c) :
  FnOk P w K mg base (CXE P w) 3 f fd ["self","reader"] (zCF K c fun x=>∃ k,x = .look k):=by
 refine okX F scAL (fun vs H Q E h=>?_) (fun cdv A outer s H vs Q E hr h=>?_)
 ·obtain ⟨p,la,rp,na,st,x,rfl,_⟩:=h
  rfl
 ·refine hide fun Gz zG=>?_
  obtain ⟨p,la,rp,na,st,x,rfl,D,R,hask,⟨k,rfl⟩,A⟩:=h
  have hr1:Room 1 _:=hr.mono (by decide)
  obtain ⟨npr,nlr⟩:=D.ne_rd R
  refine zG ?_; clear zG
  refine ⟨_,zAF (zAQ (zA8 zGM (zAo (zAA zAZ zAE)) (ec c2 hr zAU (zAA (em m1 T.cl hr1 (zBQ xbody) (pv 0) (zAA (ec c1 hr (zBQ xbody) (zAA (pv 1) zAE)) zAE)) zAE)))),?_⟩
  have t0:Tk (zAd (.look k)) 1 [k]:=zEy _ _ _ rfl
  obtain ⟨t1,t2⟩:=t0.head
  unfold Sx01.does at A
  refine ⟨(by show 1≤sizeLine; decide),fun l0 hl0=>?_⟩
  have z0:Same H (upd H l0 (.lst [.int 0])):=zAJ hl0
  have D0:=D.same z0
  have R0:=R.same z0
  obtain ⟨⟨dd,hd0⟩,_,_⟩:=id D0
  refine ⟨_,rfl,p,dd,_,rfl,hd0,(by rw [lk1]; rfl),_,rfl,rp,na,_,1,k,rfl,R0,t1,fun n en hn4 hsl H1 R1 s1=>?_,fun hsl H1 R1 s1=>?_⟩
  ·simp only [hsl,Bool.true_eq_false,if_false] at A
   have D1:=D0.rd R0 s1
   have sb1:SB [p,la,rp] H H1:=(z0.sb _).trans (sb3 s1)
   subst en
   refine ⟨p,la,st,n,rfl,D1,hn4,fun hno=>?_,fun sh hsh a Sa=>?_⟩
   ·rw [hno] at A
    exact A.e c.eSheet H1 (.inr (.inl ⟨rfl,rfl⟩)) D1 sb1
   ·rw [hsh] at A
    refine ⟨a,sh,rfl,Sa,fun H2 l2 e2 z2 n2=>?_⟩
    obtain ⟨⟨dr1,g1⟩,_⟩:=id R1
    have e0:H1 l0=some (.lst [.int 0]):=s1 _ _ zAB (by
     have:l0≠rp:=fun w=>by
      obtain ⟨⟨dr,gr⟩,_⟩:=R
      rw [w,gr] at hl0
      cases hl0
     simpa using this)
    have ln:=zDc Sa.wf
    refine ⟨l0,l2,_,_,rfl,rfl,z2 _ _ e0,e2,Nat.le_of_lt (small (m:=2000000) (by rw [List.length_map]; simp only [List.length_cons,List.length_nil]; omega)),fun q hq=>?_⟩
    have D2:=D1.same z2
    obtain ⟨⟨dd2,hd2⟩,⟨vs2,hl2,_⟩,_⟩:=id D2
    have sb2:SB [p,la,rp] H H2:=sb1.trans (z2.sb _)
    have fq:H q=none:=zCg sb2 hq (fun b hb=>by
     have hb:b=p∨b=la∨b=rp:=by simpa using hb
     rcases hb with w | w | w
     ·rw [w]; exact ⟨_,hd2⟩
     ·rw [w]; exact ⟨_,hl2⟩
     ·rw [w]; exact ⟨_,z2 _ _ g1⟩)
    exact A.q (Int.le_refl 0) _ la q (D2.same (zAJ hq)) (by rw [zAB]; rfl) (sb2.new fq) (.inl rfl) fq
  ·simp only [hsl,if_true] at A
   exact A.e c.ePlace H1 (.inl ⟨rfl,rfl⟩) (D0.rd R0 s1) ((z0.sb _).trans (sb3 s1))
end
end Sh
set_option maxHeartbeats 2000000
namespace Sh
open PySem PySem.Spec PyProof.Rows L2 ShM
theorem zHO {a b:List Sx01.Bytes}:∀ (n:Nat) (l m:List Sx01.Row),l.length+m.length≤n→∀ st∈Sx01.steps a b l m,(∃ r s,s∈m∧st = .keep (Sx01.changes a b r s))∨st = .gone∨∃ s,s∈m∧st = .put s:=by
 intro n
 induction n with
 | zero =>
  intro l m h st hst
  have h1:l=[]:=List.eq_nil_of_length_eq_zero (by omega)
  have h2:m=[]:=List.eq_nil_of_length_eq_zero (by omega)
  subst h1 h2
  rw [zCB] at hst
  simp at hst
 | succ n ih =>
  intro l m h st hst
  rcases zBa (a:=a) (b:=b) l m with ⟨rfl,rfl,e⟩ | ⟨s,m',rfl,e⟩ | ⟨r,l',rfl,e⟩ | ⟨r,l',s,m',rfl,rfl,e⟩
  ·rw [e] at hst
   simp at hst
  ·rw [e] at hst
   rcases List.mem_cons.mp hst with w | w
   ·exact .inr (.inr ⟨s,by simp,w⟩)
   ·rcases ih l m' (by simp at h; omega) st w with ⟨r,s',h1,h2⟩ | h1 | ⟨s',h1,h2⟩
    ·exact .inl ⟨r,s',by simp [h1],h2⟩
    ·exact .inr (.inl h1)
    ·exact .inr (.inr ⟨s',by simp [h1],h2⟩)
  ·rw [e] at hst
   rcases List.mem_cons.mp hst with w | w
   ·exact .inr (.inl w)
   ·exact ih l' m (by simp at h; omega) st w
  ·rw [e] at hst
   rcases List.mem_cons.mp hst with w | w
   ·exact .inl ⟨r,s,by simp,w⟩
   ·rcases ih l' m' (by simp at h; omega) st w with ⟨r',s',h1,h2⟩ | h1 | ⟨s',h1,h2⟩
    ·exact .inl ⟨r',s',by simp [h1],h2⟩
    ·exact .inr (.inl h1)
    ·exact .inr (.inr ⟨s',by simp [h1],h2⟩)
theorem chg_mem {x s:Sx01.Row}{n:Nat}{y:Nat×Sx01.Cell} (h:y∈chg x s n):y.2∈s:=by
 unfold chg at h
 obtain ⟨q,hq,e⟩:=List.mem_filterMap.mp h
 split at e
 ·cases e
 ·have e:=Option.some.inj e
  rw [←e]
  have h1:=(List.mem_zipIdx hq).2.2
  have h2:q.1∈x.zip s:=by
   rw [h1]
   exact List.getElem_mem _
  exact (List.of_mem_zip (a:=q.1.1) (b:=q.1.2) h2).2
theorem zF2 {o x:Sx01.Sheet} (wx:WF x):∀ st∈Sx01.steps o.cols x.cols o.rows x.rows,StepSm st:=fun st hst=>by
 rcases zHO _ o.rows x.rows (Nat.le_refl _) st hst with ⟨r,s,h1,rfl⟩ | rfl | ⟨s,h1,rfl⟩
 ·have w1:=wx.wid s h1
  have w2:=wx.c64
  have w3:=zFw (Sx01.carried o.cols x.cols r) s 0
  refine ⟨?_,fun y hy=>wx.cel s h1 y.2 (chg_mem (x:=Sx01.carried o.cols x.cols r) (n:=0) hy)⟩
  show (chg (Sx01.carried o.cols x.cols r) s 0).length≤64
  omega
 ·trivial
 ·have w1:=wx.wid s h1
  have w2:=wx.c64
  exact ⟨by omega,fun y hy=>wx.cel s h1 y hy⟩
section
variable {P:Program}{w:World}{K:Fg}{mg:MG}{base:Heap}{c:Cs}
abbrev cWSt (P:Program) (w:World) (K:Fg) (mg:MG) (base:Heap):Prop:=Cal P w K mg base CX0 3 "write_steps" ["steps"] (spWSt K)
abbrev cPat (P:Program) (w:World) (K:Fg) (mg:MG) (base:Heap) (c:Cs):Prop:=Cal P w K mg base (CXE P w) 4 "patched" ["sheet","columns","steps"] (spPat K c)
abbrev sAD:Stmt:=zAK (top 62) 5
theorem scAD:FnScope ["self","reader","one","other","found"] ["self","reader"] (zAH sAD):=scm
theorem ok_ad {f:Addr}{fd:FuncData} (F:Fun K "answer_diff" "Desk.answer_diff" sAD f fd) (T:TxK K mg c) (c1:cRP P w K mg base c) (m1:mSA P w K mg base c) (c2:cDf P w K mg base c) (c3:cWSt P w K mg base) :
    FnOk P w K mg base (CXE P w) 4 f fd ["self","reader"] (zCF K c fun x=>∃ j k,x = .diff j k):=by
  refine okX F scAD (fun vs H Q E h=>?_) (fun cdv A outer s H vs Q E hr h=>?_)
  · obtain ⟨p,la,rp,na,st,x,rfl,_⟩:=h
    rfl
  · refine hide fun Gz zG=>?_
    obtain ⟨p,la,rp,na,st,x,rfl,D,R,hask,⟨j,k,rfl⟩,A⟩:=h
    have hr1:Room 1 _:=hr.mono (by decide)
    have hr2:Room 2 _:=hr.mono (by decide)
    obtain ⟨npr,nlr⟩:=D.ne_rd R
    refine zG ?_; clear zG
    refine ⟨_,zAD (zAN (i:=2) scAD.nd rfl (Or.inl rfl) (ec c1 hr2 (zBQ xbody) (zAA (pv 1) zAE)))
      (zAD (zAN (i:=3) scAD.nd rfl (Or.inl rfl) (ec c1 hr2 (zBQ xbody) (zAA (pv 1) zAE)))
      (zAD (zAN (i:=4) scAD.nd rfl (Or.inl rfl) (ec c2 hr zAU (zAA (em m1 T.cl hr1 (zBQ xbody) (pv 0) (zAA (pv 2) zAE)) (zAA (em m1 T.cl hr1 (zBQ xbody) (pv 0) (zAA (pv 3) zAE)) zAE))))
      (zAF (zAQ (zA8 zGM (zAo (zAA (zAI (pv 4) rfl) zAE)) (ec c3 hr zAU (zAA (zAI (pv 4) rfl) zAE))))))),?_⟩
    have t0:Tk (zAd (.diff j k)) 1 [j,k]:=zEy _ _ _ rfl
    obtain ⟨t1,t2⟩:=t0.head
    obtain ⟨t3,t4⟩:=t2.head
    unfold Sx01.does at A
    refine ⟨_,rfl,rp,na,_,1,j,rfl,R,t1,fun n en hn4 hsl H1 R1 s1=>?_,fun hsl H1 R1 s1=>?_⟩
    · have D1:=D.rd R s1
      refine ⟨_,rfl,rp,na,_,2,k,rfl,R1,t3,fun n2 en2 hn42 hsl2 H2 R2 s2=>?_,fun hsl2 H2 R2 s2=>?_⟩
      · simp only [hsl,hsl2,Bool.and_self,Bool.true_eq_false,if_false] at A
        have D2:=D1.rd R1 s2
        have sb2:SB [p,la,rp] H H2:=sb3 (s1.trans s2)
        subst en en2
        obtain ⟨⟨dd,hd2⟩,_,_⟩:=id D2
        refine ⟨_,rfl,p,dd,_,rfl,hd2,(by rw [lk1]; rfl),_,rfl,p,la,st,n,rfl,D2,hn4,fun hno=>?_,fun sh hsh a Sa=>?_⟩
        · rw [hno] at A
          exact A.e c.eSheet H2 (.inr (.inl ⟨rfl,rfl⟩)) D2 sb2
        · refine ⟨_,rfl,p,dd,_,rfl,hd2,(by rw [lk1]; rfl),_,rfl,p,la,st,n2,rfl,D2,hn42,fun hno=>?_,fun sh2 hsh2 a2 Sa2=>?_⟩
          · rw [hsh,hno] at A
            exact A.e c.eSheet H2 (.inr (.inl ⟨rfl,rfl⟩)) D2 sb2
          · rw [hsh,hsh2] at A
            simp only at A
            refine ⟨a,a2,sh,sh2,rfl,Sa,Sa2,fun H3 dp q hd z3 ndp nq=>?_⟩
            obtain ⟨ddx,hd1,hls⟩:=hd
            refine ⟨_,rfl,dp,c.diff,ddx,_,_,rfl,hd1,T.clD,T.nDc,lk0,(by show 1≤sizeLine; decide),fun l0 hl0=>?_⟩
            have z0:Same H3 (upd H3 l0 (.lst [.int (Sx01.cost sh.cols sh2.cols sh.rows sh2.rows:Nat)])):=zAJ hl0
            have lim:=zBH (a:=sh.cols) (b:=sh2.cols) _ sh.rows sh2.rows rfl
            have w1:=Sa.wf.r256
            have w2:=Sa2.wf.r256
            refine ⟨_,rfl,dp,c.diff,ddx,_,.ref q,rfl,z0 _ _ hd1,T.clD,T.nDs,(by rw [lk1,lk0]),.ref q,Sx01.steps sh.cols sh2.cols sh.rows sh2.rows,rfl,?_,by omega,zF2 Sa2.wf,fun H4 l2 e2 z4 n2=>?_⟩
            · obtain ⟨qa,qvs,e0,hq1,hq2⟩:=hls
              cases e0
              exact ⟨q,qvs,rfl,z0 _ _ hq1,zAr (fun v y z=>z.same z0) hq2⟩
            · have fl:((Sx01.steps sh.cols sh2.cols sh.rows sh2.rows).flatMap Sx01.ofStep).length≤4226 * (Sx01.steps sh.cols sh2.cols sh.rows sh2.rows).length:=zBf fun st hst=>(zF2 Sa2.wf st hst).len
              have fl2:4226 * (Sx01.steps sh.cols sh2.cols sh.rows sh2.rows).length≤4226 * 512:=Nat.mul_le_mul_left _ (by omega)
              refine ⟨l0,l2,_,_,rfl,rfl,z4 _ _ zAB,e2,Nat.le_of_lt (small (m:=3000000) (by simp only [List.length_cons,List.length_nil,List.length_map]; omega)),fun q2 hq2=>?_⟩
              have z24:Same H2 H4:=(z3.trans z0).trans z4
              have D4:=D2.same z24
              have sb4:SB [p,la,rp] H H4:=sb2.trans (z24.sb _)
              obtain ⟨⟨dd4,hd4⟩,⟨vs4,hl4,_⟩,_⟩:=id D4
              obtain ⟨⟨dr2,g2⟩,_⟩:=id R2
              have fq:H q2=none:=zCg sb4 hq2 (fun b hb=>by
                have hb:b=p∨b=la∨b=rp:=by simpa using hb
                rcases hb with w | w | w
                · rw [w]; exact ⟨_,hd4⟩
                · rw [w]; exact ⟨_,hl4⟩
                · rw [w]; exact ⟨_,z24 _ _ g2⟩)
              exact A.q (Int.natCast_nonneg _) _ la q2 (D4.same (zAJ hq2)) (by rw [zAB]; rfl) (sb4.new fq) (.inl rfl) fq
      · simp only [hsl,hsl2,Bool.and_false,if_true] at A
        exact A.e c.ePlace H2 (.inl ⟨rfl,rfl⟩) (D1.rd R1 s2) (sb3 (s1.trans s2))
    · simp only [hsl,Bool.false_and,if_true] at A
      exact A.e c.ePlace H1 (.inl ⟨rfl,rfl⟩) (D.rd R s1) (sb3 s1)
abbrev sAP:Stmt:=zAK (top 62) 6
theorem scAP:FnScope ["self","reader","place","to","sheet","columns","made"] ["self","reader"] (zAH sAP):=scm
theorem ok_ap {f:Addr}{fd:FuncData} (F:Fun K "answer_patch" "Desk.answer_patch" sAP f fd) (T:TxK K mg c) (c1:cRP P w K mg base c) (m1:mSA P w K mg base c) (m2:mNames P w K mg base c) (m3:mSteps P w K mg base c) (c2:cPat P w K mg base c) :
    FnOk P w K mg base (CXE P w) 7 f fd ["self","reader"] (zCF K c fun x=>∃ k to q,x = .patch k to q):=by
  refine okX F scAP (fun vs H Q E h=>?_) (fun cdv A outer s H vs Q E hr h=>?_)
  · obtain ⟨p,la,rp,na,st,x,rfl,_⟩:=h
    rfl
  · refine hide fun Gz zG=>?_
    obtain ⟨p,la,rp,na,st,x,rfl,D,R,hask,⟨k,to,q,rfl⟩,A⟩:=h
    obtain ⟨hn,h60,hst⟩:=hask
    have hr1:Room 1 _:=hr.mono (by decide)
    have hr2:Room 2 _:=hr.mono (by decide)
    have hr4:Room 4 _:=hr.mono (by decide)
    obtain ⟨npr,nlr⟩:=D.ne_rd R
    refine zG ?_; clear zG
    refine ⟨_,zAD (zAN (i:=2) scAP.nd rfl (Or.inl rfl) (ec c1 hr2 (zBQ xbody) (zAA (pv 1) zAE)))
      (zAD (zAN (i:=3) scAP.nd rfl (Or.inl rfl) (ec c1 hr2 (zBQ xbody) (zAA (pv 1) zAE)))
      (zAD (zAN (i:=4) scAP.nd rfl (Or.inl rfl) (em m1 T.cl hr1 (zBQ xbody) (pv 0) (zAA (pv 2) zAE)))
      (zAD (zAN (i:=5) scAP.nd rfl (Or.inl rfl) (em0 m2 T.clR hr4 zAU (pv 1)))
      (zAD (zAN (i:=6) scAP.nd rfl (Or.inl rfl) (ec c2 hr4 (zBQ xbody) (zAA (pv 4) (zAA (pv 5) (zAA (em0 m3 T.clR hr zAU (pv 1)) zAE)))))
      (zAD (zE5 (pv 6) (zE9 (zAI (pv 0) rfl) (pv 3) zCZ))
      (zAF (zAQ (zAo (zAA (zAS zAL rfl T.len zAj (zAA (zAI (pv 6) rfl) zAE)) zAE))))))))),?_⟩
    have t0:Tk (zAd (.patch k to q)) 1 (k::to::(Sx01Neutral.told.namesTold q.cols++tokL zCK q.steps)):=zEy _ _ _ rfl
    obtain ⟨t1,t2⟩:=t0.head
    obtain ⟨t3,t4⟩:=t2.head
    have t5:=t4.app.1
    have t6:=t4.app.2
    rw [zGR] at t5 t6
    rw [zHD] at A
    refine ⟨_,rfl,rp,na,_,1,k,rfl,R,t1,fun n en hn4 hsl H1 R1 s1=>?_,fun hsl H1 R1 s1=>?_⟩
    · have D1:=D.rd R s1
      refine ⟨_,rfl,rp,na,_,2,to,rfl,R1,t3,fun n2 en2 hn42 hsl2 H2 R2 s2=>?_,fun hsl2 H2 R2 s2=>?_⟩
      · simp only [hsl,hsl2,Bool.and_self,Bool.true_eq_false,if_false] at A
        have D2:=D1.rd R1 s2
        have sb2:SB [rp] H H2:=s1.trans s2
        subst en
        obtain ⟨⟨dd,hd2⟩,_,_⟩:=id D2
        refine ⟨_,rfl,p,dd,_,rfl,hd2,(by rw [lk1]; rfl),_,rfl,p,la,st,n,rfl,D2,hn4,fun hno=>?_,fun sh hsh a Sa=>?_⟩
        · rw [hno] at A
          exact A.e c.eSheet H2 (.inr (.inl ⟨rfl,rfl⟩)) D2 (sb3 sb2)
        · rw [hsh] at A
          simp only at A
          obtain ⟨⟨dr2,g2⟩,_⟩:=id R2
          have nm:=of_decide_eq_true (Bool.and_eq_true_iff.mp hn).1
          refine ⟨_,rfl,rp,dr2,_,rfl,g2,(by rw [lk1,lk1]; rfl),rp,na,_,3,_,rfl,R2,t5,⟨by rw [List.length_map]; omega,fun _ _=>trivial⟩,fun vc H3 hvc R3 s3=>?_⟩
          have D3:=D2.rd R2 s3
          obtain ⟨⟨dr3,g3⟩,_⟩:=id R3
          refine ⟨_,rfl,_,rfl,_,rfl,rp,dr3,_,rfl,g3,(by rw [lk1,lk1]; rfl),rp,na,_,_,q.steps,rfl,R3,t6,⟨by omega,fun x hx=>?_⟩,fun vs4 H4 hvs R4 s4=>?_⟩
          · have:=hst x hx
            cases x with
            | keep l =>
              have:=of_decide_eq_true (Bool.and_eq_true_iff.mp this).1
              show l.length≤1000
              omega
            | gone=>trivial
            | put r =>
              have:=of_decide_eq_true (Bool.and_eq_true_iff.mp this).1
              show r.length≤1000
              omega
          · have D4:=D3.rd R3 s4
            have sb4:SB [rp] H H4:=(sb2.trans s3).trans s4
            refine ⟨a,vc,vs4,sh,q.cols,q.steps,rfl,(Sa.ks (R2.ks s3)).ks (R3.ks s4),zAa _ _ _ _ (R3.kt s4) (zD3 hvc),nm,hvs,h60,(fun x hx=>?_),fun hno H5 z5=>?_,fun t ht b H5 Sb z5=>?_⟩
            · have:=hst x hx
              cases x with
              | keep l =>
                have:=of_decide_eq_true (Bool.and_eq_true_iff.mp this).1
                show l.length≤1000
                omega
              | gone=>trivial
              | put r =>
                have:=of_decide_eq_true (Bool.and_eq_true_iff.mp this).1
                show r.length≤1000
                omega
            · rw [hno] at A
              exact A.e c.eFit H5 (.inr (.inr (.inl ⟨rfl,rfl⟩))) (D4.same z5) ((sb3 sb4).trans (z5.sb _))
            · rw [ht] at A
              simp only at A
              have D5:=D4.same z5
              obtain ⟨⟨dd5,hd5⟩,⟨vs5,hl5,hp5⟩,h4⟩:=id D5
              have pl5:=zAM hp5
              refine ⟨_,rfl,_,rfl,p,c.desk,dd5,_,.ref la,rfl,hd5,T.cl,T.nP,lk0,_,rfl,la,vs5,_,n2,rfl,rfl,hl5,zDi (by omega),?_⟩
              have D6:=D5.store (n:=n2) Sb hl5
              have Sb6:=Sb.ks (ks_lst (o:=.lst (vs5.set n2 (.ref b))) hl5)
              refine hide fun Gz zG=>?_
              obtain ⟨dxb,cab,rab,pab,kvb,hb1,hb2,hb3,_⟩:=Sb6.ob
              obtain ⟨_,rvb,e0,hb4,hb5⟩:=id hb3
              cases e0
              refine zG ?_; clear zG
              have rbl:=zAM hb5
              have sb5:SB [p,la,rp] H H5:=(sb3 sb4).trans (z5.sb _)
              have sb6:SB [p,la,rp] H (upd H5 la (.lst (vs5.set n2 (.ref b)))):=fun b' o e nb=>by
                rw [zAG (fun w=>nb (by simp [w]))]
                exact sb5 _ _ e nb
              refine ⟨_,rfl,b,c.sheet,dxb,_,.ref rab,rfl,hb1,T.clS,T.nR,(by rw [lk1,lk0]),rab,_,rfl,.inr hb4,(by show 1≤sizeLine; decide),fun ql hq=>?_⟩
              have fq:H ql=none:=zCg sb6 hq (fun b' hb=>by
                have hb:b' = p∨b' = la∨b' = rp:=by simpa using hb
                rcases hb with w | w | w
                · rw [w]; exact ⟨_,by rw [zAG (zBA hd5 hl5 (by intro z; cases z))]; exact hd5⟩
                · rw [w]; exact ⟨_,zAB⟩
                · rw [w]
                  obtain ⟨⟨dr4,g4⟩,_⟩:=R4
                  exact ⟨_,by rw [zAG nlr.symm]; exact z5 _ _ g4⟩)
              have en':to.toNat=n2:=by rw [en2]; simp
              rw [en'] at A
              rw [rbl]
              exact A.q (Int.natCast_nonneg _) _ la ql (D6.same (zAJ hq)) (by rw [zAB]; rfl) (sb6.new fq) (.inl rfl) fq
      · simp only [hsl,hsl2,Bool.and_false,if_true] at A
        exact A.e c.ePlace H2 (.inl ⟨rfl,rfl⟩) (D1.rd R1 s2) (sb3 (s1.trans s2))
    · simp only [hsl,Bool.false_and,if_true] at A
      exact A.e c.ePlace H1 (.inl ⟨rfl,rfl⟩) (D.rd R s1) (sb3 s1)
end
end Sh
set_option maxHeartbeats 2000000
namespace Sh
open PySem PySem.Spec PyProof.Rows L2 ShM
theorem zCX {o a b:Sx01.Sheet}{cols:List Sx01.Bytes} (ho:WF o) (ha:WF a) (hb:WF b) (hc:cols.length≤128):∀ (l:List Sx01.Row) (f g:List Sx01.Fate) (k:Nat),(∀ r∈l,r∈o.rows)→(∀ x∈f,zFX a x)→(∀ x∈g,zFX b x)→(Sx01.threeRows o a b cols l f g k).2.length≤129 * l.length
 | [],f,g,k,_,_,_=>by rw [zCY]; exact Nat.zero_le _
 | _::_,[],g,k,_,_,_=>by simp [Sx01.threeRows]
 | _::_,_::_,[],k,_,_,_=>by simp [Sx01.threeRows]
 | r::l,x::f,y::g,k,h0,h1,h2=>by
  obtain ⟨x1,x2,x3⟩:=h1 x (by simp)
  obtain ⟨y1,y2,y3⟩:=h2 y (by simp)
  rw [zCE]
  simp only
  have t1:=(zGL (o:=o) (a:=a) (b:=b) (cols:=cols) (ro:=r) (ra:=x.row) (rb:=y.row) (k+(Sx01.bothPut o a b cols x.before y.before).length) (ho.cel r (h0 r (by simp))) (fun r hr=>ha.cel r (x1 r hr)) (fun r hr=>hb.cel r (y1 r hr))).1
  have ih:=zCX ho ha hb hc l f g (k+(Sx01.bothPut o a b cols x.before y.before).length+(outR (Sx01.threeRow o a b cols r x.row y.row)).length) (fun r hr=>h0 r (by simp [hr])) (fun z hz=>h1 z (by simp [hz])) (fun z hz=>h2 z (by simp [hz]))
  rw [List.length_append,List.length_cons]
  omega
theorem zGa {o a b:Sx01.Sheet} (ho:WF o) (ha:WF a) (hb:WF b):(Sx01.join o a b).2.length≤40000:=by
 obtain ⟨j1,j2,j3,j4⟩:=zBS (o:=o) ha hb
 obtain ⟨f1,f2,f3,f4⟩:=zA4 (o:=o) ha
 obtain ⟨g1,g2,g3,g4⟩:=zA4 (o:=o) hb
 have h1:=zCX ho ha hb j2 o.rows (Sx01.fatesOf o a).1 (Sx01.fatesOf o b).1 0 (fun _ h=>h) f2 g2
 have h2:=zEp o a b (Sx01.joinedCols o a b).zipIdx
 rw [List.length_zipIdx] at h2
 have h3:=ho.r256
 have e:(Sx01.join o a b).2=(Sx01.joinedCols o a b).zipIdx.filterMap (colF o a b)++(Sx01.threeRows o a b (Sx01.joinedCols o a b) o.rows (Sx01.fatesOf o a).1 (Sx01.fatesOf o b).1 0).2:=rfl
 rw [e,List.length_append]
 omega
theorem zEn {a b:List Sx01.Bytes}:∀ (n:Nat) (l m:List Sx01.Row),l.length+m.length≤n→(∀ s∈m,s.length≤64∧∀ y∈s,y.length≤64)→((Sx01.steps a b l m).flatMap Sx01.ofStep).length≤4226 * m.length+l.length:=by
 intro n
 induction n with
 | zero =>
  intro l m h _
  have h1:l=[]:=List.eq_nil_of_length_eq_zero (by omega)
  have h2:m=[]:=List.eq_nil_of_length_eq_zero (by omega)
  subst h1 h2
  rw [zCB]
  exact Nat.zero_le _
 | succ n ih =>
  intro l m h hm
  rcases zBa (a:=a) (b:=b) l m with ⟨rfl,rfl,e⟩ | ⟨s,m',rfl,e⟩ | ⟨r,l',rfl,e⟩ | ⟨r,l',s,m',rfl,rfl,e⟩
  ·rw [e]
   exact Nat.zero_le _
  ·rw [e,List.flatMap_cons,List.length_append]
   have h1:=ih l m' (by simp at h; omega) fun s hs=>hm s (by simp [hs])
   have h2:=StepSm.len (x:=.put s) (hm s (by simp))
   rw [List.length_cons]
   omega
  ·rw [e,List.flatMap_cons,List.length_append]
   have h1:=ih l' m (by simp at h; omega) hm
   rw [List.length_cons]
   show 1+_≤_
   omega
  ·rw [e,List.flatMap_cons,List.length_append]
   have h1:=ih l' m' (by simp at h; omega) fun s hs=>hm s (by simp [hs])
   have h3:=hm s (by simp)
   have h2:=StepSm.len (x:=.keep (Sx01.changes a b r s)) ⟨Nat.le_trans (zFw (Sx01.carried a b r) s 0) h3.1,fun y hy=>h3.2 y.2 (chg_mem (x:=Sx01.carried a b r) (n:=0) hy)⟩
   rw [List.length_cons,List.length_cons]
   omega
theorem ans_len (st:Sx01.St) (x:Sx01.Call) (hw:∀ n s,st.at_ n=some s→WF s):(Sx01.does st x).2.l.length≤1100001:=by
 unfold Sx01.does
 cases x with
 | new_=>exact Nat.zero_le _
 | sheet k l r =>
  simp only
  split
  ·exact Nat.zero_le _
  ·split <;> exact Nat.zero_le _
 | diff j k =>
  simp only
  split
  ·exact Nat.zero_le _
  ·cases e1:st.at_ j with
   | none=>exact Nat.zero_le _
   | some a =>
    cases e2:st.at_ k with
    | none=>exact Nat.zero_le _
    | some b =>
     have wa:=hw _ _ e1
     have wb:=hw _ _ e2
     have h1:=zEn (a:=a.cols) (b:=b.cols) _ a.rows b.rows (Nat.le_refl _) fun s hs=>⟨by have:=wb.wid s hs; have:=wb.c64; omega,wb.cel s hs⟩
     have h2:=wa.r256
     have h3:=wb.r256
     show ((Sx01.steps a.cols b.cols a.rows b.rows).flatMap Sx01.ofStep).length+1≤1100001
     omega
 | patch k to p =>
  simp only
  split
  ·exact Nat.zero_le _
  ·cases st.at_ k with
   | none=>exact Nat.zero_le _
   | some a =>
    simp only
    split
    ·exact Nat.zero_le _
    ·split <;> exact Nat.zero_le _
 | join o a b to =>
  simp only
  split
  ·exact Nat.zero_le _
  ·cases e1:st.at_ o with
   | none=>exact Nat.zero_le _
   | some x =>
    cases e2:st.at_ a with
    | none=>exact Nat.zero_le _
    | some y =>
     cases e3:st.at_ b with
     | none=>exact Nat.zero_le _
     | some z =>
      simp only
      split
      ·exact Nat.zero_le _
      ·have h1:=zGa (hw _ _ e1) (hw _ _ e2) (hw _ _ e3)
       have h2:((Sx01.join x y z).2.flatMap fun c=>[(c.kind:Int),(c.row:Int),(c.col:Int)]).length≤3 * (Sx01.join x y z).2.length:=zBf fun c _=>Nat.le_refl _
       show ((Sx01.join x y z).2.flatMap fun c=>[(c.kind:Int),(c.row:Int),(c.col:Int)]).length≤1100001
       omega
 | look k =>
  simp only
  split
  ·exact Nat.zero_le _
  ·cases e1:st.at_ k with
   | none=>exact Nat.zero_le _
   | some a =>
    have:=zDc (hw _ _ e1)
    show (Sx01.ofSheet a).length≤1100001
    omega
section
variable {P:Program}{w:World}{K:Fg}{mg:MG}{base:Heap}{c:Cs}
abbrev sAJ:Stmt:=zAK (top 62) 7
theorem scAJ:FnScope ["self","reader","origin","a","b","to","joined","numbers","untold"] ["self","reader"] (zAH sAJ):=scm
def unTok (x:Sx01.Clash):List Int:=[(x.kind:Int),(x.row:Int),(x.col:Int)]
theorem ok_aj {f:Addr}{fd:FuncData} (F:Fun K "answer_join" "Desk.answer_join" sAJ f fd) (T:TxK K mg c) (c1:cRP P w K mg base c) (m1:mSA P w K mg base c) (c2:cJS P w K mg base c) :
    FnOk P w K mg base (CXE P w) 9 f fd ["self","reader"] (zCF K c fun x=>∃ o a b to,x = .join o a b to):=by
  refine okX F scAJ (fun vs H Q E h=>?_) (fun cdv A outer s H vs Q E hr h=>?_)
  · obtain ⟨p,la,rp,na,st,x,rfl,_⟩:=h
    rfl
  · refine hide fun Gz zG=>?_
    obtain ⟨p,la,rp,na,st,x,rfl,D,R,hask,⟨io,ia,ib,it,rfl⟩,A⟩:=h
    have hr1:Room 1 _:=hr.mono (by decide)
    have hr2:Room 2 _:=hr.mono (by decide)
    obtain ⟨npr,nlr⟩:=D.ne_rd R
    refine zG ?_; clear zG
    refine ⟨_,zAD (zAN (i:=2) scAJ.nd rfl (Or.inl rfl) (ec c1 hr2 (zBQ xbody) (zAA (pv 1) zAE)))
      (zAD (zAN (i:=3) scAJ.nd rfl (Or.inl rfl) (ec c1 hr2 (zBQ xbody) (zAA (pv 1) zAE)))
      (zAD (zAN (i:=4) scAJ.nd rfl (Or.inl rfl) (ec c1 hr2 (zBQ xbody) (zAA (pv 1) zAE)))
      (zAD (zAN (i:=5) scAJ.nd rfl (Or.inl rfl) (ec c1 hr2 (zBQ xbody) (zAA (pv 1) zAE)))
      (zAD (zAN (i:=6) scAJ.nd rfl (Or.inl rfl) (ec c2 hr (zBQ xbody) (zAA (em m1 T.cl hr1 (zBQ xbody) (pv 0) (zAA (pv 2) zAE)) (zAA (em m1 T.cl hr1 (zBQ xbody) (pv 0) (zAA (pv 3) zAE)) (zAA (em m1 T.cl hr1 (zBQ xbody) (pv 0) (zAA (pv 4) zAE)) zAE)))))
      (zAD (zE5 (zAI (pv 6) rfl) (zE9 (zAI (pv 0) rfl) (pv 5) zCZ))
      (zAD (zAN (i:=7) scAJ.nd rfl (Or.inl rfl) (zAo (zAA (zAS zAL rfl T.len zAj (zAA (zAI (pv 6) rfl) zAE)) zAE)))
      (zAD (zA6 xbody.po rfl (zBi (zAI (pv 6) rfl)) (zAR (i:=8) scAJ.nd rfl (Or.inl rfl)) (zAF (zAT (zAw PySem.F.plainAttrs_list PySem.F.slot_list_extend PySem.F.type_list_extend zCs (pv 7) (zAA (pv 8) zAE)))))
      (zAF (zAQ (pv 7)))))))))),?_⟩
    have t0:Tk (zAd (.join io ia ib it)) 1 [io,ia,ib,it]:=zEy _ _ _ rfl
    obtain ⟨t1,t2⟩:=t0.head
    obtain ⟨t3,t4⟩:=t2.head
    obtain ⟨t5,t6⟩:=t4.head
    obtain ⟨t7,t8⟩:=t6.head
    unfold Sx01.does at A
    refine ⟨_,rfl,rp,na,_,1,io,rfl,R,t1,fun n1 en1 hn1 hs1 H1 R1 s1=>?_,fun hs1 H1 R1 s1=>?_⟩
    rotate_left
    · simp only [hs1,Bool.false_and,if_true] at A
      exact A.e c.ePlace H1 (.inl ⟨rfl,rfl⟩) (D.rd R s1) (sb3 s1)
    have D1:=D.rd R s1
    refine ⟨_,rfl,rp,na,_,2,ia,rfl,R1,t3,fun n2 en2 hn2 hs2 H2 R2 s2=>?_,fun hs2 H2 R2 s2=>?_⟩
    rotate_left
    · simp only [hs1,hs2,Bool.false_and,Bool.and_false,if_true] at A
      exact A.e c.ePlace H2 (.inl ⟨rfl,rfl⟩) (D1.rd R1 s2) (sb3 (s1.trans s2))
    have D2:=D1.rd R1 s2
    refine ⟨_,rfl,rp,na,_,3,ib,rfl,R2,t5,fun n3 en3 hn3 hs3 H3 R3 s3=>?_,fun hs3 H3 R3 s3=>?_⟩
    rotate_left
    · simp only [hs1,hs2,hs3,Bool.false_and,Bool.and_false,if_true] at A
      exact A.e c.ePlace H3 (.inl ⟨rfl,rfl⟩) (D2.rd R2 s3) (sb3 ((s1.trans s2).trans s3))
    have D3:=D2.rd R2 s3
    refine ⟨_,rfl,rp,na,_,4,it,rfl,R3,t7,fun n4 en4 hn4 hs4 H4 R4 s4=>?_,fun hs4 H4 R4 s4=>?_⟩
    rotate_left
    · simp only [hs1,hs2,hs3,hs4,Bool.false_and,Bool.and_false,if_true] at A
      exact A.e c.ePlace H4 (.inl ⟨rfl,rfl⟩) (D3.rd R3 s4) (sb3 (((s1.trans s2).trans s3).trans s4))
    have D4:=D3.rd R3 s4
    have sb4:SB [p,la,rp] H H4:=sb3 (((s1.trans s2).trans s3).trans s4)
    simp only [hs1,hs2,hs3,hs4,Bool.and_self,Bool.true_eq_false,if_false] at A
    subst en1 en2 en3
    obtain ⟨⟨dd,hd4⟩,_,_⟩:=id D4
    refine ⟨_,rfl,p,dd,_,rfl,hd4,(by rw [lk1]; rfl),_,rfl,p,la,st,n1,rfl,D4,hn1,fun hno=>?_,fun so hso ao So=>?_⟩
    · rw [hno] at A
      exact A.e c.eSheet H4 (.inr (.inl ⟨rfl,rfl⟩)) D4 sb4
    refine ⟨_,rfl,p,dd,_,rfl,hd4,(by rw [lk1]; rfl),_,rfl,p,la,st,n2,rfl,D4,hn2,fun hno=>?_,fun sa hsa aa Sa=>?_⟩
    · rw [hso,hno] at A
      exact A.e c.eSheet H4 (.inr (.inl ⟨rfl,rfl⟩)) D4 sb4
    refine ⟨_,rfl,p,dd,_,rfl,hd4,(by rw [lk1]; rfl),_,rfl,p,la,st,n3,rfl,D4,hn3,fun hno=>?_,fun sb hsb ab Sb=>?_⟩
    · rw [hso,hsa,hno] at A
      exact A.e c.eSheet H4 (.inr (.inl ⟨rfl,rfl⟩)) D4 sb4
    rw [hso,hsa,hsb] at A
    simp only at A
    refine ⟨ao,aa,ab,so,sa,sb,rfl,So,Sa,Sb,fun href H5 z5=>?_,fun hgood H5 jp uA hjd hun0 z5=>?_⟩
    · unfold zCC at href
      rw [if_pos href] at A
      exact A.e c.eJoin H5 (.inr (.inr (.inr ⟨rfl,rfl⟩))) (D4.same z5) (sb4.trans (z5.sb _))
    unfold zCC at hgood
    rw [if_neg hgood] at A
    have ul:=zGa So.wf Sa.wf Sb.wf
    refine hide fun Gz zG=>?_
    obtain ⟨dj,sA,uvs,hj1,Sj,hu,hup⟩:=hjd
    have uvl:=zAM hup
    have D5:=D4.same z5
    have sb5:SB [p,la,rp] H H5:=sb4.trans (z5.sb _)
    obtain ⟨⟨dd5,hd5⟩,⟨vs5,hl5,hp5⟩,hf4⟩:=id D5
    refine zG ?_; clear zG
    have pl5:=zAM hp5
    refine ⟨_,rfl,jp,c.joined,dj,_,.ref sA,rfl,hj1,T.clJ,T.nJs,lk0,_,rfl,p,c.desk,dd5,_,.ref la,rfl,hd5,T.cl,T.nP,lk0,_,rfl,la,vs5,_,n4,rfl,rfl,hl5,zDi (by omega),?_⟩
    have D6:=D5.store (n:=n4) Sj hl5
    generalize hH6:upd H5 la (.lst (vs5.set n4 (.ref sA)))=H6 at D6
    have njl:jp≠la:=zBA hj1 hl5 (by intro z; cases z)
    have hj6:H6 jp=some (.ins c.joined dj (jdF (.ref sA) (.ref uA))):=by rw [←hH6,zAG njl]; exact hj1
    have nul:uA≠la:=by
      obtain ⟨_,⟨vs4,hl4,_⟩,_⟩:=id D4
      exact (zAC hl4 hun0).symm
    have hu6:H6 uA=some (.lst uvs):=by rw [←hH6,zAG nul]; exact hu
    have hup6:Paired (IsUn K H6) uvs (Sx01.join so sa sb).2:=by rw [←hH6]; exact mono_un.pr (zAi hl5) hup
    have sb6:SB [p,la,rp] H H6:=fun b' o e nb=>by
      rw [←hH6,zAG (fun w=>nb (by simp [w]))]
      exact sb5 _ _ e nb
    have r6:∃ o,H6 rp=some o:=by
      obtain ⟨⟨dr4,g4⟩,_⟩:=R4
      exact ⟨_,by rw [←hH6,zAG nlr.symm]; exact z5 _ _ g4⟩
    clear hH6
    refine ⟨_,rfl,jp,c.joined,dj,_,.ref uA,rfl,hj6,T.clJ,T.nJu,(by rw [lk1,lk0]),uA,_,rfl,.inl (SqL.of hu6),(by show 1≤sizeLine; decide),fun q hq=>?_⟩
    obtain ⟨⟨dd6,hd6⟩,⟨vs6,hl6,_⟩,_⟩:=id D6
    have fq:H q=none:=zCg sb6 hq (fun b' hb=>by
      have hb:b' = p∨b' = la∨b' = rp:=by simpa using hb
      rcases hb with w | w | w
      · rw [w]; exact ⟨_,hd6⟩
      · rw [w]; exact ⟨_,hl6⟩
      · rw [w]; exact r6)
    have zq:Same H6 (upd H6 q (.lst [.int (uvs.length:Nat)])):=zAJ hq
    refine ⟨_,rfl,jp,c.joined,dj,_,.ref uA,rfl,zq _ _ hj6,T.clJ,T.nJu,(by rw [lk1,lk0]),uA,rfl,⟨_,SqL.of (zq _ _ hu6)⟩,zBw (K:=K) (a:=uA) (xs:=uvs) (fun i σ H'=>∃ u8,σ=[some (.ref p),some (.ref rp),some (.int (n1:Nat)),some (.int (n2:Nat)),some (.int (n3:Nat)),some (.int (n4:Nat)),some (.ref jp),some (.ref q),u8] ∧
      H' q=some (.lst ((((Sx01.join so sa sb).2.length:Int)::((Sx01.join so sa sb).2.take i).flatMap unTok).map V.int))∧Same H6 H') ⟨none,rfl,by rw [zAB,uvl]; rfl,zq⟩ ?_ ?_ ?_⟩
    · rintro i σ H' _ ⟨_,_,_,z⟩
      exact SqL.of (z _ _ hu6)
    · rintro i v σ H' hi ⟨u8,rfl,e1,z⟩
      obtain ⟨x,hx,hun⟩:=zAl hup6 hi
      obtain ⟨t,rfl,ht⟩:=mono_un _ _ _ _ z.kt hun
      have fl:=zBT (f:=unTok) (m:=3) (xs:=(Sx01.join so sa sb).2) i fun _ _=>Nat.le_refl _
      refine ⟨_,rfl,.inl ⟨rfl,_,SqL.of e1⟩,_,rfl,q,t,_,_,rfl,rfl,e1,ht,Nat.le_of_lt (small (m:=1000000) (by simp only [List.length_cons,List.length_map,List.length_nil]; omega)),_,rfl,?_,z.upd hq⟩
      rw [zAB,zBe hx]
      simp [unTok]
    · rintro σ H' ⟨u8,rfl,e1,z⟩
      rw [uvl,List.take_length] at e1
      have en':it.toNat=n4:=by rw [en4]; simp
      rw [en'] at A
      exact ⟨_,rfl,A.q (Int.natCast_nonneg _) H' la q (D6.same z) e1 (fun b' o e nb=>z _ _ (sb6 _ _ e nb)) (.inl rfl) fq⟩
end
end Sh
set_option maxHeartbeats 2000000
namespace Sh
open PySem PySem.Spec PyProof.Rows L2 ShM
theorem does_ref (st:Sx01.St) (x:Sx01.Call):0≤(Sx01.does st x).2.v∨((Sx01.does st x).1=st∧(Sx01.does st x).2.l=[]):=by
 unfold Sx01.does
 cases x with
 | new_=>exact .inl (Int.le_refl _)
 | sheet k l r =>
  simp only
  split
  ·exact .inr ⟨rfl,rfl⟩
  ·split
   ·exact .inr ⟨rfl,rfl⟩
   ·exact .inl (Int.le_refl _)
 | diff j k =>
  simp only
  split
  ·exact .inr ⟨rfl,rfl⟩
  ·cases e1:st.at_ j with
   | none=>exact .inr ⟨rfl,rfl⟩
   | some a =>
    cases e2:st.at_ k with
    | none=>exact .inr ⟨rfl,rfl⟩
    | some b=>exact .inl (Int.natCast_nonneg _)
 | patch k to p =>
  simp only
  split
  ·exact .inr ⟨rfl,rfl⟩
  ·cases st.at_ k with
   | none=>exact .inr ⟨rfl,rfl⟩
   | some a =>
    simp only
    split
    ·exact .inr ⟨rfl,rfl⟩
    ·cases Sx01.patch a p with
     | none=>exact .inr ⟨rfl,rfl⟩
     | some b=>exact .inl (Int.natCast_nonneg _)
 | join o a b to =>
  simp only
  split
  ·exact .inr ⟨rfl,rfl⟩
  ·cases e1:st.at_ o with
   | none=>exact .inr ⟨rfl,rfl⟩
   | some x =>
    cases e2:st.at_ a with
    | none=>exact .inr ⟨rfl,rfl⟩
    | some y =>
     cases e3:st.at_ b with
     | none=>exact .inr ⟨rfl,rfl⟩
     | some z =>
      simp only
      split
      ·exact .inr ⟨rfl,rfl⟩
      ·exact .inl (Int.natCast_nonneg _)
 | look k =>
  simp only
  split
  ·exact .inr ⟨rfl,rfl⟩
  ·cases st.at_ k with
   | none=>exact .inr ⟨rfl,rfl⟩
   | some a=>exact .inl (Int.le_refl _)
theorem AnsSp.rd {K:Fg}{c:Cs}{H H1:Hp}{p la rp:Addr}{st:Sx01.St}{y:Sx01.St×Sx01.Ans}{Q:VK}{E:XK} (A:AnsSp K c H p la rp st y Q E) (s:SB [rp] H H1) (h:∃ o,H1 rp=some o):AnsSp K c H1 p la rp st y Q E:=by
 obtain ⟨o,ho⟩:=h
 have fr:∀ l,H1 l=none→H l=none:=fun l e=>s.free (by
  have:l≠rp:=fun w=>by rw [w,ho] at e; cases e
  simpa using this) e
 exact ⟨fun h0 H' la' l D e sb hl hn=>A.q h0 H' la' l D e ((sb3 s).trans sb) (hl.imp id (fr la')) (fr l hn),fun C H' r D sb=>A.e C H' r D ((sb3 s).trans sb)⟩
section
variable {P:Program}{w:World}{K:Fg}{mg:MG}{base:Heap}{c:Cs}
abbrev sAC:Stmt:=zAK (top 62) 2
theorem scAC:FnScope ["self","reader","call"] ["self","reader"] (zAH sAC):=scm
abbrev mAS (P:Program) (w:World) (K:Fg) (mg:MG) (base:Heap) (c:Cs):Prop:=MCal P w K mg base (CXE P w) 5 c.desk "answer_sheet" ["self","reader"] (zCF K c fun x=>∃ k l r,x = .sheet k l r)
abbrev mAD (P:Program) (w:World) (K:Fg) (mg:MG) (base:Heap) (c:Cs):Prop:=MCal P w K mg base (CXE P w) 4 c.desk "answer_diff" ["self","reader"] (zCF K c fun x=>∃ j k,x = .diff j k)
abbrev mAP (P:Program) (w:World) (K:Fg) (mg:MG) (base:Heap) (c:Cs):Prop:=MCal P w K mg base (CXE P w) 7 c.desk "answer_patch" ["self","reader"] (zCF K c fun x=>∃ k to q,x = .patch k to q)
abbrev mAJ (P:Program) (w:World) (K:Fg) (mg:MG) (base:Heap) (c:Cs):Prop:=MCal P w K mg base (CXE P w) 9 c.desk "answer_join" ["self","reader"] (zCF K c fun x=>∃ o a b to,x = .join o a b to)
abbrev mAL (P:Program) (w:World) (K:Fg) (mg:MG) (base:Heap) (c:Cs):Prop:=MCal P w K mg base (CXE P w) 3 c.desk "answer_look" ["self","reader"] (zCF K c fun x=>∃ k,x = .look k)
def spAC (K:Fg) (c:Cs):Sp:=fun vs H Q E=>∃ (p la rp na:Addr) (st:Sx01.St) (x:Sx01.Call),vs=[.ref p,.ref rp]∧DeskAt K c H p la st∧RdAt c H rp na (zAd x) 0∧AskC x∧AnsSp K c H p la rp st (Sx01.does st x) Q E
theorem ok_ac {f:Addr}{fd:FuncData} (F:Fun K "answer_call" "Desk.answer_call" sAC f fd) (T:TxK K mg c) (m0:mNum P w K mg base c) (m1:mAN P w K mg base c) (m2:mAS P w K mg base c) (m3:mAD P w K mg base c) (m4:mAP P w K mg base c) (m5:mAJ P w K mg base c) (m6:mAL P w K mg base c) :
    FnOk P w K mg base (CXE P w) 10 f fd ["self","reader"] (spAC K c):=by
  refine okX F scAC (fun vs H Q E h=>?_) (fun cdv A outer s H vs Q E hr h=>?_)
  · obtain ⟨p,la,rp,na,st,x,rfl,_⟩:=h
    rfl
  · refine hide fun Gz zG=>?_
    obtain ⟨p,la,rp,na,st,x,rfl,D,R,hask,A⟩:=h
    have hr1:Room 1 _:=hr.mono (by decide)
    have hr3:Room 3 _:=hr.mono (by decide)
    have hr4:Room 4 _:=hr.mono (by decide)
    have hr5:Room 5 _:=hr.mono (by decide)
    have hr7:Room 7 _:=hr.mono (by decide)
    obtain ⟨npr,nlr⟩:=D.ne_rd R
    obtain ⟨⟨dr,hrp⟩,_⟩:=id R
    refine zG ?_; clear zG
    refine ⟨_,zAD (zAN (i:=2) scAC.nd rfl (Or.inl rfl) (em0 m0 T.clR hr1 zAU (pv 1)))
      (zAD (zAk (zAX zBn (pv 2) (eg T.new) (zAb _)) (zAF (zAQ (em0 m1 T.cl hr1 zAU (pv 0)))) zAY)
      (zAD (zAk (zAX zBn (pv 2) (eg T.sheet) (zAb _)) (zAF (zAQ (em m2 T.cl hr5 (zBQ xbody) (pv 0) (zAA (pv 1) zAE)))) zAY)
      (zAD (zAk (zAX zBn (pv 2) (eg T.diff) (zAb _)) (zAF (zAQ (em m3 T.cl hr4 (zBQ xbody) (pv 0) (zAA (pv 1) zAE)))) zAY)
      (zAD (zAk (zAX zBn (pv 2) (eg T.patch) (zAb _)) (zAF (zAQ (em m4 T.cl hr7 (zBQ xbody) (pv 0) (zAA (pv 1) zAE)))) zAY)
      (zAD (zAk (zAX zBn (pv 2) (eg T.join) (zAb _)) (zAF (zAQ (em m5 T.cl hr (zBQ xbody) (pv 0) (zAA (pv 1) zAE)))) zAY)
      (zAF (zAQ (em m6 T.cl hr3 (zBQ xbody) (pv 0) (zAA (pv 1) zAE))))))))),?_⟩
    cases x with
    | new_ =>
      refine ⟨_,rfl,rp,dr,_,rfl,hrp,(by rw [lk1,lk1]; rfl),rp,na,_,0,0,rfl,R,rfl,fun H1 R1 s1=>?_⟩
      have D1:=D.rd R s1
      have A1:=A.rd s1 (by obtain ⟨⟨_,g⟩,_⟩:=R1; exact ⟨_,g⟩)
      obtain ⟨⟨dd,hd1⟩,_,_⟩:=id D1
      refine ⟨_,rfl,rfl,_,rfl,iteT ?_⟩
      refine ⟨_,rfl,p,dd,_,rfl,hd1,(by rw [lk1]; rfl),p,la,st,rfl,D1,fun H' la' l D' e sb h1 h2=>?_⟩
      exact A1.q (Int.le_refl _) H' la' l D' e (sb.mono (fun b hb=>by rw [show b=p by simpa using hb]; simp)) (.inr h1) h2
    | sheet k l r =>
      refine ⟨_,rfl,rp,dr,_,rfl,hrp,(by rw [lk1,lk1]; rfl),rp,na,_,0,1,rfl,R,rfl,fun H1 R1 s1=>?_⟩
      have D1:=D.rd R s1
      have A1:=A.rd s1 (by obtain ⟨⟨_,g⟩,_⟩:=R1; exact ⟨_,g⟩)
      obtain ⟨⟨dd,hd1⟩,_,_⟩:=id D1
      refine ⟨_,rfl,rfl,_,rfl,iteF ⟨_,rfl,rfl,_,rfl,iteT ?_⟩⟩
      exact ⟨_,rfl,p,dd,_,rfl,hd1,(by rw [lk1]; rfl),_,rfl,p,la,rp,na,st,_,rfl,D1,R1,hask,⟨k,l,r,rfl⟩,A1⟩
    | diff j k =>
      refine ⟨_,rfl,rp,dr,_,rfl,hrp,(by rw [lk1,lk1]; rfl),rp,na,_,0,2,rfl,R,rfl,fun H1 R1 s1=>?_⟩
      have D1:=D.rd R s1
      have A1:=A.rd s1 (by obtain ⟨⟨_,g⟩,_⟩:=R1; exact ⟨_,g⟩)
      obtain ⟨⟨dd,hd1⟩,_,_⟩:=id D1
      refine ⟨_,rfl,rfl,_,rfl,iteF ⟨_,rfl,rfl,_,rfl,iteF ⟨_,rfl,rfl,_,rfl,iteT ?_⟩⟩⟩
      exact ⟨_,rfl,p,dd,_,rfl,hd1,(by rw [lk1]; rfl),_,rfl,p,la,rp,na,st,_,rfl,D1,R1,hask,⟨j,k,rfl⟩,A1⟩
    | patch k to q =>
      refine ⟨_,rfl,rp,dr,_,rfl,hrp,(by rw [lk1,lk1]; rfl),rp,na,_,0,3,rfl,R,rfl,fun H1 R1 s1=>?_⟩
      have D1:=D.rd R s1
      have A1:=A.rd s1 (by obtain ⟨⟨_,g⟩,_⟩:=R1; exact ⟨_,g⟩)
      obtain ⟨⟨dd,hd1⟩,_,_⟩:=id D1
      refine ⟨_,rfl,rfl,_,rfl,iteF ⟨_,rfl,rfl,_,rfl,iteF ⟨_,rfl,rfl,_,rfl,iteF ⟨_,rfl,rfl,_,rfl,iteT ?_⟩⟩⟩⟩
      exact ⟨_,rfl,p,dd,_,rfl,hd1,(by rw [lk1]; rfl),_,rfl,p,la,rp,na,st,_,rfl,D1,R1,hask,⟨k,to,q,rfl⟩,A1⟩
    | join o a b to =>
      refine ⟨_,rfl,rp,dr,_,rfl,hrp,(by rw [lk1,lk1]; rfl),rp,na,_,0,4,rfl,R,rfl,fun H1 R1 s1=>?_⟩
      have D1:=D.rd R s1
      have A1:=A.rd s1 (by obtain ⟨⟨_,g⟩,_⟩:=R1; exact ⟨_,g⟩)
      obtain ⟨⟨dd,hd1⟩,_,_⟩:=id D1
      refine ⟨_,rfl,rfl,_,rfl,iteF ⟨_,rfl,rfl,_,rfl,iteF ⟨_,rfl,rfl,_,rfl,iteF ⟨_,rfl,rfl,_,rfl,iteF ⟨_,rfl,rfl,_,rfl,iteT ?_⟩⟩⟩⟩⟩
      exact ⟨_,rfl,p,dd,_,rfl,hd1,(by rw [lk1]; rfl),_,rfl,p,la,rp,na,st,_,rfl,D1,R1,hask,⟨o,a,b,to,rfl⟩,A1⟩
    | look k =>
      refine ⟨_,rfl,rp,dr,_,rfl,hrp,(by rw [lk1,lk1]; rfl),rp,na,_,0,5,rfl,R,rfl,fun H1 R1 s1=>?_⟩
      have D1:=D.rd R s1
      have A1:=A.rd s1 (by obtain ⟨⟨_,g⟩,_⟩:=R1; exact ⟨_,g⟩)
      obtain ⟨⟨dd,hd1⟩,_,_⟩:=id D1
      refine ⟨_,rfl,rfl,_,rfl,iteF ⟨_,rfl,rfl,_,rfl,iteF ⟨_,rfl,rfl,_,rfl,iteF ⟨_,rfl,rfl,_,rfl,iteF ⟨_,rfl,rfl,_,rfl,iteF ?_⟩⟩⟩⟩⟩
      exact ⟨_,rfl,p,dd,_,rfl,hd1,(by rw [lk1]; rfl),_,rfl,p,la,rp,na,st,_,rfl,D1,R1,hask,⟨k,rfl⟩,A1⟩
abbrev mAC (P:Program) (w:World) (K:Fg) (mg:MG) (base:Heap) (c:Cs):Prop:=MCal P w K mg base (CXE P w) 10 c.desk "answer_call" ["self","reader"] (spAC K c)
abbrev sA:Stmt:=zAK (top 62) 1
theorem scA:FnScope ["self","reader"] ["self","reader"] (zAH sA):=scm
def spA (K:Fg) (c:Cs):Sp:=fun vs H Q _=>∃ (p la rp na:Addr) (st:Sx01.St) (x:Sx01.Call),vs=[.ref p,.ref rp]∧DeskAt K c H p la st∧RdAt c H rp na (zAd x) 0∧AskC x ∧
 ∀ H' la' l,DeskAt K c H' p la' (Sx01.does st x).1→H' l=some (.lst (((Sx01.does st x).2.v::(Sx01.does st x).2.l).map V.int))→SB [p,la,rp] H H'→(la' = la∨H la' = none)→(∀ b o,H b=some o→b≠rp→l≠b)→Q (.ref l) H'
theorem ok_a {f:Addr}{fd:FuncData} (F:Fun K "answer" "Desk.answer" sA f fd) (T:TxK K mg c) (m0:mAC P w K mg base c):FnOk P w K mg base CX0 11 f fd ["self","reader"] (spA K c):=by
 refine F.ok scA (fun vs H Q E h=>?_) (fun cdv A outer s H vs Q E hr h=>?_)
 ·obtain ⟨p,la,rp,na,st,x,rfl,_⟩:=h
  rfl
 ·refine hide fun Gz zG=>?_
  obtain ⟨p,la,rp,na,st,x,rfl,D,R,hask,k⟩:=h
  refine zG ?_; clear zG
  let neg:Int→TS:=fun n=>tRet (tLst (zBl (tUn (rU fun i=>.int (-i)) (tC (.int n))) tNil))
  refine ⟨_,zAF (ps_try (EE:=fun Cv _ H'=>∃ C,Cv = .ref C∧Refuse c (Sx01.does st x).2.v C∧DeskAt K c H' p la st∧SB [p,la,rp] H H') (c0:=⟨"NoSuchPlace",c.ePlace,_,_,[],_,neg 1⟩) (cs:=[⟨"NoSheetThere",c.eSheet,_,_,[],_,neg 2⟩,⟨"NotFitting",c.eFit,_,_,[],_,neg 3⟩,⟨"NotJoinable",c.eJoin,_,_,[],_,neg 5⟩])
   rfl rfl rfl rfl ?_ ?_ (fun pn E' hp=>em m0 T.cl hr hp (pv 0) (zAA (pv 1) zAE))),?_⟩
  ·intro d hd
   simp only [List.mem_cons,List.not_mem_nil,or_false] at hd
   rcases hd with rfl | rfl | rfl | rfl
   ·exact ⟨T.ePl,rfl,(by show (("NoSuchPlace":Str) == ("__debug__":Str))=false; decide)⟩
   ·exact ⟨T.eSh,rfl,(by show (("NoSheetThere":Str) == ("__debug__":Str))=false; decide)⟩
   ·exact ⟨T.eFi,rfl,(by show (("NotFitting":Str) == ("__debug__":Str))=false; decide)⟩
   ·exact ⟨T.eJo,rfl,(by show (("NotJoinable":Str) == ("__debug__":Str))=false; decide)⟩
  ·intro d hd ea
   simp only [List.mem_cons,List.not_mem_nil,or_false] at hd
   rcases hd with rfl | rfl | rfl | rfl <;> exact zAF (zAQ (zAo (zAA (zFA zCz zAZ) zAE)))
  ·obtain ⟨⟨dd,hd0⟩,_,_⟩:=id D
   refine ⟨⟨_,rfl,p,dd,_,rfl,hd0,(by rw [lk1]; rfl),_,rfl,p,la,rp,na,st,x,rfl,D,R,hask,?_⟩,fun C H' h=>?_⟩
   ·exact ⟨fun h0 H' la' l D' e sb hl hn=>k H' la' l D' e sb hl (fun b o e _=>(zAC e hn).symm),fun C H' r D' sb=>⟨C,rfl,r,D',sb⟩⟩
   ·obtain ⟨C,e,r,D',sb⟩:=h
    cases e
    have neq:∀ (n:Int) (σ:L2.St),n < 0→(Sx01.does st x).2.v=n→(tRet (tLst (zBl (tUn (rU fun i=>.int (-i)) (tC (.int (-n)))) tNil))) { nx:=fun _ H'=>Q .non H',rt:=Q } σ H':=by
     intro n σ hn hv
     rcases does_ref st x with w | ⟨w1,w2⟩
     ·omega
     ·refine ⟨_,rfl,(by show 1≤sizeLine; decide),fun l hl=>?_⟩
      have z:=zAJ (o:=.lst [.int (- -n)]) hl
      have D2:=D'.same z
      refine k _ la l (by rw [w1]; exact D2) (by rw [w2,hv,zAB]; show some (HO.lst [V.int (- -n)])=_; rw [Int.neg_neg]; rfl) (fun b o e nb=>z _ _ (sb _ _ e nb)) (.inl rfl) fun b o e nr=>?_
      obtain ⟨⟨dd',h1⟩,⟨vs',h2,_⟩,_⟩:=D'
      by_cases e1:b=p
      ·rw [e1]; exact (zAC h1 hl).symm
      ·by_cases e2:b=la
       ·rw [e2]; exact (zAC h2 hl).symm
       ·exact (zAC (sb b o e (by simp [e1,e2,nr])) hl).symm
    rcases r with ⟨hv,rfl⟩ | ⟨hv,rfl⟩ | ⟨hv,rfl⟩ | ⟨hv,rfl⟩
    ·exact ⟨[],_,_,rfl,by simp,T.m11,fun σ=>neq (-1) σ (by decide) hv⟩
    ·exact ⟨[_],_,_,rfl,(fun d hd=>by rw [List.mem_singleton.mp hd]; exact T.m21),T.m22,fun σ=>neq (-2) σ (by decide) hv⟩
    ·exact ⟨[_,_],_,_,rfl,(fun d hd=>by rcases List.mem_cons.mp hd with w | w; rw [w]; exact T.m31; rw [List.mem_singleton.mp w]; exact T.m32),T.m33,fun σ=>neq (-3) σ (by decide) hv⟩
    ·exact ⟨[_,_,_],_,_,rfl,(fun d hd=>by rcases List.mem_cons.mp hd with w | w; rw [w]; exact T.m41; rcases List.mem_cons.mp w with w | w; rw [w]; exact T.m42; rw [List.mem_singleton.mp w]; exact T.m43),T.m44,fun σ=>neq (-5) σ (by decide) hv⟩
abbrev mA (P:Program) (w:World) (K:Fg) (mg:MG) (base:Heap) (c:Cs):Prop:=MCal P w K mg base CX0 11 c.desk "answer" ["self","reader"] (spA K c)
end
end Sh
set_option maxHeartbeats 2000000
namespace Sh
open PySem PySem.Spec PyProof.Rows L2 ShM
section
variable {P:Program}{w:World}{K:Fg}{mg:MG}{base:Heap}{c:Cs}
theorem DeskAt.wfs {H:Hp}{p la:Addr}{st:Sx01.St} (D:DeskAt K c H p la st):∀ n s,st.at_ n=some s→WF s:=fun n s e=>by
 obtain ⟨_,⟨vs,_,h3⟩,_⟩:=D
 unfold Sx01.St.at_ at e
 cases e2:st[n.toNat]? with
 | none =>
  rw [e2] at e
  cases e
 | some s0 =>
  rw [e2] at e
  have e:s0=some s:=e
  subst e
  obtain ⟨v,_,a,_,S⟩:=zAm h3 e2
  exact S.wf
abbrev kReader (P:Program) (w:World) (K:Fg) (mg:MG) (base:Heap) (c:Cs):Prop:=KCal P w K mg base CX0 1 "Reader" c.reader ["self","numbers"] (zHV c)
theorem zEm (a b:List (List Int)):flat (a++b)=flat a++flat b:=List.flatMap_append
theorem zHK (a:List Int) (l:List (List Int)):PyFlat.told (a::l)=((a.length:Int)::a)++PyFlat.told l:=rfl
abbrev sAns:Stmt:=top 64
theorem scAns:FnScope ["calls","desk","numbers","at","begin","answer"] ["calls"] (zAH sAns):=scm
def spAns (K:Fg):Sp:=fun vs H Q _=>∃ (a:Addr) (ns:List Int),vs=[.ref a]∧SqL K H a (ns.map V.int)∧PySx01.answers_asked ns=true∧∀ (H':Hp) (q:Addr),H' q=some (.lst ((PySx01.answers ns).map V.int))→Q (.ref q) H'
def AnsInv (K:Fg) (c:Cs) (H:Hp) (a p nn:Addr) (xs:List Sx01.Call) (m:Nat) (σ:L2.St) (H':Hp):Prop:=∃ (ds rs:List Sx01.Call) (st:Sx01.St) (la:Addr) (acc:List Int) (u4 u5:Option V),m=rs.length∧xs=ds++rs∧σ=[some (.ref a),some (.ref p),some (.ref nn),some (.int ((flat (ds.map ShM.zAd)).length:Nat)),u4,u5]∧DeskAt K c H' p la st∧H la=none ∧
 H' nn=some (.lst (acc.map V.int))∧nn≠la∧acc.length≤ds.length * 1100003∧PyFlat.told (zEd Sx01.fresh xs)=acc++PyFlat.told (zEd st rs)∧Same H H'
theorem ok_ans {f:Addr}{fd:FuncData} (F:Fun K "answers" "answers" sAns f fd) (T:TxK K mg c) (k1:kDesk P w K mg base c) (k2:kReader P w K mg base c) (m1:mA P w K mg base c):FnOk P w K mg base CX0 12 f fd ["calls"] (spAns K):=by
  refine F.ok scAns (fun vs H Q E h=>?_) (fun cdv A outer s H vs Q E hr h=>?_)
  · obtain ⟨a,ns,rfl,_⟩:=h
    rfl
  · obtain ⟨a,ns,rfl,hs,hask,k⟩:=h
    obtain ⟨xs,en,x12,hxs,ean⟩:=asked_all hask
    rw [ean] at k
    have hr2:Room 2 _:=hr.mono (by decide)
    refine ⟨_,zAD (zAN (i:=1) scAns.nd rfl (Or.inl rfl) (ek0 k1 hr2 zAU))
      (zAD (zAN (i:=2) scAns.nd rfl (Or.inl rfl) (zAo zAE))
      (zAD (zAN (i:=3) scAns.nd rfl (Or.inl rfl) zAZ)
      (zAD (zGD PassesOwn.never (zAX zFD (pv 3) (zAS zAL rfl T.len zAj (zAA (pv 0) zAE)) (zAb _))
        (zAD (zAN (i:=4) scAns.nd rfl (Or.inl rfl) (zA8 zBK (pv 3) zAZ))
        (zAD (zAN (i:=3) scAns.nd rfl (Or.inl rfl) (zA8 zBK (pv 4) (zAn zAc (pv 0) (zA8 zBK (pv 3) zAZ) (fun _ _=>rfl))))
        (zAD (zAN (i:=5) scAns.nd rfl (Or.inl rfl) (em m1 T.cl hr zAU (pv 1) (zAA (ek k2 hr2 zAU (zAA (zGG zHa (pv 0) (zEc (pv 4)) (zEc (pv 3))) zAE)) zAE)))
        (zAD (zAT (zAw PySem.F.plainAttrs_list PySem.F.slot_list_append PySem.F.type_list_append zAW (pv 2) (zAA (zAS zAL rfl T.len zAj (zAA (pv 5) zAE)) zAE)))
        (zAF (zAT (zAw PySem.F.plainAttrs_list PySem.F.slot_list_extend PySem.F.type_list_extend zBc (pv 2) (zAA (pv 5) zAE)))))))))
      (zAF (zAQ (pv 2)))))),?_⟩
    intro p dp hp hdp ndp
    have z0:Same H (upd (upd H dp (.own p)) p (.ins c.desk dp [])):=(zAJ hdp).upd hp
    refine ⟨p,dp,rfl,zAB,fun H1 la D1 s1 fla1=>⟨rfl,?_⟩⟩
    have z1:Same H H1:=fun b o e=>s1 b o (z0 _ _ e) (by simpa using zAC e hp)
    have fla:H la=none:=z0.free fla1
    refine ⟨Nat.zero_le _,fun nn hnn=>?_⟩
    have fnn:H nn=none:=z1.free hnn
    refine ⟨AnsInv K c H a p nn xs,⟨_,[],xs,Sx01.fresh,la,[],none,none,rfl,rfl,rfl,D1.same (zAJ hnn),fla,zAB,?_,Nat.zero_le _,rfl,z1.upd fnn⟩,?_⟩
    · obtain ⟨_,⟨vs,h2,_⟩,_⟩:=D1
      exact (zAC h2 hnn).symm
    intro m σ H' hI
    refine hide fun Gz zG=>?_
    obtain ⟨ds,rs,st,la',acc,u4,u5,rfl,exs,rfl,D,fla',hacc,nnl,hal,htold,z⟩:=hI
    refine zG ?_; clear zG
    have hs':SqL K H' a (ns.map V.int):=z.seq hs
    have nla:ns.length=(flat (ds.map ShM.zAd)).length+(flat (rs.map ShM.zAd)).length:=by
      rw [en,exs,List.map_append,zEm,List.length_append]
    refine ⟨_,rfl,_,rfl,a,_,rfl,.inl hs',_,_,rfl,rfl,_,rfl,?_⟩
    cases rs with
    | nil =>
      rw [decide_eq_false (show ¬ (((flat (ds.map ShM.zAd)).length:Nat):Int) < (((ns.map V.int).length:Nat):Int) by rw [List.length_map,nla]; show ¬ (_:Int) < (((flat (ds.map ShM.zAd)).length+0:Nat):Int); omega)]
      refine iteF ⟨_,rfl,k H' nn ?_⟩
      rw [htold,hacc]
      simp [zEd,PyFlat.told]
    | cons x rs =>
      have fx:flat ((x::rs).map ShM.zAd)=0::((ShM.zAd x).length:Int)::(ShM.zAd x++flat (rs.map ShM.zAd)):=rfl
      have lx:(flat ((x::rs).map ShM.zAd)).length=(ShM.zAd x).length+2+(flat (rs.map ShM.zAd)).length:=by
        rw [fx,List.length_cons,List.length_cons,List.length_append]
        omega
      rw [decide_eq_true (show (((flat (ds.map ShM.zAd)).length:Nat):Int) < (((ns.map V.int).length:Nat):Int) by rw [List.length_map,nla]; omega)]
      generalize hat:(flat (ds.map ShM.zAd)).length=i at nla ⊢
      have tk:Tk ns i (0::((ShM.zAd x).length:Int)::(ShM.zAd x++flat (rs.map ShM.zAd))):=⟨[],by
        rw [en,exs,List.map_append,zEm,←hat,List.drop_left,fx,List.append_nil]⟩
      obtain ⟨t1,t2⟩:=tk.head
      obtain ⟨t3,t4⟩:=t2.head
      obtain ⟨t5,t6⟩:=t4.app
      have e5:=t5.cut (by omega)
      refine iteT ⟨AnsInv K c H a p nn xs rs.length,fun σ2 H2 h2=>⟨_,Nat.lt_succ_self _,h2⟩,?_⟩
      obtain ⟨⟨dd,hd⟩,_,_⟩:=id D
      have hix:(ns.map V.int)[i+1]? = some (V.int ((ShM.zAd x).length:Int)):=by rw [List.getElem?_map,t3]; rfl
      refine ⟨_,rfl,_,_,rfl,rfl,_,rfl,_,rfl,_,rfl,_,_,rfl,rfl,a,_,((i:Int)+1),_,rfl,rfl,hs',at_of (j:=i+1) (by omega) hix,_,_,rfl,rfl,?_⟩
      refine ⟨_,rfl,p,dd,_,rfl,hd,(by rw [lk1]; rfl),_,rfl,_,rfl,_,rfl,_,rfl,_,rfl,a,_,rfl,hs',fun q hq=>?_⟩
      have ecut:cutV (ns.map V.int) (some ((i:Int)+2)) (some ((i:Int)+2+((ShM.zAd x).length:Int)))=(ShM.zAd x).map V.int:=by
        rw [show ((i:Int)+2)=((i+1+1:Nat):Int) by omega,show (((i+1+1:Nat):Int)+((ShM.zAd x).length:Int))=((i+1+1+(ShM.zAd x).length:Nat):Int) by omega]
        exact e5
      have fq:H q=none:=z.free hq
      have zq:Same H' (upd H' q (.lst ((ShM.zAd x).map V.int))):=zAJ hq
      rw [show cutV (ns.map V.int) (some ((fun i j=>i+j) (i:Int) 2)) (some ((fun i j=>i+j) ((fun i j=>i+j) (i:Int) 2) ((ShM.zAd x).length:Int)))=(ShM.zAd x).map V.int from ecut]
      intro rp drp hrp hdrp ndrp
      have zr:Same (upd H' q (.lst ((ShM.zAd x).map V.int))) (upd (upd (upd H' q (.lst ((ShM.zAd x).map V.int))) drp (.own rp)) rp (.ins c.reader drp [])):=(zAJ hdrp).upd hrp
      refine ⟨rp,drp,q,ShM.zAd x,rfl,zAB,zr _ _ zAB,fun H3 R3 s3=>⟨rfl,?_⟩⟩
      have z3:Same H' H3:=zq.trans (fun b o e=>s3 b o (zr _ _ e) (by simpa using zAC e hrp))
      have frp:H' rp=none:=zq.free hrp
      have D3:=D.same z3
      have hn3:=z3 _ _ hacc
      refine ⟨p,la',rp,q,st,x,rfl,D3,R3,hxs x (by rw [exs]; simp),fun H4 la4 l D4 e4 s4 hla hl=>?_⟩
      have al:=ans_len st x D.wfs
      have nnp:nn≠p:=zBA hacc hd (by intro w; cases w)
      have nnr:nn≠rp:=zAC hacc frp
      have hn4:H4 nn=some (.lst (acc.map V.int)):=s4 _ _ hn3 (by simp [nnp,nnl,nnr])
      have nla4:nn≠la4:=by
        rcases hla with w | w
        · rw [w]; exact nnl
        · exact zAC hn3 w
      have fla4:H la4=none:=by
        rcases hla with w | w
        · rw [w]; exact fla'
        · exact (z.trans z3).free w
      have nln:l≠nn:=hl nn _ hn3 nnr
      have z4:Same H H4:=fun b o e=>s4 b o ((z.trans z3) _ _ e) (by
        have h1:b≠p:=zAC e hp
        have h2:b≠la':=zAC e fla'
        have h3:b≠rp:=zAC (z _ _ e) frp
        simp [h1,h2,h3])
      have h12:ds.length+(rs.length+1)≤12:=by
        have:=congrArg List.length exs
        rw [List.length_append,List.length_cons] at this
        omega
      have hm:ds.length * 1100003+1100003≤12 * 1100003:=by
        have:=Nat.mul_le_mul_right 1100003 (show ds.length+1≤12 by omega)
        omega
      generalize hans:(Sx01.does st x).2.v::(Sx01.does st x).2.l=ans at e4
      have hal2:ans.length≤1100002:=by rw [←hans,List.length_cons]; omega
      have h13:acc.length+1+ans.length≤13200036:=by omega
      refine ⟨_,rfl,.inl ⟨rfl,_,SqL.of hn4⟩,_,rfl,l,_,rfl,.inl (SqL.of e4),nn,_,_,rfl,rfl,hn4,small (m:=13200036) (by rw [List.length_map]; omega),?_⟩
      refine ⟨_,rfl,.inl ⟨rfl,_,SqL.of zAB⟩,_,rfl,nn,l,_,_,rfl,rfl,zAB,(by rw [zAG nln]; exact e4),Nat.le_of_lt (small (m:=13200036) (by rw [List.length_append,List.length_map,List.length_map]; exact h13)),?_⟩
      rw [zBh]
      obtain ⟨⟨dd4,hd4⟩,⟨vs4,hl4,hpl4⟩,f4⟩:=id D4
      refine ⟨ds++[x],rs,(Sx01.does st x).1,la4,acc++((ans.length:Int)::ans),some (.int ((i:Int)+2)),some (.ref l),rfl,(by rw [exs,List.append_assoc]; rfl),?_,?_,fla4,?_,nla4,?_,?_,z4.upd fnn⟩
      · have e7:(i:Int)+2+((ShM.zAd x).length:Int)=(((flat ((ds++[x]).map ShM.zAd)).length:Nat):Int):=by
          have e8:flat ([x].map ShM.zAd)=0::((ShM.zAd x).length:Int)::(ShM.zAd x++[]):=rfl
          rw [List.map_append,zEm,List.length_append,hat,e8,List.append_nil,List.length_cons,List.length_cons]
          omega
        rw [←e7]
        rfl
      · have ks:=ks_lst (o:=.lst (acc.map V.int++[V.int ((ans.map V.int).length:Nat)]++ans.map V.int)) hn4
        exact ⟨⟨dd4,by rw [zAG nnp.symm]; exact hd4⟩,⟨vs4,by rw [zAG nla4.symm]; exact hl4,zAr (fun v s z=>z.ks ks) hpl4⟩,f4⟩
      · rw [zAB]
        simp
      · rw [List.length_append,List.length_append,List.length_cons]
        show _≤(ds.length+1) * 1100003
        omega
      · rw [htold,zEd,zHK,hans,List.append_assoc]
end
end Sh
section
set_option maxHeartbeats 2000000
namespace L2
open PySem PySem.Spec PyProof.Rows
open PySem.W (WData Codec OpenSpec Well WellAll ReadsW ReadsAllW)
mutual
inductive Dw (K:Fg) (H:Hp):V→WData→Prop
 | non:Dw K H .non .none
 | bl (b:Bool):Dw K H (.bl b) (.bool b)
 | int (i:Int):Dw K H (.int i) (.int i)
 | str (x:Str):Dw K H (.str x) (.str x)
 | byt (b:Array UInt8):Dw K H (.byt b) (.bytes b.toList)
 | lst {a:Addr}{xs:List V}{ds:List WData}:SqL K H a xs→DwAll K H xs ds→Dw K H (.ref a) (.list ds)
 | tup {a:Addr}{xs:List V}{ds:List WData}:SqT K H a xs→DwAll K H xs ds→Dw K H (.ref a) (.tuple ds)
inductive DwAll (K:Fg) (H:Hp):List V→List WData→Prop
 | nil:DwAll K H [] []
 | cons {v:V}{vs:List V}{d:WData}{ds:List WData}:Dw K H v d→DwAll K H vs ds→DwAll K H (v::vs) (d::ds)
end
theorem dw_ints {K:Fg}{H:Hp}:∀ ns:List Int,DwAll K H (ns.map V.int) (ns.map WData.int)
 | []=>.nil
 | n::r=>.cons (.int n) (dw_ints r)
theorem ints_dw {K:Fg}{H:Hp}:∀ (ns:List Int) (xs:List V),DwAll K H xs (ns.map WData.int)→xs=ns.map V.int
 | [],xs,h=>by
  cases h
  rfl
 | n::r,xs,h=>by
  cases h with
  | cons h1 h2 =>
   cases h1
   rw [ints_dw r _ h2] <;> rfl
section
variable {P:Program}{w:World}{K:Fg}{H:Hp}{h:Heap}{R:PySem.W.WRecords}{cl:Str→Option Addr}
theorem sqL_at {a:Addr}{xs:List V} (hok:HOk P w H h) (KX:K.In h) (q:SqL K H a xs):∃ (its:List Value) (o:Obj) (n:Nat),Vals xs its∧h.get? a=some o∧o.cls = .type "list"∧o.data = .seq its.toArray n:=by
 rcases q with q | ⟨o,its,n,e,hc,_,hd,_,hv⟩
 ·obtain ⟨_,its,n,hv,e⟩:=(show ObjOk P w H h a (.lst xs) from q.ok hok)
  exact ⟨its,_,n,hv,e,rfl,rfl⟩
 ·exact ⟨its.toList,o,n,hv,KX _ _ e,hc,by simp [hd]⟩
theorem sqT_at {a:Addr}{xs:List V} (hok:HOk P w H h) (KX:K.In h) (q:SqT K H a xs):∃ (its:List Value) (o:Obj) (n:Nat),Vals xs its∧h.get? a=some o∧o.cls = .type "tuple"∧o.data = .seq its.toArray n:=by
 rcases q with q | ⟨o,its,n,e,hc,hd,_,hv⟩
 ·obtain ⟨_,its,hv,o,e,hc,n,hd⟩:=(show ObjOk P w H h a (.tup xs) from q.ok hok)
  exact ⟨its,o,n,hv,e,hc,hd⟩
 ·exact ⟨its.toList,o,n,hv,KX _ _ e,hc,by simp [hd]⟩
mutual
theorem Dw.reads (hok:HOk P w H h) (KX:K.In h):∀ (d:WData) (v:V) (u:Value),Dw K H v d→RelV v u→∃ as,ReadsW R cl h u d as
 | .none,_,_,x,r=>by
  cases x
  cases r
  exact ⟨_,ReadsW.none⟩
 | .bool b,_,_,x,r=>by
  cases x
  cases r
  exact ⟨_,ReadsW.bool b⟩
 | .int i,_,_,x,r=>by
  cases x
  obtain ⟨t,rfl⟩:=r
  exact ⟨_,ReadsW.int i t⟩
 | .str s,_,_,x,r=>by
  cases x
  obtain ⟨t,rfl⟩:=r
  exact ⟨_,ReadsW.str s t⟩
 | .bytes b,_,_,x,r=>by
  cases x
  obtain ⟨t,rfl⟩:=r
  exact ⟨_,ReadsW.bytes _ t⟩
 | .list ds,_,_,x,r=>by
  cases x with
  | lst hs ha =>
   cases r
   obtain ⟨its,o,n,rv,ho,hc,hd⟩:=sqL_at hok KX hs
   obtain ⟨as,hr⟩:=Dw.readsAll hok KX ds _ its ha rv
   exact ⟨_,ReadsW.list ho hc hd hr⟩
 | .tuple ds,_,_,x,r=>by
  cases x with
  | tup hs ha =>
   cases r
   obtain ⟨its,o,n,rv,ho,hc,hd⟩:=sqT_at hok KX hs
   obtain ⟨as,hr⟩:=Dw.readsAll hok KX ds _ its ha rv
   exact ⟨_,ReadsW.tuple ho hc hd hr⟩
 | .float _,_,_,x,_=>by cases x
 | .dict _,_,_,x,_=>by cases x
 | .bytearray _,_,_,x,_=>by cases x
 | .set _,_,_,x,_=>by cases x
 | .frozenset _,_,_,x,_=>by cases x
 | .obj _ _,_,_,x,_=>by cases x
theorem Dw.readsAll (hok:HOk P w H h) (KX:K.In h):∀ (ds:List WData) (vs:List V) (us:List Value),DwAll K H vs ds→Vals vs us→∃ as,ReadsAllW R cl h us ds as
 | [],_,_,x,r=>by
  cases x
  cases r
  exact ⟨_,ReadsAllW.nil⟩
 | d::ds,_,_,x,r=>by
  cases x with
  | cons h1 h2 =>
   cases r with
   | cons r1 r2 =>
    obtain ⟨as,q1⟩:=Dw.reads hok KX d _ _ h1 r1
    obtain ⟨bs,q2⟩:=Dw.readsAll hok KX ds _ _ h2 r2
    exact ⟨_,ReadsAllW.cons q1 q2⟩
end
end
mutual
def plW:WData→Bool
 | .none=>true
 | .bool _=>true
 | .int _=>true
 | .str _=>true
 | .bytes _=>true
 | .list xs=>plWs xs
 | .tuple xs=>plWs xs
 | _=>false
def plWs:List WData→Bool
 | []=>true
 | x::r=>plW x && plWs r
end
theorem zGF {α:Type}{f:α→WData} (h:∀ a,plW (f a)=true):∀ l:List α,plWs (l.map f)=true
 | []=>rfl
 | x::r=>by
  show (plW (f x) && plWs (r.map f))=true
  rw [h x,zGF h r] <;> rfl
theorem zC7:∀ (c:Codec) (a:c.denote),plW (c.enc a)=true
 | .unit,_=>rfl
 | .bool,_=>rfl
 | .int _ _,_=>rfl
 | .nat _ _,_=>rfl
 | .u8,_=>rfl
 | .bytes _ _,_=>rfl
 | .text _ _ _ _,_=>rfl
 | .list _ _ c,a=>zGF (fun x=>zC7 c x) a
 | .pair c d,a=>by
  show (plW (c.enc a.1) && (plW (d.enc a.2) && true))=true
  rw [zC7 c a.1,zC7 d a.2] <;> rfl
 | .triple c d e,a=>by
  show (plW (c.enc a.1) && (plW (d.enc a.2.1) && (plW (e.enc a.2.2) && true)))=true
  rw [zC7 c a.1,zC7 d a.2.1,zC7 e a.2.2] <;> rfl
 | .option c,none=>rfl
 | .option c,some x=>zC7 c x
theorem zE6:∀ (cs:List Codec) (a:Codec.denoteAll cs),plWs (Codec.encAll cs a)=true
 | [],_=>rfl
 | c::cs,a=>by
  show (plW (c.enc a.1) && plWs (Codec.encAll cs a.2))=true
  rw [zC7 c a.1,zE6 cs a.2] <;> rfl
theorem zCm:∀ {xs:List WData}{d:WData},d∈xs→d.weight≤WData.weightAll xs
 | [],d,h=>absurd h (by simp)
 | x::r,d,h=>by
  show d.weight≤x.weight+1+WData.weightAll r
  rcases List.mem_cons.mp h with e | m
  ·rw [e]
   omega
  ·have z:=zCm m
   omega
def toV:Value→V
 | .none=>.non
 | .bool b=>.bl b
 | .int i _=>.int i
 | .str x _=>.str x
 | .bytes b _=>.byt b
 | .ref a=>.ref a
 | _=>.non
def OkU (A:List Addr):Value→Prop
 | .none=>True
 | .bool _=>True
 | .int _ _=>True
 | .str _ _=>True
 | .bytes _ _=>True
 | .ref a=>a∈A
 | _=>False
theorem OkU.mono {A B:List Addr} (h:∀ a∈A,a∈B):∀ {u:Value},OkU A u→OkU B u:=fun {u} x=>by
 cases u with
 | ref a=>exact h a x
 | none=>trivial
 | bool b=>trivial
 | int i t=>trivial
 | str s t=>trivial
 | bytes b t=>trivial
 | _=>exact False.elim x
theorem relV_toV {A:List Addr}{u:Value} (x:OkU A u):RelV (toV u) u:=by
 cases u with
 | ref a=>rfl
 | none=>rfl
 | bool b=>rfl
 | int i t=>exact ⟨t,rfl⟩
 | str s t=>exact ⟨t,rfl⟩
 | bytes b t=>exact ⟨t,rfl⟩
 | _=>exact False.elim x
theorem zCA {A:List Addr}:∀ {vs:List Value},(∀ u∈vs,OkU A u)→Vals (vs.map toV) vs
 | [],_=>.nil
 | u::r,h=>.cons (relV_toV (h u (List.mem_cons_self ..))) (zCA fun x hx=>h x (List.mem_cons_of_mem _ hx))
def ArgOb (h:Heap) (A:List Addr) (a:Addr):Prop:=∃ vs:List Value,vs.length≤sizeLine∧(∀ u∈vs,OkU A u) ∧
 (h.get? a=some { cls:=.type "list",data:=.seq vs.toArray }∨h.get? a=some { cls:=.type "tuple",data:=.seq vs.toArray })
theorem ArgOb.mono {h:Heap}{A B:List Addr}{a:Addr} (k:∀ a∈A,a∈B) (x:ArgOb h A a):ArgOb h B a:=by
 obtain ⟨vs,h1,h2,h3⟩:=x
 exact ⟨vs,h1,fun u hu=>(h2 u hu).mono k,h3⟩
theorem zBr {P:Params}{h:Heap}:∀ {vs:List Value}{ds:List WData},WellAll P h vs ds→vs.length=ds.length
 | _,_,.nil=>rfl
 | _,_,.cons _ b=>by
  show _+1=_+1
  rw [zBr b]
theorem zEu {P:Params}{h:Heap}{v:Value}{ds:List WData} (x:Well P h v (.list ds)):∃ (a:Addr) (vs:List Value),v = .ref a∧h.get? a=some { cls:=.type "list",data:=.seq vs.toArray }∧WellAll P h vs ds:=by
 cases x with
 | list ho hall=>exact ⟨_,_,rfl,ho,hall⟩
theorem zDx {P:Params}{h:Heap}{v:Value}{ds:List WData} (x:Well P h v (.tuple ds)):∃ (a:Addr) (vs:List Value),v = .ref a∧h.get? a=some { cls:=.type "tuple",data:=.seq vs.toArray }∧WellAll P h vs ds:=by
 cases x with
 | tuple ho hall=>exact ⟨_,_,rfl,ho,hall⟩
theorem zEv {P:Params}{h:Heap}{us:List Value}{d:WData}{ds:List WData} (x:WellAll P h us (d::ds)):∃ (v:Value) (vs:List Value),us=v::vs∧Well P h v d∧WellAll P h vs ds:=by
 cases x with
 | cons a b=>exact ⟨_,_,rfl,a,b⟩
theorem line_of {n:Nat} (h:n≤1048576):n≤sizeLine:=Nat.le_trans h (by decide)
section
variable {P:Params}{h:Heap}
mutual
theorem area_one:∀ (d:WData) (v:Value),Well P h v d→plW d=true→d.weight≤1048576→∃ A:List Addr,OkU A v∧∀ a∈A,ArgOb h A a
 | .none,_,x,_,_=>by
  cases x
  exact ⟨[],trivial,fun a m=>absurd m (by simp)⟩
 | .bool b,_,x,_,_=>by
  cases x
  exact ⟨[],trivial,fun a m=>absurd m (by simp)⟩
 | .int i,_,x,_,_=>by
  cases x
  exact ⟨[],trivial,fun a m=>absurd m (by simp)⟩
 | .str s,_,x,_,_=>by
  cases x
  exact ⟨[],trivial,fun a m=>absurd m (by simp)⟩
 | .bytes b,_,x,_,_=>by
  cases x
  exact ⟨[],trivial,fun a m=>absurd m (by simp)⟩
 | .list ds,_,x,p,z=>by
  obtain ⟨a,vs,rfl,ho,hall⟩:=zEu x
  have z2:WData.weightAll ds≤1048576:=z
  obtain ⟨A,h1,h2⟩:=zDN ds _ hall p fun d hd=>Nat.le_trans (zCm hd) z2
  have k:∀ b∈A,b∈a::A:=fun b hb=>List.mem_cons_of_mem _ hb
  refine ⟨a::A,List.mem_cons_self ..,fun b hb=>?_⟩
  rcases List.mem_cons.mp hb with e | m
  ·rw [e]
   exact ⟨vs,line_of (by rw [zBr hall]; exact Nat.le_trans (PySem.W.length_le_weightAllW ds) z2),fun u hu=>(h1 u hu).mono k,.inl ho⟩
  ·exact (h2 b m).mono k
 | .tuple ds,_,x,p,z=>by
  obtain ⟨a,vs,rfl,ho,hall⟩:=zDx x
  have z2:WData.weightAll ds≤1048576:=z
  obtain ⟨A,h1,h2⟩:=zDN ds _ hall p fun d hd=>Nat.le_trans (zCm hd) z2
  have k:∀ b∈A,b∈a::A:=fun b hb=>List.mem_cons_of_mem _ hb
  refine ⟨a::A,List.mem_cons_self ..,fun b hb=>?_⟩
  rcases List.mem_cons.mp hb with e | m
  ·rw [e]
   exact ⟨vs,line_of (by rw [zBr hall]; exact Nat.le_trans (PySem.W.length_le_weightAllW ds) z2),fun u hu=>(h1 u hu).mono k,.inr ho⟩
  ·exact (h2 b m).mono k
 | .float _,_,_,p,_=>Bool.noConfusion (show false=true from p)
 | .dict _,_,_,p,_=>Bool.noConfusion (show false=true from p)
 | .bytearray _,_,_,p,_=>Bool.noConfusion (show false=true from p)
 | .set _,_,_,p,_=>Bool.noConfusion (show false=true from p)
 | .frozenset _,_,_,p,_=>Bool.noConfusion (show false=true from p)
 | .obj _ _,_,_,p,_=>Bool.noConfusion (show false=true from p)
theorem zDN:∀ (ds:List WData) (vs:List Value),WellAll P h vs ds→plWs ds=true→(∀ d∈ds,d.weight≤1048576)→∃ A:List Addr,(∀ u∈vs,OkU A u)∧∀ a∈A,ArgOb h A a
 | [],_,x,_,_=>by
  cases x
  exact ⟨[],fun u m=>absurd m (by simp),fun a m=>absurd m (by simp)⟩
 | d::ds,_,x,p,z=>by
  obtain ⟨v,vs,rfl,x1,x2⟩:=zEv x
  have q:plW d=true∧plWs ds=true:=Bool.and_eq_true_iff.mp p
  obtain ⟨A,a1,a2⟩:=area_one d v x1 q.1 (z d (List.mem_cons_self ..))
  obtain ⟨B,b1,b2⟩:=zDN ds vs x2 q.2 fun e he=>z e (List.mem_cons_of_mem _ he)
  have kA:∀ b∈A,b∈A++B:=fun b hb=>List.mem_append.mpr (.inl hb)
  have kB:∀ b∈B,b∈A++B:=fun b hb=>List.mem_append.mpr (.inr hb)
  refine ⟨A++B,fun u hu=>?_,fun b hb=>?_⟩
  ·rcases List.mem_cons.mp hu with e | m
   ·rw [e]
    exact a1.mono kA
   ·exact (b1 u m).mono kB
  ·rcases List.mem_append.mp hb with m | m
   ·exact (a2 b m).mono kA
   ·exact (b2 b m).mono kB
end
end
def hoOf (o:Obj):Option HO:=match o.data with
 | .seq vs _=>if (o.cls == Value.type "list")=true then some (.frz o (.lst (vs.toList.map toV))) else some (.frz o (.tup (vs.toList.map toV)))
 | _=>none
def argH (K:Fg) (h:Heap) (A:List Addr):Hp:=fun b=>if b∈A then (if (K.lookup b).isNone=true then (h.get? b).bind hoOf else none) else none
def OnlyF (H:Hp):Prop:=∀ b,H b=none∨∃ o u,H b=some (.frz o u)
theorem zGe (vs:List Value):hoOf { cls:=.type "list",data:=.seq vs.toArray }=some (.frz { cls:=.type "list",data:=.seq vs.toArray } (.lst (vs.map toV))):=by
 show (if (Value.type "list" == Value.type "list")=true then some (HO.frz { cls:=.type "list",data:=.seq vs.toArray } (.lst (vs.toArray.toList.map toV))) else some (HO.frz { cls:=.type "list",data:=.seq vs.toArray } (.tup (vs.toArray.toList.map toV))))=_
 rw [if_pos (beq_self_eq_true _)]
theorem zGd (vs:List Value):hoOf { cls:=.type "tuple",data:=.seq vs.toArray }=some (.frz { cls:=.type "tuple",data:=.seq vs.toArray } (.tup (vs.map toV))):=by
 show (if (Value.type "tuple" == Value.type "list")=true then some (HO.frz { cls:=.type "tuple",data:=.seq vs.toArray } (.lst (vs.toArray.toList.map toV))) else some (HO.frz { cls:=.type "tuple",data:=.seq vs.toArray } (.tup (vs.toArray.toList.map toV))))=_
 rw [if_neg (by decide)]
section
variable {P:Program}{w:World}{K:Fg}{h:Heap}{A:List Addr}
theorem zEt {b:Addr}{o:Obj} (hb:b∈A) (hk:K.lookup b=none) (e:h.get? b=some o):argH K h A b=hoOf o:=by
 unfold argH
 rw [if_pos hb,hk,if_pos (show (none:Option Obj).isNone=true from rfl),e] <;> rfl
theorem of_argH {b:Addr}{u:HO} (q:argH K h A b=some u):b∈A∧K.lookup b=none:=by
 unfold argH at q
 by_cases hb:b∈A
 ·rw [if_pos hb] at q
  cases hk:K.lookup b with
  | none=>exact ⟨hb,rfl⟩
  | some o =>
   rw [hk,if_neg (by simp)] at q
   cases q
 ·rw [if_neg hb] at q
  cases q
theorem zEs (ar:∀ a∈A,ArgOb h A a) {b:Addr}{u:HO} (q:argH K h A b=some u):K.lookup b=none∧∃ vs:List Value,vs.length≤sizeLine∧(∀ u∈vs,OkU A u) ∧
    ((h.get? b=some { cls:=.type "list",data:=.seq vs.toArray }∧u = .frz { cls:=.type "list",data:=.seq vs.toArray } (.lst (vs.map toV))) ∨
     (h.get? b=some { cls:=.type "tuple",data:=.seq vs.toArray }∧u = .frz { cls:=.type "tuple",data:=.seq vs.toArray } (.tup (vs.map toV)))):=by
  obtain ⟨hb,hk⟩:=of_argH q
  obtain ⟨vs,h1,h2,h3⟩:=ar b hb
  refine ⟨hk,vs,h1,h2,?_⟩
  rcases h3 with e | e
  · rw [zEt hb hk e,zGe] at q
    exact .inl ⟨e,(Option.some.inj q).symm⟩
  · rw [zEt hb hk e,zGd] at q
    exact .inr ⟨e,(Option.some.inj q).symm⟩
theorem argH_only (ar:∀ a∈A,ArgOb h A a):OnlyF (argH K h A):=fun b=>by
 cases q:argH K h A b with
 | none=>exact .inl rfl
 | some u =>
  obtain ⟨_,vs,_,_,⟨_,e⟩ | ⟨_,e⟩⟩:=zEs ar q
  ·exact .inr ⟨_,_,by rw [e]⟩
  ·exact .inr ⟨_,_,by rw [e]⟩
theorem argH_ok (ar:∀ a∈A,ArgOb h A a):HOk P w (argH K h A) h:=fun b u q=>by
 obtain ⟨_,vs,h1,h2,⟨e,rfl⟩ | ⟨e,rfl⟩⟩:=zEs ar q
 ·exact ⟨e,by rw [List.length_map]; exact h1,vs,_,zCA h2,e⟩
 ·exact ⟨e,by rw [List.length_map]; exact h1,vs,zCA h2,_,e,rfl,_,rfl⟩
theorem zEW {c c':Value}{vs us:List Value} (e:(some { cls:=c,data:=.seq vs.toArray }:Option Obj)=some { cls:=c',data:=.seq us.toArray }):c=c'∧vs=us:=by
 have e1:=Option.some.inj e
 have e2:c=c':=congrArg Obj.cls e1
 have e3:Data.seq vs.toArray=Data.seq us.toArray:=congrArg Obj.data e1
 injection e3 with e4
 refine ⟨e2,?_⟩
 have e5:=congrArg Array.toList e4
 simpa using e5
theorem argL (KX:K.In h) (ar:∀ a∈A,ArgOb h A a) {a:Addr}{vs:List Value} (ha:a∈A) (e:h.get? a=some { cls:=.type "list",data:=.seq vs.toArray }):(∀ u∈vs,OkU A u)∧SqL K (argH K h A) a (vs.map toV):=by
 obtain ⟨us,h1,h2,h3⟩:=ar a ha
 have hu:us=vs:=by
  rcases h3 with q | q
  ·rw [e] at q
   exact (zEW q).2.symm
  ·rw [e] at q
   exact absurd (Value.type.inj (zEW q).1) (by decide)
 subst hu
 refine ⟨h2,?_⟩
 cases hk:K.lookup a with
 | none=>exact .inl (.inr ⟨_,by rw [zEt ha hk e,zGe]⟩)
 | some o =>
  have e2:=KX a o hk
  rw [e] at e2
  obtain rfl:=Option.some.inj e2
  exact .inr ⟨_,us.toArray,_,hk,rfl,rfl,rfl,by rw [List.size_toArray]; exact h1,by simpa using zCA h2⟩
theorem argT (KX:K.In h) (ar:∀ a∈A,ArgOb h A a) {a:Addr}{vs:List Value} (ha:a∈A) (e:h.get? a=some { cls:=.type "tuple",data:=.seq vs.toArray }):(∀ u∈vs,OkU A u)∧SqT K (argH K h A) a (vs.map toV):=by
 obtain ⟨us,h1,h2,h3⟩:=ar a ha
 have hu:us=vs:=by
  rcases h3 with q | q
  ·rw [e] at q
   exact absurd (Value.type.inj (zEW q).1) (by decide)
  ·rw [e] at q
   exact (zEW q).2.symm
 subst hu
 refine ⟨h2,?_⟩
 cases hk:K.lookup a with
 | none=>exact .inl (.inr ⟨_,by rw [zEt ha hk e,zGd]⟩)
 | some o =>
  have e2:=KX a o hk
  rw [e] at e2
  obtain rfl:=Option.some.inj e2
  exact .inr ⟨_,us.toArray,_,hk,rfl,rfl,by rw [List.size_toArray]; exact h1,by simpa using zCA h2⟩
mutual
theorem dw_one {Pm:Params} (KX:K.In h) (ar:∀ a∈A,ArgOb h A a):∀ (d:WData) (v:Value),Well Pm h v d→plW d=true→OkU A v→Dw K (argH K h A) (toV v) d
 | .none,_,x,_,_=>by
  cases x
  exact .non
 | .bool b,_,x,_,_=>by
  cases x
  exact .bl b
 | .int i,_,x,_,_=>by
  cases x
  exact .int i
 | .str s,_,x,_,_=>by
  cases x
  exact .str s
 | .bytes b,_,x,_,_=>by
  cases x
  have z:=Dw.byt (K:=K) (H:=argH K h A) b.toArray
  exact z
 | .list ds,_,x,p,hu=>by
  obtain ⟨a,vs,rfl,ho,hall⟩:=zEu x
  obtain ⟨h2,hs⟩:=argL KX ar hu ho
  exact .lst hs (zGh KX ar ds _ hall p h2)
 | .tuple ds,_,x,p,hu=>by
  obtain ⟨a,vs,rfl,ho,hall⟩:=zDx x
  obtain ⟨h2,hs⟩:=argT KX ar hu ho
  exact .tup hs (zGh KX ar ds _ hall p h2)
 | .float _,_,_,p,_=>Bool.noConfusion (show false=true from p)
 | .dict _,_,_,p,_=>Bool.noConfusion (show false=true from p)
 | .bytearray _,_,_,p,_=>Bool.noConfusion (show false=true from p)
 | .set _,_,_,p,_=>Bool.noConfusion (show false=true from p)
 | .frozenset _,_,_,p,_=>Bool.noConfusion (show false=true from p)
 | .obj _ _,_,_,p,_=>Bool.noConfusion (show false=true from p)
theorem zGh {Pm:Params} (KX:K.In h) (ar:∀ a∈A,ArgOb h A a):∀ (ds:List WData) (vs:List Value),WellAll Pm h vs ds→plWs ds=true→(∀ u∈vs,OkU A u)→DwAll K (argH K h A) (vs.map toV) ds
 | [],_,x,_,_=>by
  cases x
  exact .nil
 | d::ds,_,x,p,hu=>by
  obtain ⟨v,vs,rfl,x1,x2⟩:=zEv x
  have q:plW d=true∧plWs ds=true:=Bool.and_eq_true_iff.mp p
  exact .cons (dw_one KX ar d v x1 q.1 (hu _ (List.mem_cons_self ..))) (zGh KX ar ds vs x2 q.2 fun u m=>hu u (List.mem_cons_of_mem _ m))
end
end
theorem zHQ {P:Program}{w:World}{K:Fg}{mg mb:MG}{CX:CXT}{k:Nat}{fa:Addr}{fd:FuncData}{ps:List Str}{sp:Sp}{s₁:Shared}{vals:List Value}{ds:List WData}{R:PySem.W.WRecords}{cl:Str→Option Addr}{d0:WData}
  (KX:K.In s₁.heap) (hns:s₁.heap.Ns mainGlobals mg) (hb:s₁.heap.Ns builtinsNs mb) (hbb:∀ x:Str,x≠"__name__"→mb x=bootBuiltins x) (hlim:s₁.heap.NoLimit) (hg:s₁.gens = #[])
  (hwl:WellAll w.params s₁.heap vals ds) (hpl:plWs ds=true) (hwt:∀ d∈ds,d.weight≤1048576) (hr:Room k callerA)
  (F:∀ base:Heap,K.In base→base.Ns mainGlobals mg→FnOk P w K mg base CX k fa fd ps sp) (hbind:∀ (s:Shared) (us:List Value),us.length=ps.length→BindsTo s fd ⟨us,[]⟩ (ps.zip us)) (hlen:ds.length=ps.length)
  (hsp:∀ (H:Hp) (xs:List V),OnlyF H→DwAll K H xs ds→sp xs H (fun v H'=>Dw K H' v d0) fun _ _ _=>False)
  (hCX:∀ H e s',CX [] H s₁ (fun _ _ _=>False) e s'→False) :
  codeAny (model P w) callerA (.call (.ref fa) ⟨vals,[]⟩) (fun r s'=>∃ u as,r = .ok (.ret u)∧ReadsW R cl s'.heap u d0 as∧OldK s₁.heap s'.heap∧s'.os=s₁.os∧AllBare s'.gens) s₁:=by
 obtain ⟨A,ho,ar⟩:=zDN ds vals hwl hpl hwt
 have hO:OnlyF (argH K s₁.heap A):=argH_only ar
 have hok:HOk P w (argH K s₁.heap A) s₁.heap:=argH_ok ar
 have hS:=zGh KX ar ds vals hwl hpl ho
 have hV:=zCA ho
 have hK:∀ b u,argH K s₁.heap A b=some u→K.lookup b=none:=fun b u q=>(zEs ar q).1
 have noA:∀ {b:Addr}{o:Obj}{es:Array DictEntry}{ep:Nat},s₁.heap.get? b=some o→o.data = .dict es ep→argH K s₁.heap A b=none:=fun {b o es ep} e d=>by
  cases q:argH K s₁.heap A b with
  | none=>rfl
  | some u =>
   obtain ⟨_,vs,_,_,⟨e2,_⟩ | ⟨e2,_⟩⟩:=zEs ar q
   ·rw [e2] at e
    cases e
    have d':Data.seq vs.toArray _=Data.dict es ep:=d
    cases d'
   ·rw [e2] at e
    cases e
    have d':Data.seq vs.toArray _=Data.dict es ep:=d
    cases d'
 generalize argH K s₁.heap A=H at hO hok hS hK noA
 have base_of:∀ {b:Addr}{o:Obj},s₁.heap.get? b=some o→H b=none→(hidT s₁.heap H).get? b=some o:=fun e n=>hidT_get e n
 have nsK:∀ {b:Addr}{m:MG},s₁.heap.Ns b m→(hidT s₁.heap H).Ns b m:=fun {b m} ⟨o,es,ep,e,d,r⟩=>⟨o,es,ep,base_of e (noA e d),d,r⟩
 have nK:∀ b o,K.lookup b=some o→H b=none:=fun b o e=>by
  cases q:H b with
  | none=>rfl
  | some u =>
   rw [hK b u q] at e
   cases e
 have hKb:K.In (hidT s₁.heap H):=fun b o e=>base_of (KX b o e) (nK b o e)
 have hM:Mod K mg (hidT s₁.heap H):=⟨hKb,nsK hns,⟨mb,nsK hb,hbb⟩,let ⟨mc,h1,h2⟩:=hlim; ⟨mc,nsK h1,h2⟩⟩
 have e0:Env0 P w K mg (hidT s₁.heap H) callerA [] s₁ H:=⟨rfl,hM,fun b o e=>of_hidT e,Nat.le_of_eq (hidT_size _ _),trivial,fun b hb=>absurd (show b∈([]:List Addr) from hb) (by simp),hok,.of_eq hg⟩
 have hl:vals.length=ps.length:=by rw [zBr hwl]; exact hlen
 refine codeAny_mono ((F _ hKb (nsK hns)).run callerA [] s₁ H ⟨vals,[]⟩ vals (vals.map toV) _ _ hr e0 (hbind s₁ vals hl) hV (hsp H _ hO hS)) fun r s' x=>?_
 cases r with
 | error e=>exact (hCX H e s' x).elim
 | ok fl =>
  cases fl with
  | next=>exact False.elim x
  | brk=>exact False.elim x
  | cont=>exact False.elim x
  | ret u =>
   obtain ⟨v,H',os,bare,un,hok',r',q⟩:=x
   have kept:∀ b o,s₁.heap.get? b=some o→s'.heap.get? b=some o:=fun b o e=>by
    cases q2:H b with
    | none=>exact un.keep b o e q2 (by intro z; exact absurd (show b∈([]:List Addr) from z) (by simp)) (by simp)
    | some u2 =>
     rcases hO b with z | ⟨ob,u3,z⟩
     ·rw [q2] at z
      cases z
     ·have z2:=un.frzs b ob _ z
      obtain ⟨e1,_⟩:=hok b _ z
      obtain ⟨e2,_⟩:=hok' b _ z2
      rw [e] at e1
      cases e1
      exact e2
   have KX':K.In s'.heap:=fun b o e=>kept b o (KX b o e)
   obtain ⟨as,hrd⟩:=Dw.reads (R:=R) (cl:=cl) hok' KX' d0 v u q r'
   exact ⟨u,as,rfl,hrd,OldK.of_keep kept,os,bare⟩
theorem zDt {ds:List WData} (h:WData.layableAll ds=true):∀ d∈ds,d.weight≤1048576:=fun d hd =>
 (PySem.W.layableW_iff.mp (List.all_eq_true.mp h d hd)).2.2
theorem zEF:∀ (cs:List Codec) (a:Codec.denoteAll cs),(Codec.encAll cs a).length=cs.length
 | [],_=>rfl
 | c::cs,a=>by
  show (Codec.encAll cs a.2).length+1=cs.length+1
  rw [zEF cs a.2]
theorem zHI {r:OpenSpec}{k:Nat}{q:Program}{loose:List Str}{XP:(MG)→Heap→Prop}{YP:World→Heap→Prop}{d:DefRec}{K:Params→Fg}{CX:World→CXT}{ps:List Str}{sp:World→Sp}
    (hwell:r.wellSaid=true) (hdf:d.params.defaults=[]) (hlen:r.args.length=ps.length) (hr:Room k callerA)
    (hY:∀ (w:World) (h:Heap),YP w h→(K w.params).In h)
    (F:∀ (w:World) (mg:MG) (fa:Addr) (h:Heap),YP w h→(K w.params).In h→h.Ns mainGlobals mg→mg d.name=some (.ref fa) →
      ∃ fd:FuncData,(∀ (s:Shared) (us:List Value),us.length=ps.length→BindsTo s fd ⟨us,[]⟩ (ps.zip us)) ∧
        ∀ base:Heap,(K w.params).In base→base.Ns mainGlobals mg→FnOk r.prog w (K w.params) mg base (CX w) k fa fd ps (sp w))
    (hsp:∀ (w:World) (H:Hp) (xs:List V) (a:Codec.denoteAll r.args),OnlyF H→Codec.withinAll r.args a=true→Codec.app r.args r.asked a=true→DwAll (K w.params) H xs (Codec.encAll r.args a) →
      sp w xs H (fun v H'=>Dw (K w.params) H' v (r.ret.enc (Codec.app r.args r.f a))) fun _ _ _=>False)
    (hCX:∀ (w:World) (H:Hp) (s:Shared) (e:Value) (s':Shared),CX w [] H s (fun _ _ _=>False) e s'→False) :
    PySem.W.WalkOS q loose XP YP r d [] (fun f vs=>PySem.call f vs):=by
  intro w s_0 s₁ mg mb G Y fa o pm cd doc dV kV ho hd hcd hD hmg hg args vals as hpre hlay hrd hwl hlo
  obtain ⟨a,e1,e2⟩:=PySem.W.os_pre_some hpre
  obtain ⟨e3,hwi⟩:=Codec.encAll_of_decAll r.args args a e1
  subst e3
  have KX:=hY w _ Y
  obtain ⟨fd,hb,hF⟩:=F w mg fa _ Y KX G.T.g hmg
  refine PySem.W.enter_call (codeAny_mono (zHQ (R:=[]) (cl:=classAt s_0.heap) (d0:=r.ret.enc (Codec.app r.args r.f a)) KX G.T.g G.T.b G.T.builtins G.T.nolimit hg hwl (zE6 _ _) (zDt hlay) hr hF hb (by rw [zEF]; exact hlen)
    (fun H xs hO hS=>hsp w H xs a hO hwi e2 hS) fun H e s'=>hCX w H s₁ e s') fun r' s' hq=>?_)
  obtain ⟨u,as',rfl,h1,h2,h3,h4⟩:=hq
  exact ⟨.inl ⟨u,_,as',rfl,fun _=>rfl,h1,(OpenSpec.post_iff hwell hwi _ _).mpr rfl,fun z=>Bool.noConfusion (show false=true from z)⟩,h2,h3,h4⟩
theorem zGr {r:OpenSpec}{k:Nat}{q:Program}{loose:List Str}{XP:(MG)→Heap→Prop}{YP:World→Heap→Prop}{d:DefRec}{K:Params→Fg}{CX:CXT}{ps:List Str}{sp:Fg→Sp}
    (hwell:r.wellSaid=true) (hdf:d.params.defaults=[]) (hlen:r.args.length=ps.length) (hr:Room k callerA)
    (hY:∀ (w:World) (h:Heap),YP w h→(K w.params).In h)
    (F:∀ (w:World) (mg:MG) (fa:Addr) (h:Heap),YP w h→(K w.params).In h→h.Ns mainGlobals mg→mg d.name=some (.ref fa) →
      ∃ fd:FuncData,(∀ (s:Shared) (us:List Value),us.length=ps.length→BindsTo s fd ⟨us,[]⟩ (ps.zip us)) ∧
        ∀ base:Heap,(K w.params).In base→base.Ns mainGlobals mg→FnOk r.prog w (K w.params) mg base CX k fa fd ps (sp (K w.params)))
    (hsp:∀ (K:Fg) (H:Hp) (xs:List V) (a:Codec.denoteAll r.args),OnlyF H→Codec.withinAll r.args a=true→Codec.app r.args r.asked a=true→DwAll K H xs (Codec.encAll r.args a) →
      sp K xs H (fun v H'=>Dw K H' v (r.ret.enc (Codec.app r.args r.f a))) fun _ _ _=>False)
    (hCX:∀ (H:Hp) (s:Shared) (e:Value) (s':Shared),CX [] H s (fun _ _ _=>False) e s'→False) :
    PySem.W.WalkOS q loose XP YP r d [] (fun f vs=>PySem.call f vs) :=
  zHI (K:=K) (CX:=fun _=>CX) (sp:=fun w=>sp (K w.params)) hwell hdf hlen hr hY F (fun w H xs a h1 h2 h3 h4=>hsp (K w.params) H xs a h1 h2 h3 h4) fun _ H s e s'=>hCX H s e s'
end L2
end
set_option maxHeartbeats 2000000
namespace Sh
open PySem PySem.Spec PyProof.Rows L2 ShM
section
variable {P:Program}{w:World}{K:Fg}{mg:MG}{base h:Heap}{CX:CXT}{k:Nat}{C:Addr}{x q:Str}{st:Stmt}{ps:List Str}{sp:Sp}
structure FG (K:Fg) (mg:MG) (x:Str) (st:Stmt):Prop where
 ex:∃ f fd,mg x=some (.ref f)∧Fun K x x st f fd
structure FM (K:Fg) (C:Addr) (x q:Str) (st:Stmt):Prop where
 ex:∃ f fd,Meth K C x f∧Fun K x q st f fd
structure FK (K:Fg) (mg:MG) (x q:Str) (C:Addr) (st:Stmt):Prop where
 ex:∃ f fd,Mk K C f∧mg x=some (.ref C)∧Fun K "__init__" q st f fd
theorem FG.cal (g:FG K mg x st) (hb:∀ f fd,Fun K x x st f fd→Binds K fd ps []) (ok:∀ f fd,Fun K x x st f fd→FnOk P w K mg base CX k f fd ps sp):Cal P w K mg base CX k x ps sp:=by
 obtain ⟨f,fd,e,F⟩:=g.ex
 exact ⟨f,fd,e,F.kp,hb f fd F,ok f fd F⟩
theorem FM.cal (g:FM K C x q st) (hb:∀ f fd,Fun K x q st f fd→Binds K fd ps []) (ok:∀ f fd,Fun K x q st f fd→FnOk P w K mg base CX k f fd ps sp):MCal P w K mg base CX k C x ps sp:=by
 obtain ⟨f,fd,e,F⟩:=g.ex
 exact ⟨f,fd,e,hb f fd F,ok f fd F⟩
theorem FK.cal (g:FK K mg x q C st) (hb:∀ f fd,Fun K "__init__" q st f fd→Binds K fd ps []) (ok:∀ f fd,Fun K "__init__" q st f fd→FnOk P w K mg base CX k f fd ps sp):KCal P w K mg base CX k x C ps sp:=by
 obtain ⟨f,fd,m,e,F⟩:=g.ex
 exact ⟨f,fd,m,e,hb f fd F,ok f fd F⟩
variable {f:Addr}{oc:Value}{od an:Option Addr}{osl:Array (Option Value)}{kV doc pm cdv ct:Value}
end
theorem bd1 {A B C D E F:Type}{P:A→B→C→D→E→F→List Value→Prop} (h:∀ a b c d e f x0,P a b c d e f [x0]):∀ a b c d e f us,us.length=1→P a b c d e f us
 | a,b,c,d,e,f,[x0],_=>h a b c d e f x0
theorem bd2 {A B C D E F:Type}{P:A→B→C→D→E→F→List Value→Prop} (h:∀ a b c d e f x0 x1,P a b c d e f [x0,x1]):∀ a b c d e f us,us.length=2→P a b c d e f us
 | a,b,c,d,e,f,[x0,x1],_=>h a b c d e f x0 x1
theorem bd3 {A B C D E F:Type}{P:A→B→C→D→E→F→List Value→Prop} (h:∀ a b c d e f x0 x1 x2,P a b c d e f [x0,x1,x2]):∀ a b c d e f us,us.length=3→P a b c d e f us
 | a,b,c,d,e,f,[x0,x1,x2],_=>h a b c d e f x0 x1 x2
theorem bd4 {A B C D E F:Type}{P:A→B→C→D→E→F→List Value→Prop} (h:∀ a b c d e f x0 x1 x2 x3,P a b c d e f [x0,x1,x2,x3]):∀ a b c d e f us,us.length=4→P a b c d e f us
 | a,b,c,d,e,f,[x0,x1,x2,x3],_=>h a b c d e f x0 x1 x2 x3
structure Tops (K:Fg) (mg:MG) (c:Cs):Prop where
 cl_sheet:Cls K c.sheet
 at_sheet_columns:NoAttr K c.sheet "columns"
 at_sheet_rows:NoAttr K c.sheet "rows"
 at_sheet_place_of:NoAttr K c.sheet "place_of"
 cl_diff:Cls K c.diff
 at_diff_cost:NoAttr K c.diff "cost"
 at_diff_steps:NoAttr K c.diff "steps"
 cl_doings:Cls K c.doings
 at_doings_origin:NoAttr K c.doings "origin"
 at_doings_sheet:NoAttr K c.doings "sheet"
 at_doings_kept_as:NoAttr K c.doings "kept_as"
 at_doings_put_ahead:NoAttr K c.doings "put_ahead"
 at_doings_touched:NoAttr K c.doings "touched"
 cl_joining:Cls K c.joining
 at_joining_origin:NoAttr K c.joining "origin"
 at_joining_by_a:NoAttr K c.joining "by_a"
 at_joining_by_b:NoAttr K c.joining "by_b"
 at_joining_columns:NoAttr K c.joining "columns"
 at_joining_rows:NoAttr K c.joining "rows"
 at_joining_untold:NoAttr K c.joining "untold"
 cl_joined:Cls K c.joined
 at_joined_sheet:NoAttr K c.joined "sheet"
 at_joined_untold:NoAttr K c.joined "untold"
 cl_reader:Cls K c.reader
 at_reader_numbers:NoAttr K c.reader "numbers"
 at_reader_at:NoAttr K c.reader "at"
 cl_desk:Cls K c.desk
 at_desk_places:NoAttr K c.desk "places"
 i_MOST_COLUMNS:GI mg "MOST_COLUMNS" 64
 i_MOST_NAME_BYTES:GI mg "MOST_NAME_BYTES" 64
 i_MOST_ROWS:GI mg "MOST_ROWS" 256
 i_MOST_CELL_NUMBERS:GI mg "MOST_CELL_NUMBERS" 64
 i_KEEP:GI mg "KEEP" 0
 i_GONE:GI mg "GONE" 1
 i_PUT:GI mg "PUT" 2
 i_CELL_UNTOLD:GI mg "CELL_UNTOLD" 1
 i_ROW_UNTOLD:GI mg "ROW_UNTOLD" 2
 i_COLUMN_UNTOLD:GI mg "COLUMN_UNTOLD" 3
 i_TAKER_A:GI mg "TAKER_A" 1
 i_TAKER_B:GI mg "TAKER_B" 2
 i_PLACES:GI mg "PLACES" 4
 i_NEW:GI mg "NEW" 0
 i_SHEET:GI mg "SHEET" 1
 i_DIFF:GI mg "DIFF" 2
 i_PATCH:GI mg "PATCH" 3
 i_JOIN:GI mg "JOIN" 4
 n_enumerate:mg "enumerate" = none
 n_tuple:mg "tuple" = none
 n_len:mg "len" = none
 n_all:mg "all" = none
 n_set:mg "set" = none
 n_range:mg "range" = none
 n_reversed:mg "reversed" = none
 n_min:mg "min" = none
 n_zip:mg "zip" = none
 n_any:mg "any" = none
 n_list:mg "list" = none
 x_ePlace:ExcC K mg "NoSuchPlace" c.ePlace
 x_eSheet:ExcC K mg "NoSheetThere" c.eSheet
 x_eFit:ExcC K mg "NotFitting" c.eFit
 x_eJoin:ExcC K mg "NotJoinable" c.eJoin
 m_ePlace_ePlace:PySem.W.mroIn K c.ePlace (.ref c.ePlace)=some true
 m_eSheet_ePlace:PySem.W.mroIn K c.eSheet (.ref c.ePlace)=some false
 m_eSheet_eSheet:PySem.W.mroIn K c.eSheet (.ref c.eSheet)=some true
 m_eFit_ePlace:PySem.W.mroIn K c.eFit (.ref c.ePlace)=some false
 m_eFit_eSheet:PySem.W.mroIn K c.eFit (.ref c.eSheet)=some false
 m_eFit_eFit:PySem.W.mroIn K c.eFit (.ref c.eFit)=some true
 m_eJoin_ePlace:PySem.W.mroIn K c.eJoin (.ref c.ePlace)=some false
 m_eJoin_eSheet:PySem.W.mroIn K c.eJoin (.ref c.eSheet)=some false
 m_eJoin_eFit:PySem.W.mroIn K c.eJoin (.ref c.eFit)=some false
 m_eJoin_eJoin:PySem.W.mroIn K c.eJoin (.ref c.eJoin)=some true
 nothing:GT0 K mg "NOTHING" c.nothing
structure Defs (K:Fg) (mg:MG) (c:Cs):Prop where
 is_cell:FG K mg "is_cell" zFf
 is_row:FG K mg "is_row" zGA
 count_filled:FG K mg "count_filled" zGB
 are_columns:FG K mg "are_columns" sAre
 sheet_init:FK K mg "Sheet" "Sheet.__init__" c.sheet zHd
 has_column:FM K c.sheet "has_column" "Sheet.has_column" sHas
 cell_by_name:FM K c.sheet "cell_by_name" "Sheet.cell_by_name" sCbn
 row_by_names:FM K c.sheet "row_by_names" "Sheet.row_by_names" sRbn
 is_sheet:FG K mg "is_sheet" sIsSh
 reader_init:FK K mg "Reader" "Reader.__init__" c.reader zHh
 read_number:FM K c.reader "read_number" "Reader.read_number" sNum
 read_numbers:FM K c.reader "read_numbers" "Reader.read_numbers" sNums
 read_row:FM K c.reader "read_row" "Reader.read_row" sRRow
 read_names:FM K c.reader "read_names" "Reader.read_names" zFe
 read_rows:FM K c.reader "read_rows" "Reader.read_rows" zF9
 read_setting:FM K c.reader "read_setting" "Reader.read_setting" sRSet
 read_settings:FM K c.reader "read_settings" "Reader.read_settings" zF8
 read_step:FM K c.reader "read_step" "Reader.read_step" zHe
 read_steps:FM K c.reader "read_steps" "Reader.read_steps" zEY
 write_all:FG K mg "write_all" sWAll
 write_sheet:FG K mg "write_sheet" sWSh
 write_settings:FG K mg "write_settings" sWSe
 write_steps:FG K mg "write_steps" sWSt
 diff_init:FK K mg "Difference" "Difference.__init__" c.diff sDInit
 settings_between:FG K mg "settings_between" sSB
 keep_costs:FG K mg "keep_costs" sKC
 costs_of_row:FG K mg "costs_of_row" sCR
 least_costs:FG K mg "least_costs" sLC
 first_kinds:FG K mg "first_kinds" sFK
 steps_of_kinds:FG K mg "steps_of_kinds" sSK
 difference:FG K mg "difference" sDf
 row_put:FG K mg "row_put" sRPut
 row_kept:FG K mg "row_kept" zHg
 patched:FG K mg "patched" sPat
 go_through:FM K c.doings "go_through" "Doings.go_through" sGo
 touches:FM K c.doings "touches" "Doings.touches" sTch
 row_seen:FM K c.doings "row_seen" "Doings.row_seen" zHf
 has_changed:FM K c.doings "has_changed" "Doings.has_changed" sChg
 rows_put:FM K c.doings "rows_put" "Doings.rows_put" zF7
 doings_init:FK K mg "Doings" "Doings.__init__" c.doings zHi
 is_untold:FG K mg "is_untold" sUnt
 stays:FG K mg "stays" sStay
 place_behind_neighbour:FG K mg "place_behind_neighbour" sPBN
 joined_columns:FG K mg "joined_columns" sJC
 tell_columns:FM K c.joining "tell_columns" "Joining.tell_columns" sTell
 join_rows_put:FM K c.joining "join_rows_put" "Joining.join_rows_put" sJRP
 join_row_gone:FM K c.joining "join_row_gone_in_one" "Joining.join_row_gone_in_one" sJG
 join_row_kept:FM K c.joining "join_row_kept" "Joining.join_row_kept" sJK
 join_row:FM K c.joining "join_row" "Joining.join_row" sJR
 join_all:FM K c.joining "join_all" "Joining.join_all" sJA
 joining_init:FK K mg "Joining" "Joining.__init__" c.joining sJI
 joined_init:FK K mg "Joined" "Joined.__init__" c.joined sJdI
 joined_sheet:FG K mg "joined_sheet" sJS
 read_place:FG K mg "read_place" sRP
 sheet_at:FM K c.desk "sheet_at" "Desk.sheet_at" sSA
 desk_init:FK K mg "Desk" "Desk.__init__" c.desk sDI
 answer_new:FM K c.desk "answer_new" "Desk.answer_new" sAN
 answer_sheet:FM K c.desk "answer_sheet" "Desk.answer_sheet" sAS
 answer_diff:FM K c.desk "answer_diff" "Desk.answer_diff" sAD
 answer_patch:FM K c.desk "answer_patch" "Desk.answer_patch" sAP
 answer_join:FM K c.desk "answer_join" "Desk.answer_join" sAJ
 answer_look:FM K c.desk "answer_look" "Desk.answer_look" sAL
 answer_call:FM K c.desk "answer_call" "Desk.answer_call" sAC
 answer:FM K c.desk "answer" "Desk.answer" sA
section
variable {P:Program}{w:World}{K:Fg}{mg:MG}{base:Heap}{c:Cs}
theorem all_ok (t:Tops K mg c) (d:Defs K mg c) {f:Addr}{fd:FuncData} (F:Fun K "answers" "answers" sAns f fd):FnOk P w K mg base CX0 12 f fd ["calls"] (spAns K):=by
 have TS:TxS K mg c:=⟨t.cl_sheet,t.at_sheet_columns,t.at_sheet_rows,t.at_sheet_place_of,t.i_MOST_COLUMNS,t.i_MOST_NAME_BYTES,t.i_MOST_ROWS,t.i_MOST_CELL_NUMBERS,t.nothing,t.n_enumerate,t.n_tuple,t.n_len,t.n_all,t.n_set⟩
 have TR:TxR K mg c:=⟨t.cl_reader,t.at_reader_numbers,t.at_reader_at,t.i_KEEP,t.i_GONE,t.i_PUT,t.n_tuple,t.n_range⟩
 have TW:TxW K mg c:=⟨t.cl_sheet,t.at_sheet_columns,t.at_sheet_rows,t.i_KEEP,t.i_PUT,t.n_len⟩
 have TD:TxD K mg c:=⟨t.cl_sheet,t.at_sheet_columns,t.at_sheet_rows,t.cl_diff,t.at_diff_cost,t.at_diff_steps,t.i_KEEP,t.i_GONE,t.i_PUT,t.n_len,t.n_enumerate,t.n_range,t.n_reversed,t.n_min⟩
 have TP:TxP K mg c:=⟨t.cl_sheet,t.at_sheet_rows,t.i_KEEP,t.i_PUT,t.i_MOST_ROWS,t.n_len,t.n_tuple,t.n_list,t.x_eFit⟩
 have TO:TxO K mg c:=⟨t.cl_sheet,t.at_sheet_columns,t.at_sheet_rows,t.cl_diff,t.at_diff_steps,t.cl_doings,t.at_doings_origin,t.at_doings_sheet,t.at_doings_kept_as,t.at_doings_put_ahead,t.at_doings_touched,t.i_KEEP,t.i_GONE,t.i_PUT,t.nothing,t.n_zip,t.n_any,t.n_tuple⟩
 have TJ:TxJ K mg c:=⟨t.cl_sheet,t.at_sheet_columns,t.at_sheet_rows,t.cl_doings,t.at_doings_sheet,t.at_doings_kept_as,t.at_doings_touched,t.cl_joining,t.at_joining_origin,t.at_joining_by_a,t.at_joining_by_b,t.at_joining_columns,t.at_joining_rows,t.at_joining_untold,t.cl_joined,t.at_joined_sheet,t.at_joined_untold,t.i_CELL_UNTOLD,t.i_ROW_UNTOLD,t.i_COLUMN_UNTOLD,t.i_TAKER_A,t.i_TAKER_B,t.i_MOST_COLUMNS,t.i_MOST_ROWS,t.n_enumerate,t.n_range,t.n_len,t.n_tuple,t.x_eJoin⟩
 have TK:TxK K mg c:=⟨t.cl_sheet,t.at_sheet_rows,t.cl_diff,t.at_diff_cost,t.at_diff_steps,t.cl_joined,t.at_joined_sheet,t.at_joined_untold,t.cl_reader,t.cl_desk,t.at_desk_places,t.i_PLACES,t.i_NEW,t.i_SHEET,t.i_DIFF,t.i_PATCH,t.i_JOIN,t.i_MOST_ROWS,t.n_len,t.n_all,t.x_ePlace,t.x_eSheet,t.x_eFit,t.x_eJoin,t.m_ePlace_ePlace,t.m_eSheet_ePlace,t.m_eSheet_eSheet,t.m_eFit_ePlace,t.m_eFit_eSheet,t.m_eFit_eFit,t.m_eJoin_ePlace,t.m_eJoin_eSheet,t.m_eJoin_eFit,t.m_eJoin_eJoin⟩
 have is_cell:zFx P w K mg base:=d.is_cell.cal (fun _ _ F=>F.binds (ps:=["cell"]) (bd1 fun _ _ _ _ _ _ _=>rfl)) fun _ _ F=>ok_iscell F TS
 have is_row:cIsRow P w K mg base:=d.is_row.cal (fun _ _ F=>F.binds (ps:=["row","width"]) (bd2 fun _ _ _ _ _ _ _ _=>rfl)) fun _ _ F=>ok_isrow F TS is_cell
 have count_filled:cCount P w K mg base:=d.count_filled.cal (fun _ _ F=>F.binds (ps:=["row"]) (bd1 fun _ _ _ _ _ _ _=>rfl)) fun _ _ F=>ok_count F TS
 have are_columns:cAre P w K mg base:=d.are_columns.cal (fun _ _ F=>F.binds (ps:=["names"]) (bd1 fun _ _ _ _ _ _ _=>rfl)) fun _ _ F=>ok_are F TS
 have sheet_init:zGY P w K mg base c:=d.sheet_init.cal (fun _ _ F=>F.binds (ps:=["self","columns","rows"]) (bd3 fun _ _ _ _ _ _ _ _ _=>rfl)) fun _ _ F=>ok_sinit F TS
 have has_column:mHas P w K mg base c:=d.has_column.cal (fun _ _ F=>F.binds (ps:=["self","name"]) (bd2 fun _ _ _ _ _ _ _ _=>rfl)) fun _ _ F=>ok_has F TS
 have cell_by_name:mCbn P w K mg base c:=d.cell_by_name.cal (fun _ _ F=>F.binds (ps:=["self","row","name"]) (bd3 fun _ _ _ _ _ _ _ _ _=>rfl)) fun _ _ F=>ok_cbn F TS
 have row_by_names:mRbn P w K mg base c:=d.row_by_names.cal (fun _ _ F=>F.binds (ps:=["self","row","names"]) (bd3 fun _ _ _ _ _ _ _ _ _=>rfl)) fun _ _ F=>ok_rbn F TS cell_by_name
 have is_sheet:cIsSh P w K mg base:=d.is_sheet.cal (fun _ _ F=>F.binds (ps:=["columns","rows"]) (bd2 fun _ _ _ _ _ _ _ _=>rfl)) fun _ _ F=>ok_issh F TK are_columns is_row
 have reader_init:kReader P w K mg base c:=d.reader_init.cal (fun _ _ F=>F.binds (ps:=["self","numbers"]) (bd2 fun _ _ _ _ _ _ _ _=>rfl)) fun _ _ F=>ok_rinit F TR
 have read_number:mNum P w K mg base c:=d.read_number.cal (fun _ _ F=>F.binds (ps:=["self"]) (bd1 fun _ _ _ _ _ _ _=>rfl)) fun _ _ F=>ok_num F TR
 have read_numbers:mNums P w K mg base c:=d.read_numbers.cal (fun _ _ F=>F.binds (ps:=["self"]) (bd1 fun _ _ _ _ _ _ _=>rfl)) fun _ _ F=>ok_nums F TR read_number
 have read_row:MCal P w K mg base CX0 3 c.reader "read_row" ["self"] (spRd c (zBJ K zBY) (tokL Sx01.ofCell) (okL (fun _=>True))):=d.read_row.cal (fun _ _ F=>F.binds (ps:=["self"]) (bd1 fun _ _ _ _ _ _ _=>rfl)) fun _ _ F=>ok_RRow F TR read_number read_numbers
 have read_names:mNames P w K mg base c:=d.read_names.cal (fun _ _ F=>F.binds (ps:=["self"]) (bd1 fun _ _ _ _ _ _ _=>rfl)) fun _ _ F=>ok_RNames F TR read_row
 have read_rows:mRows P w K mg base c:=d.read_rows.cal (fun _ _ F=>F.binds (ps:=["self"]) (bd1 fun _ _ _ _ _ _ _=>rfl)) fun _ _ F=>ok_RRows F TR read_number read_row
 have read_setting:MCal P w K mg base CX0 3 c.reader "read_setting" ["self"] (spRd c (zCV K) zBI (fun _=>True)):=d.read_setting.cal (fun _ _ F=>F.binds (ps:=["self"]) (bd1 fun _ _ _ _ _ _ _=>rfl)) fun _ _ F=>ok_RSet F TR read_number read_numbers
 have read_settings:MCal P w K mg base CX0 4 c.reader "read_settings" ["self"] (spRd c (zBJ K (zCV K)) (tokL zBI) (okL (fun _=>True))):=d.read_settings.cal (fun _ _ F=>F.binds (ps:=["self"]) (bd1 fun _ _ _ _ _ _ _=>rfl)) fun _ _ F=>ok_RSets F TR read_number read_setting
 have read_step:MCal P w K mg base CX0 5 c.reader "read_step" ["self"] (spRd c (zCU K) zCK zCn):=d.read_step.cal (fun _ _ F=>F.binds (ps:=["self"]) (bd1 fun _ _ _ _ _ _ _=>rfl)) fun _ _ F=>ok_RStep F TR read_number read_settings read_row
 have read_steps:mSteps P w K mg base c:=d.read_steps.cal (fun _ _ F=>F.binds (ps:=["self"]) (bd1 fun _ _ _ _ _ _ _=>rfl)) fun _ _ F=>ok_RSteps F TR read_number read_step
 have write_all:cWAll P w K mg base:=d.write_all.cal (fun _ _ F=>F.binds (ps:=["cells"]) (bd1 fun _ _ _ _ _ _ _=>rfl)) fun _ _ F=>ok_wall F TW
 have write_sheet:cWSh P w K mg base c:=d.write_sheet.cal (fun _ _ F=>F.binds (ps:=["sheet"]) (bd1 fun _ _ _ _ _ _ _=>rfl)) fun _ _ F=>ok_wsh F TW write_all
 have write_settings:cWSe P w K mg base:=d.write_settings.cal (fun _ _ F=>F.binds (ps:=["settings"]) (bd1 fun _ _ _ _ _ _ _=>rfl)) fun _ _ F=>ok_wse F TW write_all
 have write_steps:cWSt P w K mg base:=d.write_steps.cal (fun _ _ F=>F.binds (ps:=["steps"]) (bd1 fun _ _ _ _ _ _ _=>rfl)) fun _ _ F=>ok_wst F TW write_all write_settings
 have diff_init:kDiff P w K mg base c:=d.diff_init.cal (fun _ _ F=>F.binds (ps:=["self","cost","steps"]) (bd3 fun _ _ _ _ _ _ _ _ _=>rfl)) fun _ _ F=>ok_dinit F TD
 have settings_between:cSB P w K mg base:=d.settings_between.cal (fun _ _ F=>F.binds (ps:=["row","wanted"]) (bd2 fun _ _ _ _ _ _ _ _=>rfl)) fun _ _ F=>ok_sb F TD
 have keep_costs:cKC P w K mg base:=d.keep_costs.cal (fun _ _ F=>F.binds (ps:=["row","wanted_rows"]) (bd2 fun _ _ _ _ _ _ _ _=>rfl)) fun _ _ F=>ok_kc F TD settings_between
 have costs_of_row:cCR P w K mg base:=d.costs_of_row.cal (fun _ _ F=>F.binds (ps:=["keeps","gone","puts","behind"]) (bd4 fun _ _ _ _ _ _ _ _ _ _=>rfl)) fun _ _ F=>ok_cr F TD
 have least_costs:cLC P w K mg base:=d.least_costs.cal (fun _ _ F=>F.binds (ps:=["keeps","gones","puts"]) (bd3 fun _ _ _ _ _ _ _ _ _=>rfl)) fun _ _ F=>ok_lc F TD costs_of_row
 have first_kinds:cFK P w K mg base:=d.first_kinds.cal (fun _ _ F=>F.binds (ps:=["costs","keeps","gones"]) (bd3 fun _ _ _ _ _ _ _ _ _=>rfl)) fun _ _ F=>ok_fk F TD
 have steps_of_kinds:cSK P w K mg base:=d.steps_of_kinds.cal (fun _ _ F=>F.binds (ps:=["kinds","seen","wanted"]) (bd3 fun _ _ _ _ _ _ _ _ _=>rfl)) fun _ _ F=>ok_sk F TD settings_between
 have difference:cDf P w K mg base c:=d.difference.cal (fun _ _ F=>F.binds (ps:=["one","other"]) (bd2 fun _ _ _ _ _ _ _ _=>rfl)) fun _ _ F=>ok_df F TD row_by_names keep_costs count_filled least_costs first_kinds steps_of_kinds diff_init
 have row_put:cRPut P w K mg base c:=d.row_put.cal (fun _ _ F=>F.binds (ps:=["row","width"]) (bd2 fun _ _ _ _ _ _ _ _=>rfl)) fun _ _ F=>ok_rput F TP is_row
 have row_kept:cRKept P w K mg base c:=d.row_kept.cal (fun _ _ F=>F.binds (ps:=["row","settings"]) (bd2 fun _ _ _ _ _ _ _ _=>rfl)) fun _ _ F=>ok_rkept F TP is_cell
 have patched:cPat P w K mg base c:=d.patched.cal (fun _ _ F=>F.binds (ps:=["sheet","columns","steps"]) (bd3 fun _ _ _ _ _ _ _ _ _=>rfl)) fun _ _ F=>ok_pat F TP are_columns row_put row_kept row_by_names sheet_init
 have go_through:mGo P w K mg base c:=d.go_through.cal (fun _ _ F=>F.binds (ps:=["self","steps"]) (bd2 fun _ _ _ _ _ _ _ _=>rfl)) fun _ _ F=>ok_go F TO
 have touches:mTch P w K mg base c:=d.touches.cal (fun _ _ F=>F.binds (ps:=["self","name"]) (bd2 fun _ _ _ _ _ _ _ _=>rfl)) fun _ _ F=>ok_tch F TO cell_by_name
 have row_seen:zGT P w K mg base c:=d.row_seen.cal (fun _ _ F=>F.binds (ps:=["self","at","names"]) (bd3 fun _ _ _ _ _ _ _ _ _=>rfl)) fun _ _ F=>ok_rseen F TO cell_by_name has_column
 have has_changed:mChg P w K mg base c:=d.has_changed.cal (fun _ _ F=>F.binds (ps:=["self","at"]) (bd2 fun _ _ _ _ _ _ _ _=>rfl)) fun _ _ F=>ok_chg F TO row_seen row_by_names
 have rows_put:mRsPut P w K mg base c:=d.rows_put.cal (fun _ _ F=>F.binds (ps:=["self","at","names"]) (bd3 fun _ _ _ _ _ _ _ _ _=>rfl)) fun _ _ F=>ok_rsput F TO row_by_names
 have doings_init:kDoings P w K mg base c:=d.doings_init.cal (fun _ _ F=>F.binds (ps:=["self","origin","sheet"]) (bd3 fun _ _ _ _ _ _ _ _ _=>rfl)) fun _ _ F=>ok_oinit F TO go_through has_column touches difference
 have is_untold:cUnt P w K mg base:=d.is_untold.cal (fun _ _ F=>F.binds (ps:=["before","by_a","by_b"]) (bd3 fun _ _ _ _ _ _ _ _ _=>rfl)) fun _ _ F=>ok_unt F
 have stays:cStay P w K mg base c:=d.stays.cal (fun _ _ F=>F.binds (ps:=["origin","by_a","by_b","name"]) (bd4 fun _ _ _ _ _ _ _ _ _ _=>rfl)) fun _ _ F=>ok_stay F TJ has_column
 have place_behind_neighbour:cPBN P w K mg base:=d.place_behind_neighbour.cal (fun _ _ F=>F.binds (ps:=["joined","columns","place"]) (bd3 fun _ _ _ _ _ _ _ _ _=>rfl)) fun _ _ F=>ok_pbn F
 have joined_columns:cJC P w K mg base c:=d.joined_columns.cal (fun _ _ F=>F.binds (ps:=["origin","by_a","by_b"]) (bd3 fun _ _ _ _ _ _ _ _ _=>rfl)) fun _ _ F=>ok_jc F TJ stays place_behind_neighbour
 have tell_columns:mTell P w K mg base c:=d.tell_columns.cal (fun _ _ F=>F.binds (ps:=["self"]) (bd1 fun _ _ _ _ _ _ _=>rfl)) fun _ _ F=>ok_tell F TJ has_column
 have join_rows_put:mJRP P w K mg base c:=d.join_rows_put.cal (fun _ _ F=>F.binds (ps:=["self","at"]) (bd2 fun _ _ _ _ _ _ _ _=>rfl)) fun _ _ F=>ok_jrp F TJ rows_put
 have join_row_gone:mJG P w K mg base c:=d.join_row_gone.cal (fun _ _ F=>F.binds (ps:=["self","at","keeper","taker"]) (bd4 fun _ _ _ _ _ _ _ _ _ _=>rfl)) fun _ _ F=>ok_jg F TJ has_changed row_seen
 have join_row_kept:mJK P w K mg base c:=d.join_row_kept.cal (fun _ _ F=>F.binds (ps:=["self","at"]) (bd2 fun _ _ _ _ _ _ _ _=>rfl)) fun _ _ F=>ok_jk F TJ row_by_names row_seen is_untold
 have join_row:mJR P w K mg base c:=d.join_row.cal (fun _ _ F=>F.binds (ps:=["self","at"]) (bd2 fun _ _ _ _ _ _ _ _=>rfl)) fun _ _ F=>ok_jr F TJ join_row_gone join_row_kept
 have join_all:mJA P w K mg base c:=d.join_all.cal (fun _ _ F=>F.binds (ps:=["self"]) (bd1 fun _ _ _ _ _ _ _=>rfl)) fun _ _ F=>ok_ja F TJ tell_columns join_rows_put join_row
 have joining_init:zGZ P w K mg base c:=d.joining_init.cal (fun _ _ F=>F.binds (ps:=["self","origin","a","b"]) (bd4 fun _ _ _ _ _ _ _ _ _ _=>rfl)) fun _ _ F=>ok_ji F TJ doings_init joined_columns
 have joined_init:kJoined P w K mg base c:=d.joined_init.cal (fun _ _ F=>F.binds (ps:=["self","sheet","untold"]) (bd3 fun _ _ _ _ _ _ _ _ _=>rfl)) fun _ _ F=>ok_jdi F TJ
 have joined_sheet:cJS P w K mg base c:=d.joined_sheet.cal (fun _ _ F=>F.binds (ps:=["origin","a","b"]) (bd3 fun _ _ _ _ _ _ _ _ _=>rfl)) fun _ _ F=>ok_js F TJ joining_init joined_init sheet_init join_all
 have read_place:cRP P w K mg base c:=d.read_place.cal (fun _ _ F=>F.binds (ps:=["reader"]) (bd1 fun _ _ _ _ _ _ _=>rfl)) fun _ _ F=>ok_rp F TK read_number
 have sheet_at:mSA P w K mg base c:=d.sheet_at.cal (fun _ _ F=>F.binds (ps:=["self","place"]) (bd2 fun _ _ _ _ _ _ _ _=>rfl)) fun _ _ F=>ok_sa F TK
 have desk_init:kDesk P w K mg base c:=d.desk_init.cal (fun _ _ F=>F.binds (ps:=["self"]) (bd1 fun _ _ _ _ _ _ _=>rfl)) fun _ _ F=>ok_di F TK
 have answer_new:mAN P w K mg base c:=d.answer_new.cal (fun _ _ F=>F.binds (ps:=["self"]) (bd1 fun _ _ _ _ _ _ _=>rfl)) fun _ _ F=>ok_an F TK
 have answer_sheet:mAS P w K mg base c:=d.answer_sheet.cal (fun _ _ F=>F.binds (ps:=["self","reader"]) (bd2 fun _ _ _ _ _ _ _ _=>rfl)) fun _ _ F=>ok_as F TK read_place read_names read_rows is_sheet sheet_init
 have answer_diff:mAD P w K mg base c:=d.answer_diff.cal (fun _ _ F=>F.binds (ps:=["self","reader"]) (bd2 fun _ _ _ _ _ _ _ _=>rfl)) fun _ _ F=>ok_ad F TK read_place sheet_at difference write_steps
 have answer_patch:mAP P w K mg base c:=d.answer_patch.cal (fun _ _ F=>F.binds (ps:=["self","reader"]) (bd2 fun _ _ _ _ _ _ _ _=>rfl)) fun _ _ F=>ok_ap F TK read_place sheet_at read_names read_steps patched
 have answer_join:mAJ P w K mg base c:=d.answer_join.cal (fun _ _ F=>F.binds (ps:=["self","reader"]) (bd2 fun _ _ _ _ _ _ _ _=>rfl)) fun _ _ F=>ok_aj F TK read_place sheet_at joined_sheet
 have answer_look:mAL P w K mg base c:=d.answer_look.cal (fun _ _ F=>F.binds (ps:=["self","reader"]) (bd2 fun _ _ _ _ _ _ _ _=>rfl)) fun _ _ F=>ok_al F TK read_place sheet_at write_sheet
 have answer_call:mAC P w K mg base c:=d.answer_call.cal (fun _ _ F=>F.binds (ps:=["self","reader"]) (bd2 fun _ _ _ _ _ _ _ _=>rfl)) fun _ _ F=>ok_ac F TK read_number answer_new answer_sheet answer_diff answer_patch answer_join answer_look
 have answer:mA P w K mg base c:=d.answer.cal (fun _ _ F=>F.binds (ps:=["self","reader"]) (bd2 fun _ _ _ _ _ _ _ _=>rfl)) fun _ _ F=>ok_a F TK answer_call
 exact ok_ans F TK desk_init reader_init answer
end
end Sh
set_option maxHeartbeats 2000000
namespace Sh
open PySem PySem.Spec PyProof.Rows L2 ShM
section
variable {K:Fg}{mg:MG}{h:Heap}{x q cx:Str}{st:Stmt}{f:Addr}
theorem rf_of {o:Option (Option Value)} (e:rf o=some f):o=some (some (.ref f)):=by
 unfold rf at e
 split at e
 ·cases e; rfl
 ·cases e
theorem fv_of (e:fv K q f=some (exF x q st)):(∃ fd,Fun K x q st f fd)∧PySem.W.isFn K (.ref f)=true:=by
 unfold fv at e
 split at e
 ·rename_i oc od fd sl l
  split at e
  ·rename_i b
   rw [Bool.and_eq_true,Bool.and_eq_true] at b
   obtain ⟨⟨b1,b2⟩,b3⟩:=b
   obtain ⟨n,qn,pa,bo,sc,gl,cl,de,kw,dc,pm,an,cd,ct,bl⟩:=fd
   have e:=Option.some.inj e
   unfold nrm exF PySem.W.fnOf at e
   injection e with e1 e2 e3 e4 e5 e6 e7 e8 e9 e10 e11 e12 e13 e14 e15
   subst e1 e2 e3 e4 e5 e6 e7 e8 e15
   exact ⟨⟨_,fun_mk (st:=st) l b1 b2⟩,b3⟩
  ·cases e
 ·cases e
theorem fG (X:K.In h) (G:h.Ns mainGlobals mg) (e:oG K x=some (exF x x st)):FG K mg x st:=by
 obtain ⟨f,e1,e2⟩:=Option.bind_eq_some_iff.mp e
 obtain ⟨⟨fd,F⟩,-⟩:=fv_of e2
 exact ⟨f,fd,PySem.W.mg_of X G (rf_of e1),F⟩
theorem fM (e:oM K cx x q=some (exF x q st)):FM K (cA K cx) x q st:=by
 obtain ⟨f,e1,e2⟩:=Option.bind_eq_some_iff.mp e
 obtain ⟨⟨fd,F⟩,i⟩:=fv_of e2
 exact ⟨f,fd,⟨rf_of e1,i,F.kp⟩,F⟩
theorem fK (X:K.In h) (G:h.Ns mainGlobals mg) (e:oK K x q=some (exF "__init__" q st)):FK K mg x q (cA K x) st:=by
 obtain ⟨C,e1,e2⟩:=Option.bind_eq_some_iff.mp e
 have ec:cA K x=C:=by unfold cA; rw [e1]; rfl
 rw [ec]
 split at e2
 ·rename_i b
  rw [Bool.and_eq_true] at b
  obtain ⟨f,e3,e4⟩:=Option.bind_eq_some_iff.mp e2
  obtain ⟨⟨fd,F⟩,i⟩:=fv_of e4
  exact ⟨f,fd,⟨b.1,rf_of e3,i,b.2⟩,PySem.W.mg_of X G (rf_of e1),F⟩
 ·cases e2
theorem zDr (e:bCl K x=true):Cls K (cA K x):=by
 unfold bCl at e
 rw [Bool.and_eq_true,Bool.and_eq_true,Bool.and_eq_true] at e
 obtain ⟨⟨⟨e1,e2⟩,e3⟩,e4⟩:=e
 refine ⟨e1,e2,e3,?_⟩
 split at e4
 ·rename_i s q
  rw [q,eq_of_beq e4]
 ·cases e4
theorem zBC (e:bNA K (cx,x)=true):NoAttr K (cA K cx) x:=by
 unfold bNA at e
 split at e
 ·rename_i q; exact q
 ·cases e
theorem zBM {n:Int} (X:K.In h) (G:h.Ns mainGlobals mg) (e:bGI K (x,n)=true):GI mg x n:=by
 unfold bGI at e
 split at e
 ·rename_i m t q
  rw [eq_of_beq e] at q
  exact ⟨t,PySem.W.mg_of X G q⟩
 ·cases e
theorem zB9 (X:K.In h) (G:h.Ns mainGlobals mg) (e:bNo K x=true):mg x=none:=by
 unfold bNo at e
 split at e
 ·rename_i q; exact PySem.W.mg_none_of X G q
 ·cases e
theorem cA_of (e:(gA K x).isSome=true):PySem.W.nsIn K mainGlobals x=some (some (.ref (cA K x))):=by
 obtain ⟨C,q⟩:=Option.isSome_iff_exists.mp e
 unfold cA
 rw [q]
 exact rf_of q
theorem zGo (X:K.In h) (G:h.Ns mainGlobals mg) (e:bEx K x=true):ExcC K mg x (cA K x):=by
 unfold bEx at e
 rw [Bool.and_eq_true] at e
 exact ⟨PySem.W.mg_of X G (cA_of e.1),e.2⟩
theorem zCH {b:Bool} (e:bMr K (cx,x,b)=true):PySem.W.mroIn K (cA K cx) (.ref (cA K x))=some b:=eq_of_beq e
theorem bT0_of (X:K.In h) (G:h.Ns mainGlobals mg) (e:bT0 K x=true):GT0 K mg x (cA K x):=by
 unfold bT0 at e
 rw [Bool.and_eq_true] at e
 obtain ⟨e1,e2⟩:=e
 split at e2
 ·rename_i q
  exact ⟨PySem.W.mg_of X G (cA_of e1),_,_,q,congrArg Value.type (eq_of_beq e2),rfl⟩
 ·cases e2
end
def csOf (K:Fg):Cs:=⟨cA K "Sheet",cA K "Difference",cA K "Doings",cA K "Joining",cA K "Joined",cA K "Reader",cA K "Desk",cA K "NoSuchPlace",cA K "NoSheetThere",cA K "NotFitting",cA K "NotJoinable",cA K "NOTHING"⟩
theorem zAV {α β:Type}{f g:α→β}{l:List α} (e:l.map f=l.map g) (i:Nat) {r:α} (hr:l[i]? = some r):f r=g r:=List.map_inj_left.mp e r (List.mem_of_getElem? hr)
theorem zAP {α:Type}{f:α→Bool}{l:List α} (e:l.all f=true) (i:Nat) {r:α} (hr:l[i]? = some r):f r=true:=List.all_eq_true.mp e r (List.mem_of_getElem? hr)
theorem zFs {P:Program}{w:World}{K:Fg}{mg:MG}{h:Heap}{fa:Addr} (X:K.In h) (G:h.Ns mainGlobals mg) (hfa:mg "answers" = some (.ref fa)) (e:obs K=due) :
  ∃ fd:FuncData,(∀ (s:Shared) (us:List Value),us.length=(["calls"]:List Str).length→BindsTo s fd ⟨us,[]⟩ ((["calls"]:List Str).zip us))∧∀ base:Heap,K.In base→base.Ns mainGlobals mg→FnOk P w K mg base CX0 12 fa fd ["calls"] (spAns K):=by
 have eG:=congrArg (fun x=>x.1) e
 have eM:=congrArg (fun x=>x.2.1) e
 have eK:=congrArg (fun x=>x.2.2.1) e
 have eB:=congrArg (fun x=>x.2.2.2) e
 unfold obs due at eG eM eK eB
 dsimp only at eG eM eK eB
 simp only [Bool.and_eq_true] at eB
 obtain ⟨bC,bA,bI,bN,bX,bR,bT⟩:=eB
 obtain ⟨f,fd,e1,F⟩:=(fG (st:=sAns) X G (zAV eG 0 rfl)).ex
 have e2:=hfa.symm.trans e1
 cases e2
 obtain ⟨oc,od,kV,doc,pm,an,cdv,ct,osl,rfl,l,cc⟩:=F.ex
 refine ⟨_,fun s us hu=>match us,hu with | [_],_=>.of_eq rfl,fun base _ _=>all_ok (c:=csOf K) ?_ ?_ F⟩
 ·exact ⟨zDr (zAP bC 0 rfl),zBC (zAP bA 0 rfl),zBC (zAP bA 1 rfl),zBC (zAP bA 2 rfl),zDr (zAP bC 1 rfl),zBC (zAP bA 3 rfl),zBC (zAP bA 4 rfl),zDr (zAP bC 2 rfl),zBC (zAP bA 5 rfl),zBC (zAP bA 6 rfl),zBC (zAP bA 7 rfl),zBC (zAP bA 8 rfl),zBC (zAP bA 9 rfl),zDr (zAP bC 3 rfl),zBC (zAP bA 10 rfl),zBC (zAP bA 11 rfl),zBC (zAP bA 12 rfl),zBC (zAP bA 13 rfl),zBC (zAP bA 14 rfl),zBC (zAP bA 15 rfl),zDr (zAP bC 4 rfl),zBC (zAP bA 16 rfl),zBC (zAP bA 17 rfl),zDr (zAP bC 5 rfl),zBC (zAP bA 18 rfl),zBC (zAP bA 19 rfl),zDr (zAP bC 6 rfl),zBC (zAP bA 20 rfl),zBM X G (zAP bI 0 rfl),zBM X G (zAP bI 1 rfl),zBM X G (zAP bI 2 rfl),zBM X G (zAP bI 3 rfl),zBM X G (zAP bI 4 rfl),zBM X G (zAP bI 5 rfl),zBM X G (zAP bI 6 rfl),zBM X G (zAP bI 7 rfl),zBM X G (zAP bI 8 rfl),zBM X G (zAP bI 9 rfl),zBM X G (zAP bI 10 rfl),zBM X G (zAP bI 11 rfl),zBM X G (zAP bI 12 rfl),zBM X G (zAP bI 13 rfl),zBM X G (zAP bI 14 rfl),zBM X G (zAP bI 15 rfl),zBM X G (zAP bI 16 rfl),zBM X G (zAP bI 17 rfl),zB9 X G (zAP bN 0 rfl),zB9 X G (zAP bN 1 rfl),zB9 X G (zAP bN 2 rfl),zB9 X G (zAP bN 3 rfl),zB9 X G (zAP bN 4 rfl),zB9 X G (zAP bN 5 rfl),zB9 X G (zAP bN 6 rfl),zB9 X G (zAP bN 7 rfl),zB9 X G (zAP bN 8 rfl),zB9 X G (zAP bN 9 rfl),zB9 X G (zAP bN 10 rfl),zGo X G (zAP bX 0 rfl),zGo X G (zAP bX 1 rfl),zGo X G (zAP bX 2 rfl),zGo X G (zAP bX 3 rfl),zCH (zAP bR 0 rfl),zCH (zAP bR 1 rfl),zCH (zAP bR 2 rfl),zCH (zAP bR 3 rfl),zCH (zAP bR 4 rfl),zCH (zAP bR 5 rfl),zCH (zAP bR 6 rfl),zCH (zAP bR 7 rfl),zCH (zAP bR 8 rfl),zCH (zAP bR 9 rfl),bT0_of X G bT⟩
 ·exact ⟨fG X G (zAV eG 1 rfl),fG X G (zAV eG 2 rfl),fG X G (zAV eG 3 rfl),fG X G (zAV eG 4 rfl),fK X G (zAV eK 0 rfl),fM (zAV eM 0 rfl),fM (zAV eM 1 rfl),fM (zAV eM 2 rfl),fG X G (zAV eG 5 rfl),fK X G (zAV eK 1 rfl),fM (zAV eM 3 rfl),fM (zAV eM 4 rfl),fM (zAV eM 5 rfl),fM (zAV eM 6 rfl),fM (zAV eM 7 rfl),fM (zAV eM 8 rfl),fM (zAV eM 9 rfl),fM (zAV eM 10 rfl),fM (zAV eM 11 rfl),fG X G (zAV eG 6 rfl),fG X G (zAV eG 7 rfl),fG X G (zAV eG 8 rfl),fG X G (zAV eG 9 rfl),fK X G (zAV eK 2 rfl),fG X G (zAV eG 10 rfl),fG X G (zAV eG 11 rfl),fG X G (zAV eG 12 rfl),fG X G (zAV eG 13 rfl),fG X G (zAV eG 14 rfl),fG X G (zAV eG 15 rfl),fG X G (zAV eG 16 rfl),fG X G (zAV eG 17 rfl),fG X G (zAV eG 18 rfl),fG X G (zAV eG 19 rfl),fM (zAV eM 12 rfl),fM (zAV eM 13 rfl),fM (zAV eM 14 rfl),fM (zAV eM 15 rfl),fM (zAV eM 16 rfl),fK X G (zAV eK 3 rfl),fG X G (zAV eG 20 rfl),fG X G (zAV eG 21 rfl),fG X G (zAV eG 22 rfl),fG X G (zAV eG 23 rfl),fM (zAV eM 17 rfl),fM (zAV eM 18 rfl),fM (zAV eM 19 rfl),fM (zAV eM 20 rfl),fM (zAV eM 21 rfl),fM (zAV eM 22 rfl),fK X G (zAV eK 4 rfl),fK X G (zAV eK 5 rfl),fG X G (zAV eG 24 rfl),fG X G (zAV eG 25 rfl),fM (zAV eM 23 rfl),fK X G (zAV eK 6 rfl),fM (zAV eM 24 rfl),fM (zAV eM 25 rfl),fM (zAV eM 26 rfl),fM (zAV eM 27 rfl),fM (zAV eM 28 rfl),fM (zAV eM 29 rfl),fM (zAV eM 30 rfl),fM (zAV eM 31 rfl)⟩
end Sh
open PySem PySem.W PyProof.Rows
theorem Hd.walk {d:DefRec} (hn:d.name = "answers") (hd:d.params.defaults=[]):WalkOS (Hd.vw PySem.Challenge.pw_sheetsheld_s01_answers) [] (XL (Hd.vw PySem.Challenge.pw_sheetsheld_s01_answers) []) Hd.hook.says PySem.Challenge.rw_sheetsheld_s01_answers d [] (fun f vs=>PySem.call f vs):=fun w s₀ s₁ mg mb G Y=>by
 obtain ⟨K,X,e⟩:=Y
 refine L2.zGr (r:=PySem.Challenge.rw_sheetsheld_s01_answers) (q:=(Hd.vw PySem.Challenge.pw_sheetsheld_s01_answers)) (loose:=[]) (XP:=XL (Hd.vw PySem.Challenge.pw_sheetsheld_s01_answers) []) (YP:=fun _ h=>K.In h) (K:=fun _=>K) (k:=12) (CX:=L2.CX0) (ps:=["calls"]) (sp:=Sh.spAns) (by decide +kernel) hd rfl ⟨rfl,by decide,by decide⟩ (fun w h Y=>Y) ?F ?S (fun _ _ _ _ z=>z) w s₀ s₁ mg mb G X
 case S =>
  intro K H xs a hO hwi hask hx
  cases hx with
  | cons h1 h2 =>
   cases h2
   cases h1 with
   | lst hs ha =>
    have e:=L2.ints_dw a.1 _ ha
    subst e
    exact ⟨_,a.1,rfl,hs,hask,fun H' p hp=>.lst (L2.SqL.of hp) (L2.dw_ints _)⟩
 case F =>
  intro w mg fa h Y KX G hmg
  rw [hn] at hmg
  exact Sh.zFs KX G hmg e
set_option maxHeartbeats 0 in
theorem PySem.Challenge.cw_sheetsheld_s01_answers_holds : PySem.Challenge.rw_sheetsheld_s01_answers.Holds := by
 refine holds_os (q:=(Hd.vw PySem.Challenge.pw_sheetsheld_s01_answers)) (loose:=[]) (Xt:=Hd.Xt PySem.Challenge.pw_sheetsheld_s01_answers) (XP:=XL (Hd.vw PySem.Challenge.pw_sheetsheld_s01_answers) []) (Yf:=Hook.obs Hd.hook) (Ya:=Hook.val Hd.hook) (YP:=Hook.says Hd.hook) (N:=9008) Hd.left (Hook.of Hd.hook) (Hook.keeps Hd.hook) (fun s e=>xl_of s (Bool.and_eq_true_iff.mp e).1) XL.keeps (by rfl) (by rfl) (by rfl) (fun s e=>recFacts_of (Bool.and_eq_true_iff.mp e).2) os_shapes (by decide +kernel) (by decide +kernel) ⟨rfl,rfl,rfl,rfl,rfl,by decide +kernel⟩ ⟨[.list [.int 0,.int 1,.int 0]],by decide +kernel,by decide +kernel⟩ (Hd.walk rfl rfl)
