import PyProof.Rows.All
import Wide.All
import OpenK.AllK
import Wide.FinOn
import Lean
import PyProof.EqAt
import PyProof.EqKinds
import PyProof.TupleCall
import PyProof.Rows.SetFrom
import PyProof.CollectWalk
import PyProof.DictWalks
import PyProof.DictItems
import PyProof.AutoListH
import PyProof.IsiH_list
import PyProof.AttrMiss
import KE.KDictOf
import KE.KDictLaws
import PySem.Challenge.RW_vitrine_k18_dealings_judged
set_option Elab.async false
set_option linter.all false
set_option maxRecDepth 100000
set_option maxHeartbeats 8000000
set_option bootstrap.genMatcherCode false
set_option compiler.extract_closed false
abbrev ZVP:=PySem.Value->PySem.Shared->Prop
abbrev ZPO:=List (PySem.Addr×PySem.Obj)
open List renaming length_map→uA,getElem?_eq_getElem→uB,length_append→uE,mem_of_getElem?→uF,getElem?_map→uG,map_cons→uH,size_toArray→uI,mem_singleton→uL,map_append→uN,getElem?_eq_some_iff→uO,mem_append→uQ,mem_map→uS,mem_cons_of_mem→uW,length_take→uX,mem_append_right→uY,mem_cons→uZ,getD_eq_getElem?_getD→ub,mem_cons_self→uc,take_add_one→ud,append_assoc→uf,take_length→ug,map_map→uh,replicate→ui,length_cons→uj,getElem?_append_right→up,find?_cons→uq,length_singleton→ur,length_eq_zero_iff→ut,getElem_of_mem→uu,nodup_cons→uv,take_append_drop→uz,not_mem_nil→u6,getElem?_append_left→u8,take_of_length_le→u9,range→xC,length_drop→xD,getElem?_eq_none→xE,mem_of_mem_take→xF,pairwise_iff_getElem→xH,perm_append_comm→xL,nodup_append→xM,nodup_nil→xR,getElem_mem→xS,length→xV,pairwise_map→xX,map_congr_left→xZ,getElem_map→xc,mem_range→xf,mem_append_left→xg,pairwise_append→xh,mem_filter→xi,map_nil→xl,zipWith→xm,eraseIdx_cons_succ→xo,lookup_cons→xp,all_eq_true→xq,length_replicate→xu,nodup_iff_pairwise_ne→xy,any_cons→x8,drop_eq_getElem_cons→x9,getElem_take→yA,mem_of_find?_eq_some→yB,mem_iff_getElem→yC,getElem?_replicate→yF,countP_cons_of_pos→yG,mem_filterMap→yJ,zip_cons_cons→yK,filter_append→yL,getElem?_set_self→yM,length_set→yN,getElem?_set_ne→yT,any_eq_true→yV,length_eraseIdx_of_lt→yW,Nodup→yY,flatMap_append→yZ,lookup_append→yf,getElem?_take→yg,take_sublist→yk,reverse_cons→yo
open PySem.Heap renaming get?_push_of_some→uC,lt_size→uM,get?_push_size→uT,get?_update_self→uw,get?_update_other→xG,size_push→xO,SameBut→yE,get?_push_ne→yn
open PySem.W renaming Frag→uD,mg_none_of→ul,nsIn→xA,kia_one→xB,fnOf→xU,keepIn→yD,codeIn→yQ
open Nat renaming le_refl→uJ,lt_of_lt_of_le→uP,ne_of_lt→uR,zero_le→ua,lt_irrefl→u7,lt_succ_of_lt→xK,le_trans→xQ,ne_of_gt→xT,le_succ→xw,add_zero→xz,add_assoc→yO,le_of_ble_eq_true→yP,lt_succ_self→yU,le_of_lt→yi
open Bool renaming false_ne_true→uK,false_eq_true→ue,and_eq_true→xP,beq_eq_decide_eq→xa,eq_iff_iff→xj,false_xor→yR
open Array renaming length_toList→uU,getElem?_eq_getElem→um,getElem?_eq_none→uo,getElem?_toList→xJ,getD_eq_getD_getElem?→xt,perm_iff_toList_perm→yX,toList_push→ym
open Option renaming map_eq_some_iff→uV,map_some→xk,isSome_iff_exists→ye
open PySem.F renaming slot_dict_keyiterator_next→xI,plain_extend_loop→xb,plainAttrs_list→xn,plainAttrs_dict→yj
open PyProof.Rows renaming callWith_type1→xN,kindOf→xY,callWith_builtin1→yI
open Int renaming toNat_natCast→xW,le_refl→xx,eq_ofNat_of_zero_le→yH,le_of_lt→yS,emod_lt_of_pos→yh
namespace L2
open PySem PySem.Spec PyProof.Rows
noncomputable abbrev Key:=Sum Int Str
noncomputable def Xv:Key->Value->Bool
 | .inl k,v=>Value.isInt k v
 | .inr x,v=>Value.isStrOf x v
noncomputable def jI(w:World):Key->Int
 | .inl k=>hashInt k
 | .inr x=>hashStr w x
theorem jh:∀{k:Key} {v:Value},Xv k v=true->(∃i t,k=Sum.inl i/\v=Value.int i t)\/(∃x t,k=Sum.inr x/\v=Value.str x t)
 | .inl i,v,h=>by
  obtain⟨t,e⟩:=Value.isInt_shape (k:=i) (v:=v) h
  exact .inl ⟨i,t,rfl,e⟩
 | .inr x,v,h=>by
  obtain⟨t,e⟩:=Value.isStrOf_shape (x:=x) (v:=v) h
  exact .inr ⟨x,t,rfl,e⟩
theorem kaW(i:Int)(t:Tok):Xv (.inl i) (.int i t)=true:=by simp[Xv,Value.isInt]
theorem Xa2(x:Str)(t:Tok):Xv (.inr x) (.str x t)=true:=by simp[Xv,Value.isStrOf]
theorem wbr(a b:Int):decide ((Sum.inl a:Key)=Sum.inl b)=(a==b):=by
 by_cases e:a=b
 ·subst e;simp
 ·have h:¬(Sum.inl a:Key)=Sum.inl b:=fun q=>e (Sum.inl.inj q)
  rw[decide_eq_false h]
  exact(beq_eq_false_iff_ne.mpr e).symm
theorem Ybo(a b:Str):decide ((Sum.inr a:Key)=Sum.inr b)=decide (a=b):=by
 by_cases e:a=b
 ·subst e;simp
 ·have h:¬(Sum.inr a:Key)=Sum.inr b:=fun q=>e (Sum.inr.inj q)
  rw[decide_eq_false h,decide_eq_false e]
theorem kbr(a:Int)(b:Str):decide ((Sum.inl a:Key)=Sum.inr b)=false:=decide_eq_false (fun q=>nomatch q)
theorem Wbo(a:Str)(b:Int):decide ((Sum.inr a:Key)=Sum.inl b)=false:=decide_eq_false (fun q=>nomatch q)
noncomputable def We(prog:Program)(w:World):PySem.KeyKind prog w Key where
 is:=Xv
 hash:=jI w
 inj:=fun v a b ha hb=>by
  rcases jh ha with ⟨i,t,rfl,rfl⟩ | ⟨x,t,rfl,rfl⟩
  ·rcases jh hb with ⟨j,u,rfl,e⟩ | ⟨y,u,rfl,e⟩
   ·injection e with e1 _;rw[e1]
   ·exact nomatch e
  ·rcases jh hb with ⟨j,u,rfl,e⟩ | ⟨y,u,rfl,e⟩
   ·exact nomatch e
   ·injection e with e1 _;rw[e1]
 byValue:=fun k v h=>by
  rcases jh h with ⟨i,t,rfl,rfl⟩ | ⟨x,t,rfl,rfl⟩<;>rfl
 pyHash:=fun hv h=>by
  rcases jh hv with ⟨i,t,rfl,rfl⟩ | ⟨x,t,rfl,rfl⟩
  ·exact wpAny_pyHash_int h
  ·exact wpAny_pyHash_str h
 eqBool:=fun hu hv h=>by
  rcases jh hu with ⟨i,t,rfl,rfl⟩ | ⟨x,t,rfl,rfl⟩
  ·rcases jh hv with ⟨j,u,rfl,rfl⟩ | ⟨y,u,rfl,rfl⟩
   ·rw[wbr]at h;exact wpAny_eqBool_int h
   ·rw[kbr]at h;exact SeqAt.EqAt.int_str i t y u _ _ _ _ h
  ·rcases jh hv with ⟨j,u,rfl,rfl⟩ | ⟨y,u,rfl,rfl⟩
   ·rw[Wbo]at h;exact SeqAt.EqAt.str_int x t j u _ _ _ _ h
   ·rw[Ybo]at h;exact wpAny_eqBool_str h
 «strs»:=fun k x t v h=>by
  rcases jh h with ⟨i,u,rfl,e⟩ | ⟨y,u,rfl,e⟩
  ·exact nomatch e
  ·injection e with e1 _
   subst e1
   cases v<;>rfl
theorem vaI(prog:Program)(w:World)(i:Int)(t:Tok):(We prog w).is (.inl i) (.int i t)=true:=kaW i t
theorem jaI(prog:Program)(w:World)(x:Str)(t:Tok):(We prog w).is (.inr x) (.str x t)=true:=Xa2 x t
inductive V where
 | non | bl (b:Bool) | int (i:Int) | str (x:Str) | byt (b:Array UInt8) | flt (b:UInt64) | ref (a:Addr) | ty (n:String)
 deriving DecidableEq
def RelV:V->Value->Prop
 | .non,u=>u=Value.none
 | .bl b,u=>u=Value.bool b
 | .int i,u=>∃t,u=Value.int i t
 | .str x,u=>∃t,u=Value.str x t
 | .byt b,u=>∃t,u=Value.bytes b t
 | .flt b,u=>∃t,u=Value.float b t
 | .ref a,u=>u=Value.ref a
 | .ty n,u=>u=Value.type n
abbrev Vals:List V->List Value->Prop:=Paired RelV
theorem Vals.length{xs:List V}{us:List Value}(r:Vals xs us):xs.length=us.length:=Paired.length r
theorem Vals.get:∀{xs:List V} {us:List Value} {i:Nat} {x:V},Vals xs us->xs[i]?=some x->∃u,us[i]?=some u/\RelV x u
 | _,_,_,_,.nil,e=>by simp at e
 | _,_,0,_,.cons r _,e=>by simp at e;subst e;exact⟨_,rfl,r⟩
 | _,_,i+1,x,.cons _ t,e=>by
  obtain⟨u,h1,h2⟩:=Vals.get (i:=i) (x:=x) t (by simpa using e)
  exact⟨u,by simpa using h1,h2⟩
theorem Vals.set{x:V}{u:Value}(r:RelV x u):∀{xs:List V} {us:List Value} (i:Nat),Vals xs us->Vals (xs.set i x) (us.set i u)
 | _,_,_,.nil=>.nil
 | _,_,0,.cons _ t=>.cons r t
 | _,_,i+1,.cons q t=>.cons q (Vals.set r i t)
theorem Vals.append:∀{xs ys:List V} {us ws:List Value},Vals xs us->Vals ys ws->Vals (xs++ys) (us++ws)
 | _,_,_,_,.nil,s=>s
 | _,_,_,_,.cons r t,s=>.cons r (Vals.append t s)
theorem Vals.take:∀{xs:List V} {us:List Value} (n:Nat),Vals xs us->Vals (xs.take n) (us.take n)
 | _,_,0,_=>.nil
 | _,_,_+1,.nil=>.nil
 | _,_,n+1,.cons r t=>.cons r (Vals.take n t)
theorem Vals.drop:∀{xs:List V} {us:List Value} (n:Nat),Vals xs us->Vals (xs.drop n) (us.drop n)
 | _,_,0,r=>r
 | _,_,_+1,.nil=>.nil
 | _,_,n+1,.cons _ t=>Vals.drop n t
def RelO:Option V->Option Value->Prop
 | some v,some u=>RelV v u
 | none,none=>True
 | _,_=>False
def KV{κ:Type}:List (κ×V)->List (κ×Value)->Prop:=Paired fun(p:κ×V) (q:κ×Value)=>p.1=q.1/\RelV p.2 q.2
noncomputable def kV:Key->V
 | .inl i=>.int i
 | .inr x=>.str x
inductive HO where
 /-- a list -/
 | lst (xs:List V)
 /-- a tuple (never changes) -/
 | tup (xs:List V)
 /-- a dict whose keys are ints and texts;one whose keys are tuples of ints and texts (the empty one is both) -/
 | dK (kvs:List (Key×V)) | dT (kvs:List (List Key×V))
 /-- a set of ints: its members,its size -/
 | set (S:Int->Bool) (n:Nat)
 /-- an instance of the class at C,its dict at dx,its attributes -/
 | ins (C dx:Addr) (fs:List (Str×V))
 /-- the dict of the instance at x -/
 | own (x:Addr)
 /-- the dict of an exception -/
 | xd (fs:List (Str×V))
 /-- a bound method,f of x -/
 | met (f x:Addr)
 /-- a range object lo,lo+1,.. below hi -/
 | rng (lo hi:Int)
 /-- a thing that is known to the object (the script;a dict while a loop walks it): read,never written while it is so -/
 | frz (o:Obj) (u:HO)
 /-- a code object's table -/
 | tbl (ps:Array Value)
 /-- any other thing,by what is true of its one object (a def of one's own: SetO a S n:=HO.ext fun h=>..) -/
 | ext (φ:Heap->Prop)
noncomputable abbrev Hp:=Addr->Option HO
noncomputable def upd(H:Hp)(a:Addr)(o:HO):Hp:=fun b=>if b=a then some o else H b
theorem Wg{H:Hp}{a:Addr}{o:HO}:upd H a o a=some o:=by unfold upd;rw[if_pos rfl]
theorem Yd{H:Hp}{a b:Addr}{o:HO}(h:b≠a):upd H a o b=H b:=by unfold upd;rw[if_neg h]
theorem wbe{H:Hp}{a b:Addr}{o u:HO}(h:H a=some o)(h':H b=some u)(d:o≠u):a≠b:=by
 intro e;subst e;rw[h]at h';exact d (Option.some.inj h')
theorem jd{H:Hp}{a b:Addr}{o:HO}(h:H a=some o)(h':H b=none):a≠b:=by
 intro e;subst e;rw[h]at h';cases h'
section
variable (P:Program) (w:World)
def ObjOk(H:Hp)(h:Heap)(a:Addr):HO->Prop
 | .lst xs=>xs.length<=sizeLine/\∃(its:List Value) (n:Nat),Vals xs its/\h.get? a=some {cls:=.type "list",data:=.seq its.toArray n}
 | .tup xs=>xs.length<=sizeLine/\∃its:List Value,Vals xs its/\IsTup h a its.toArray
 | .dK kvs=>kvs.length<=sizeLine/\(a==sysModules)=false/\∃vs,KV kvs vs/\h.DictOf (We P w) a vs
 | .dT kvs=>kvs.length<=sizeLine/\(a==sysModules)=false/\∃xs:List (List Key×Addr×Value),
   Paired (fun(p:List Key×V) (q:List Key×Addr×Value)=>p.1=q.1/\H q.2.1=some (.tup (p.1.map kV))/\RelV p.2 q.2.2) kvs xs ∧
   ∃o es ep,h.get? a=some o/\o.ExactDict/\o.data=.dict es ep/\es.toList=xs.map (entryOfKey (tupleKind (We P w)))/\(xs.map (·.1)).Nodup
 | .set S n=>h.SetOf (intKind P w) a S n
 | .ins C dx fs=>H dx=some (.own a)/\fs.length<=1000/\dx≠a/\h.get? a=some (PySem.W.instObj C dx) ∧
   ∃mA,h.Ns1 dx mA/\(∀f,RelO (fs.lookup f) (mA f))/\PySem.Within mA (fs.map (·.1))
 | .own _=>∃o,h.get? a=some o
 | .xd fs=>∃mA,h.Ns1 a mA/\∀f,RelO (fs.lookup f) (mA f)
 | .rng lo hi=>∃t u v,h.get? a=some {cls:=.type "range",data:=.fields #[.int lo t,.int hi u,.int 1 v]}
 | .frz o u=>h.get? a=some o/\ObjOk H h a u
 | .tbl ps=>h.get? a=some {cls:=.none,data:=.fields ps}
 | .met f x=>h.get? a=some (PySem.W.methodObj (.ref f) (.ref x))
 | .ext φ=>φ h/\(∃o,h.get? a=some o)/\∀h1 h2:Heap,φ h1->(∀o,h1.get? a=some o->h2.get? a=some o)->φ h2
def HOk(H:Hp)(h:Heap):Prop:=∀a o,H a=some o->ObjOk P w H h a o
end
section
variable {P:Program} {w:World} {H H':Hp} {h h':Heap} {a:Addr} {o:HO}
theorem ObjOk.lt(x:ObjOk P w H h a o):a<h.objs.size:=by
 cases o with
 | lst xs=>obtain⟨_,_,_,_,e⟩:=x;exact uM e
 | tup xs=>obtain⟨_,_,_,p⟩:=x;exact p.lt
 | dK kvs=>obtain⟨_,_,_,_,o,_,_,e,_⟩:=x;exact uM e
 | dT kvs=>obtain⟨_,_,_,_,o,_,_,e,_⟩:=x;exact uM e
 | set S n=>obtain⟨o,_,_,_,e,_⟩:=x;exact uM e
 | ins C dx fs=>obtain⟨_,_,_,e,_⟩:=x;exact uM e
 | own y=>obtain⟨_,e⟩:=x;exact uM e
 | xd fs=>obtain⟨_,⟨_,_,_,e,_⟩,_⟩:=x;exact uM e
 | rng lo hi=>obtain⟨_,_,_,e⟩:=x;exact uM e
 | frz ob u=>obtain⟨e,_⟩:=x;exact uM e
 | tbl ps=>exact uM (show h.get? a=some _ from x)
 | met f y=>exact uM (show h.get? a=some _ from x)
 | ext φ=>obtain⟨_,⟨_,e⟩,_⟩:=x;exact uM e
theorem Paired.mapP{α β:Type}{F G:α->β->Prop}:∀{l₁:List α} {l₂:List β},Paired F l₁ l₂->(∀a b,F a b->G a b)->Paired G l₁ l₂
 | _,_,.nil,_=>.nil
 | _,_,.cons r t,f=>.cons (f _ _ r) (Paired.mapP t f)
theorem ObjOk.stay(x:ObjOk P w H h a o)(k:∀b u,(b=a\/H b=some (.own a))->h.get? b=some u->h'.get? b=some u)
  (ho:∀b,H b=some (.own a)->H' b=some (.own a)) (ht:∀b xs,H b=some (.tup xs)->H' b=some (.tup xs)):ObjOk P w H' h' a o:=by
 induction o with
 | lst xs=>obtain⟨z,its,n,r,e⟩:=x;exact⟨z,its,n,r,k _ _ (.inl rfl) e⟩
 | tup xs=>obtain⟨z,its,r,ob,e,c⟩:=x;exact⟨z,its,r,ob,k _ _ (.inl rfl) e,c⟩
 | dK kvs=>obtain⟨z,y,vs,r,ob,es,ep,e,c⟩:=x;exact⟨z,y,vs,r,ob,es,ep,k _ _ (.inl rfl) e,c⟩
 | dT kvs=>
  obtain⟨z,y,xs,r,ob,es,ep,e,c⟩:=x
  exact⟨z,y,xs,Paired.mapP r fun p q z=>⟨z.1,ht _ _ z.2.1,z.2.2⟩,ob,es,ep,k _ _ (.inl rfl) e,c⟩
 | set S n=>obtain⟨ob,es,ep,t,e,c⟩:=x;exact⟨ob,es,ep,t,k _ _ (.inl rfl) e,c⟩
 | ins C dx fs=>
  obtain⟨d,z,ne,e,mA,⟨od,es,ep,e2,c⟩,r⟩:=x
  exact⟨ho _ d,z,ne,k _ _ (.inl rfl) e,mA,⟨od,es,ep,k _ _ (.inr d) e2,c⟩,r⟩
 | own y=>obtain⟨ob,e⟩:=x;exact⟨ob,k _ _ (.inl rfl) e⟩
 | xd fs=>obtain⟨mA,⟨od,es,ep,e,c⟩,r⟩:=x;exact⟨mA,⟨od,es,ep,k _ _ (.inl rfl) e,c⟩,r⟩
 | rng lo hi=>obtain⟨t,u,v,e⟩:=x;exact⟨t,u,v,k _ _ (.inl rfl) e⟩
 | frz ob u ih=>obtain⟨e,q⟩:=x;exact⟨k _ _ (.inl rfl) e,ih q⟩
 | tbl ps=>
  have e:h.get? a=some {cls:=.none,data:=.fields ps}:=x
  show h'.get? a=some {cls:=.none,data:=.fields ps}
  exact k a _ (.inl rfl) e
 | met f y=>
  have e:h.get? a=some (PySem.W.methodObj (.ref f) (.ref y)):=x
  show h'.get? a=some (PySem.W.methodObj (.ref f) (.ref y))
  exact k a _ (.inl rfl) e
 | ext φ=>obtain⟨p,⟨o,e⟩,st⟩:=x;exact⟨st _ _ p fun o q=>k _ _ (.inl rfl) q,⟨o,k _ _ (.inl rfl) e⟩,st⟩
theorem HOk.lt(x:HOk P w H h)(e:H a=some o):a<h.objs.size:=(x a o e).lt
theorem HOk.fresh(x:HOk P w H h)(e:h.objs.size<=a):H a=none:=by
 cases q:H a with
 | none=>rfl
 | some u=>exact absurd (uP (x.lt q) e) (u7 _)
theorem HOk.kept(x:HOk P w H h)(k:∀b u,h.get? b=some u->h'.get? b=some u):HOk P w H h':=fun a o e=>
 (x a o e).stay (fun b u _ q=>k b u q) (fun _ q=>q) fun _ _ q=>q
theorem HOk.laid(x:HOk P w H h)(k:∀b u,h.get? b=some u->h'.get? b=some u)(hp:h.objs.size<=a)(new:ObjOk P w (upd H a o) h' a o):HOk P w (upd H a o) h':=fun b u e=>by
 have hn:=x.fresh hp
 by_cases hb:b=a
 ·subst hb;rw[Wg]at e;cases e;exact new
 ·rw[Yd hb]at e
  exact(x b u e).stay (fun c v _ q=>k c v q) (fun c q=>by rw[Yd (jd q hn)];exact q) fun c xs q=>by rw[Yd (jd q hn)];exact q
end
def Rd(H:Hp)(a:Addr)(u:HO):Prop:=H a=some u\/∃o,H a=some (.frz o u)
theorem Rd.ok{P:Program}{w:World}{H:Hp}{h:Heap}{a:Addr}{u:HO}(r:Rd H a u)(x:HOk P w H h):ObjOk P w H h a u:=by
 rcases r with r | ⟨o,r⟩
 ·exact x a u r
 ·obtain⟨_,q⟩:=x a _ r
  exact q
def Mut:Option HO->Prop
 | some (.lst _)=>True
 | some (.dK _)=>True
 | some (.dT _)=>True
 | some (.set _ _)=>True
 | some (.ins _ _ _)=>True
 | some (.ext _)=>True
 | _=>False
section
variable {P:Program} {w:World} {H:Hp} {h h':Heap} {x e:Addr} {o':HO}
theorem HOk.write(ok:HOk P w H h)(mu:Mut (H x))(he:e=x\/H e=some (.own x))(k:∀b u,b≠e->h.get? b=some u->h'.get? b=some u)(heo:∃u,h'.get? e=some u)
  (new:ObjOk P w (upd H x o') h' x o'):HOk P w (upd H x o') h':=fun b u q=>by
 have nown:∀c y,H c=some (.own y)->c≠x:=fun c y r z=>by subst z;rw[r]at mu;exact mu
 have ntup:∀c xs,H c=some (.tup xs)->c≠x:=fun c xs r z=>by subst z;rw[r]at mu;exact mu
 by_cases hb:b=x
 ·subst hb;rw[Wg]at q;cases q;exact new
 ·rw[Yd hb]at q
  by_cases hbe:b=e
  ·have q':H b=some (.own x):=by
    rcases he with z | z
    ·exact absurd (hbe.trans z) hb
    ·rw[hbe];exact z
   rw[q]at q';cases q'
   obtain⟨v,hv⟩:=heo
   exact⟨v,by rw[hbe];exact hv⟩
  ·refine(ok b u q).stay (fun c v hc r=>k c v ?_ r) (fun c r=>by rw[Yd (nown c b r)];exact r) fun c xs r=>by rw[Yd (ntup c xs r)];exact r
   rcases hc with rfl | hc
   ·exact hbe
   ·rintro rfl
    rcases he with z | z
    ·exact nown c b hc z
    ·rw[hc]at z;cases z;exact hb rfl
end
structure Un(fs ex:List Addr)(H H':Hp)(h h':Heap):Prop where
 keep:∀b o,h.get? b=some o->H b=none->b∉fs->b∉ex->h'.get? b=some o
 slot:∀b o,h.get? b=some o->H b=none->b∈fs->b∉ex->∃sl,h'.get? b=some {o with slots:=sl}
 free:∀b o,h.get? b=some o->H b=none->b∉ex->H' b=none
 there:∀b o,h.get? b=some o->b∉ex->∃o',h'.get? b=some o'
 tups:∀b xs,H b=some (.tup xs)->H' b=some (.tup xs)
 frzs:∀b o u,H b=some (.frz o u)->H' b=some (.frz o u)
 tbls:∀b ps,H b=some (.tbl ps)->∃more,H' b=some (.tbl (ps++more))
section
variable {fs fs' ex ex':List Addr} {H H1 H2:Hp} {h h1 h2 h':Heap} {a x e:Addr} {o:HO}
theorem Un.any(u:Un fs ex H H1 h h1){b:Addr}{ob:Obj}(q:h.get? b=some ob)(n:H b=none)(hx:b∉ex):∃sl,h1.get? b=some {ob with slots:=sl}:=by
 by_cases hb:b∈fs
 ·exact u.slot b ob q n hb hx
 ·exact⟨ob.slots,u.keep b ob q n hb hx⟩
theorem Un.kept(k:∀b u,h.get? b=some u->h'.get? b=some u):Un fs ex H H h h':=
 ⟨fun b ob q _ _ _=>k b ob q,fun b ob q _ _ _=>⟨ob.slots,k b ob q⟩,fun _ _ _ n _=>n,fun b ob q _=>⟨ob,k b ob q⟩,fun _ _ q=>q,fun _ _ _ q=>q,fun _ ps q=>⟨#[],by rw[q];simp⟩⟩
theorem Un.refl:Un fs ex H H h h:=Un.kept fun _ _ q=>q
theorem Un.laid(k:∀b u,h.get? b=some u->h'.get? b=some u)(hp:h.objs.size<=a)(hn:H a=none):Un fs ex H (upd H a o) h h' where
 keep:=fun b u q _ _ _=>k b u q
 slot:=fun b u q _ _ _=>⟨u.slots,k b u q⟩
 free:=fun b u q n _=>by rw[Yd (uR (uP (uM q) hp))];exact n
 there:=fun b u q _=>⟨u,k b u q⟩
 tups:=fun b xs q=>by rw[Yd (jd q hn)];exact q
 frzs:=fun b u xs q=>by rw[Yd (jd q hn)];exact q
 tbls:=fun b ps q=>⟨#[],by rw[Yd (jd q hn),q];simp⟩
theorem Un.write(mu:Mut (H x))(he:e=x\/H e=some (.own x))(k:∀b u,b≠e->h.get? b=some u->h'.get? b=some u)(heo:∃u,h'.get? e=some u):Un fs ex H (upd H x o) h h':=by
 have hx:∀b,H b=none->b≠x:=fun b n z=>by subst z;rw[n]at mu;exact mu
 have hb:∀b,H b=none->b≠e:=fun b n z=>by
  subst z
  rcases he with r | r
  ·exact hx b n r
  ·rw[n]at r;cases r
 have hm:∀b u,H b=some u->¬Mut (some u)->b≠x:=fun b u q nm z=>by subst z;rw[q]at mu;exact nm mu
 refine⟨fun b u q n _ _=>k b u (hb b n) q,fun b u q n _ _=>⟨u.slots,k b u (hb b n) q⟩,fun b u q n _=>by rw[Yd (hx b n)];exact n,fun b u q _=>?_,
  fun b xs q=>by rw[Yd (hm b _ q fun z=>z)];exact q,fun b u xs q=>by rw[Yd (hm b _ q fun z=>z)];exact q,fun b ps q=>⟨#[],by rw[Yd (hm b _ q fun z=>z),q];simp⟩⟩
 by_cases hbe:b=e
 ·subst hbe;exact heo
 ·exact⟨u,k b u hbe q⟩
end
noncomputable def trk(h:Heap)(H:Hp):List Addr:=(xC h.objs.size).filter fun a=>(H a).isSome
noncomputable def jU(h:Heap)(H:Hp):Heap:=PySem.W.hideAll h (trk h H)
theorem Ya1(h:Heap)(H:Hp):(jU h H).objs.size=h.objs.size:=PySem.W.hideAll_size _ _
theorem wba{h:Heap}{H:Hp}{b:Addr}{o:Obj}(e:h.get? b=some o)(n:H b=none):(jU h H).get? b=some o:=
 PySem.W.hideAll_get _ e fun hm=>by
  have q:(H b).isSome=true:=(xi.mp hm).2
  rw[n]at q;simp at q
theorem Zbf{h:Heap}{H:Hp}{b:Addr}{o:Obj}(e:(jU h H).get? b=some o):h.get? b=some o/\H b=none:=by
 have e':h.get? b=some o:=PySem.W.of_hideAll (trk h H) e
 refine⟨e',?_⟩
 cases q:H b with
 | none=>rfl
 | some x=>
  have hm:b∈trk h H:=xi.mpr ⟨xf.mpr (uM e'),by simp[q]⟩
  have z:(jU h H).get? b=none:=PySem.W.hideAll_none (trk h H) hm
  rw[z]at e;cases e
noncomputable def Xbl(g h:Heap)(L:Addr):ZPO:=(xC h.objs.size).filterMap fun a=>if a=L\/(g.get? a).isSome=true then none else (h.get? a).map fun o=>(a,o)
noncomputable def rest(g h:Heap)(L d:Addr):ZPO:=(Xbl g h L).filter fun p=>decide (p.1≠d)
structure Mod(K:uD)(mg:Str->Option Value)(base:Heap):Prop where
 kin:K.In base
 glob:base.Ns mainGlobals mg
 blt:∃mb,base.Ns builtinsNs mb/\∀x:Str,x≠"__name__"->mb x=bootBuiltins x
 nolimit:base.NoLimit
structure Cx where
 prog:Program
 w:World
 K:uD
 mg:Str->Option Value
 base:Heap
 A:Around
 N:List Str
 s₀:Shared
 H₀:Hp
 env:Env
 outer:List Env
 stack:List Env
 ex:List Addr
 fn:Str->Bool
 calm:Bool
 pn:ZPO
 xe:ZVP
noncomputable def frs(l:List Env):List Addr:=l.filterMap (·.frame)
noncomputable abbrev Cx.fs(X:Cx):List Addr:=frs X.outer
def Vis(sc:Scope)(x:Str):Prop:=sc.names.lookup x=some .local\/sc.names.lookup x=some .cell\/sc.names.lookup x=some .free
def Loc(sc:Scope)(x:Str):Prop:=sc.names.lookup x=some .local\/sc.names.lookup x=some .cell
def WaG(env:Env)(h:Heap)(m:Str->Option Value)(x:Str)(u:Value):Prop:=
 (env.kindOf x=some .local/\m x=some u)\/((env.kindOf x=some .cell\/env.kindOf x=some .free)/\∃c,env.cells.lookup x=some c/\h.IsCell c (some u))
structure Cx.Ok(X:Cx):Prop where
 mod:Mod X.K X.mg X.base
 kind:X.env.scope.kind=.function
 glob:X.env.globals=mainGlobals
 blt:X.env.builtins=builtinsNs
 above:X.s₀.heap.objs.size<=X.env.locals
 inj:∀x y c,X.env.cells.lookup x=some c->X.env.cells.lookup y=some c->x=y
 has:∀x,(X.env.kindOf x=some .cell\/X.env.kindOf x=some .free)->∃c,X.env.cells.lookup x=some c
 cab:∀x c,X.fn x=true->X.env.cells.lookup x=some c->X.s₀.heap.objs.size<=c
 hd:X.calm=true->X.A.handled=none
 frames:X.A.frames=some X.stack
 stk:X.stack=X.outer\/(X.stack=X.env::X.outer/\X.env.frame=some X.env.locals)
 exf:∀b∈X.ex,b≠X.env.locals/\∀x c,X.env.cells.lookup x=some c->c≠b
 bs:∀b o,X.base.get? b=some o->X.s₀.heap.get? b=some o/\X.H₀ b=none
 bsz:X.base.objs.size<=X.s₀.heap.objs.size
 noex:∀b o,X.base.get? b=some o->b∉X.ex
 exfs:∀b∈X.ex,b∉X.fs
 funs:X.s₀.heap.FunFrames X.base X.outer
 frf:∀b∈X.fs,X.H₀ b=none
structure Inv(X:Cx)(pins:ZPO)(σ:List (Option V))(H:Hp)(s:Shared):Prop where
 ok:X.Ok
 os:s.os=X.s₀.os
 bare:AllBare s.gens
 base:Un X.fs X.ex X.H₀ H X.s₀.heap s.heap
 loc:∃m,s.heap.Ns X.env.locals m/\∀(i:Nat) (x:Str) (v:V),X.N[i]?=some x->σ[i]?=some (some v)->Vis X.env.scope x->∃u,RelV v u/\WaG X.env s.heap m x u
 cell:∀x c,X.env.cells.lookup x=some c->∃v,s.heap.IsCell c v
 free:H X.env.locals=none
 freeC:∀x c,X.env.cells.lookup x=some c->H c=none
 pin:∀p∈X.pn++pins,s.heap.get? p.1=some p.2/\H p.1=none/\p.1≠X.env.locals/\p.1∉X.fs/\∀v,p.2.data≠.cell v
 hok:HOk X.prog X.w H s.heap
 len:σ.length=X.N.length
section
variable {X:Cx} {pins:ZPO} {σ:List (Option V)} {H H':Hp} {s:Shared} {h':Heap}
theorem Cx.Ok.nofr(ok:X.Ok){b:Addr}{o:Obj}(e:X.base.get? b=some o):b∉X.fs:=fun hb=>by
 have:=(ok.funs.mem hb).1
 rw[e]at this;cases this
theorem Inv.bs(I:Inv X pins σ H s):∀b o,X.base.get? b=some o->s.heap.get? b=some o/\H b=none:=fun b o e=>
 ⟨I.base.keep b o (I.ok.bs b o e).1 (I.ok.bs b o e).2 (I.ok.nofr e) (I.ok.noex b o e),I.base.free b o (I.ok.bs b o e).1 (I.ok.bs b o e).2 (I.ok.noex b o e)⟩
theorem Inv.bk(I:Inv X pins σ H s):∀b o,X.base.get? b=some o->s.heap.get? b=some o:=fun b o e=>(I.bs b o e).1
theorem Inv.mod(I:Inv X pins σ H s):Mod X.K X.mg X.base:=I.ok.mod
theorem Inv.kIn(I:Inv X pins σ H s):X.K.In s.heap:=I.ok.mod.kin.keeps I.bk
theorem Inv.lt(I:Inv X pins σ H s):X.env.locals<s.heap.objs.size:=let ⟨_,hn,_⟩:=I.loc;hn.lt
theorem Inv.sz(I:Inv X pins σ H s):X.s₀.heap.objs.size<=s.heap.objs.size:=xQ I.ok.above (yi I.lt)
theorem Inv.nofs(I:Inv X pins σ H s){a:Addr}(h:s.heap.objs.size<=a):a∉X.fs:=fun hb=>by
 obtain⟨_,o,ho,_⟩:=I.ok.funs.mem hb
 exact absurd (uP (uM ho) (xQ I.sz h)) (u7 _)
theorem Inv.cne(I:Inv X pins σ H s):∀x c,X.env.cells.lookup x=some c->c≠X.env.locals:=fun x c e z=>by
 obtain⟨v,o,ho,hd⟩:=I.cell x c e
 obtain⟨m,⟨o',es,ep,ho',hd',_⟩,_⟩:=I.loc
 rw[z,ho']at ho;cases ho;rw[hd']at hd;cases hd
theorem Inv.funs(I:Inv X pins σ H s):s.heap.FunFrames X.base X.outer:=by
 have all:∀(l:List Env),(∀b∈frs l,b∈X.fs)->X.s₀.heap.FunFrames X.base l->s.heap.FunFrames X.base l:=by
  intro l
  induction l with
  | nil=>intro _ _;trivial
  | cons env r ih=>
   intro hs hl
   obtain⟨hk,⟨L,o,hf,hn,ho,hd⟩,hr⟩:=hl
   have hL:L∈X.fs:=hs L (by unfold frs;rw[List.filterMap_cons,hf];exact uc)
   obtain⟨sl,e⟩:=I.base.slot L o ho (I.ok.frf L hL) hL fun z=>I.ok.exfs L z hL
   exact⟨hk,⟨L,_,hf,hn,e,hd⟩,ih (fun b hb=>hs b (by unfold frs;rw[List.filterMap_cons,hf];exact uW _ hb)) hr⟩
 exact all X.outer (fun _ hb=>hb) I.ok.funs
theorem Inv.stack(I:Inv X pins σ H s):s.heap.FunFrames X.base X.stack:=by
 rcases I.ok.stk with e | ⟨e,hf⟩
 ·rw[e];exact I.funs
 ·rw[e]
  obtain⟨m,hn,_⟩:=I.loc
  refine .cons (by rw[I.ok.kind];decide) hf hn ?_ I.funs
  exact Heap.get?_none_of_le (xQ I.ok.bsz I.ok.above)
theorem Inv.stkSub(I:Inv X pins σ H s):∀b∈frs X.stack,b∈X.env.locals::X.fs:=fun b hb=>by
 rcases I.ok.stk with e | ⟨e,hf⟩
 ·rw[e]at hb;exact uW _ hb
 ·rw[e]at hb
  unfold frs at hb
  rw[List.filterMap_cons,hf]at hb
  exact hb
theorem Inv.stkFree(I:Inv X pins σ H s):∀b∈frs X.stack,H b=none:=fun b hb=>by
 rcases uZ.mp (I.stkSub b hb) with e | hb
 ·rw[e];exact I.free
 ·obtain⟨_,o,ho,_⟩:=I.ok.funs.mem hb
  exact I.base.free b o ho (I.ok.frf b hb) fun z=>I.ok.exfs b z hb
theorem Inv.step{g':Array GenState}{t':Nat}{d':Drawn}{ch:List Addr}(I:Inv X pins σ H s)
  (hch:∀b∈ch,(b∈X.ex\/X.s₀.heap.objs.size<=b)/\b≠X.env.locals/\(∀x c,X.env.cells.lookup x=some c->c≠b)/\∀p∈X.pn++pins,p.1≠b)
  (keep:∀b o,b≠X.env.locals->b∉X.fs->b∉ch->s.heap.get? b=some o->H b=none->h'.get? b=some o)
  (slot:∀b o,b≠X.env.locals->b∈X.fs->b∉ch->s.heap.get? b=some o->H b=none->∃sl,h'.get? b=some {o with slots:=sl}) (free:∀b o,b∉ch->s.heap.get? b=some o->H b=none->H' b=none)
  (there:∀b o,b∉ch->s.heap.get? b=some o->∃o',h'.get? b=some o')
  (tups:∀b xs,H b=some (.tup xs)->H' b=some (.tup xs)) (frzs:∀b o u,H b=some (.frz o u)->H' b=some (.frz o u)) (tbls:∀b ps,H b=some (.tbl ps)->∃more,H' b=some (.tbl (ps++more)))
  (ns:∀m,s.heap.Ns X.env.locals m->h'.Ns X.env.locals m) (hok:HOk X.prog X.w H' h') (hg:AllBare g') :
  Inv X pins σ H' {s with heap:=h',gens:=g',drawn:=d',toks:=t'}:=by
 have neL:∀b o,X.s₀.heap.get? b=some o->b≠X.env.locals:=fun b o e=>uR (uP (uM e) I.ok.above)
 have neC:∀b o,X.s₀.heap.get? b=some o->b∉X.ex->b∉ch:=fun b o e hx hb=>by
  rcases (hch b hb).1 with z | z
  ·exact hx z
  ·exact absurd (uP (uM e) z) (u7 _)
 have cellK:∀x c,X.env.cells.lookup x=some c->∀v,s.heap.IsCell c v->h'.IsCell c v:=fun x c e v w1_=>w1_.elim fun o z_=>z_.elim fun ho hd=>by
  have nch:c∉ch:=fun z=>(hch c z).2.2.1 x c e rfl
  by_cases hc:c∈X.fs
  ·obtain⟨sl,q⟩:=slot c o (I.cne x c e) hc nch ho (I.freeC x c e)
   exact⟨_,q,hd⟩
  ·exact⟨o,keep c o (I.cne x c e) hc nch ho (I.freeC x c e),hd⟩
 refine⟨I.ok,I.os,hg,⟨fun b o e n hb hx=>?_,fun b o e n hb hx=>?_,fun b o e n hx=>?_,fun b o e hx=>?_,fun b xs e=>tups b xs (I.base.tups b xs e),fun b o xs e=>frzs b o xs (I.base.frzs b o xs e),fun b ps e=>?_⟩,?_,fun x c e=>?_,?_,fun x c e=>?_,fun p hp=>?_,hok,I.len⟩
 ·exact keep b o (neL b o e) hb (neC b o e hx) (I.base.keep b o e n hb hx) (I.base.free b o e n hx)
 ·obtain⟨sl,e1⟩:=I.base.slot b o e n hb hx
  obtain⟨sl',e2⟩:=slot b _ (neL b o e) hb (neC b o e hx) e1 (I.base.free b o e n hx)
  exact⟨sl',e2⟩
 ·obtain⟨o',e1⟩:=I.base.there b o e hx
  exact free b o' (neC b o e hx) e1 (I.base.free b o e n hx)
 ·obtain⟨o',e1⟩:=I.base.there b o e hx
  exact there b o' (neC b o e hx) e1
 ·obtain⟨m1,e1⟩:=I.base.tbls b ps e
  obtain⟨m2,e2⟩:=tbls b _ e1
  exact⟨m1++m2,by rw[e2,Array.append_assoc]⟩
 ·obtain⟨m,hn,hl⟩:=I.loc
  refine⟨m,ns m hn,fun i x v e1 e2 e3=>?_⟩
  obtain⟨u,r,l⟩:=hl i x v e1 e2 e3
  refine⟨u,r,?_⟩
  rcases l with l | ⟨k,c,e,z⟩
  ·exact .inl l
  ·exact .inr ⟨k,c,e,cellK x c e _ z⟩
 ·obtain⟨v,z⟩:=I.cell x c e
  exact⟨v,cellK x c e v z⟩
 ·obtain⟨m,⟨o,_,_,ho,_⟩,_⟩:=I.loc
  exact free _ o (fun z=>(hch _ z).2.1 rfl) ho I.free
 ·obtain⟨v,o,ho,hd⟩:=I.cell x c e
  exact free c o (fun z=>(hch c z).2.2.1 x c e rfl) ho (I.freeC x c e)
 ·obtain⟨e,n,ne,nf,d⟩:=I.pin p hp
  have nch:p.1∉ch:=fun z=>(hch p.1 z).2.2.2 p hp rfl
  exact⟨keep p.1 p.2 ne nf nch e n,free p.1 p.2 nch e n,ne,nf,d⟩
theorem Inv.un{t':Nat}(I:Inv X pins σ H s)(u:Un X.fs [] H H' s.heap h')(hok:HOk X.prog X.w H' h'):Inv X pins σ H' {s with heap:=h',toks:=t'}:=by
 obtain⟨m,⟨o,es,ep,ho,r⟩,_⟩:=id I.loc
 obtain⟨sl,hL⟩:=u.any ho I.free (by simp)
 exact I.step (g':=s.gens) (d':=s.drawn) (ch:=[]) (fun _ z=>nomatch z) (fun b o _ hb _ e n=>u.keep b o e n hb (by simp)) (fun b o _ hb _ e n=>u.slot b o e n hb (by simp)) (fun b o _ e n=>u.free b o e n (by simp)) (fun b o _ e=>u.there b o e (by simp)) u.tups u.frzs u.tbls (fun m' hm=>by
  obtain⟨o',es',ep',ho',r'⟩:=hm
  rw[ho]at ho';cases ho'
  exact⟨_,es',ep',hL,r'⟩) hok I.bare
theorem Inv.call{g':Array GenState}{t':Nat}{d':Drawn}{ch:List Addr}(I:Inv X pins σ H s)(u:Un (frs X.stack) ch H H' s.heap h')(hok:HOk X.prog X.w H' h')(hg:AllBare g')
  (hch:∀b∈ch,(b∈X.ex\/X.s₀.heap.objs.size<=b)/\b≠X.env.locals/\(∀x c,X.env.cells.lookup x=some c->c≠b)/\∀p∈X.pn++pins,p.1≠b) :
  Inv X pins σ H' {s with heap:=h',gens:=g',drawn:=d',toks:=t'}:=by
 obtain⟨m,⟨o,es,ep,ho,r⟩,_⟩:=id I.loc
 obtain⟨sl,hL⟩:=u.any ho I.free fun z=>(hch _ z).2.1 rfl
 exact I.step (ch:=ch) hch (fun b o hL hb hc e n=>u.keep b o e n (fun z=>(uZ.mp (I.stkSub b z)).elim hL hb) hc) (fun b o _ _ hc e n=>u.any e n hc) (fun b o hc e n=>u.free b o e n hc) (fun b o hc e=>u.there b o e hc) u.tups u.frzs u.tbls (fun m' hm=>by
  obtain⟨o',es',ep',ho',r'⟩:=hm
  rw[ho]at ho';cases ho'
  exact⟨_,es',ep',hL,r'⟩) hok hg
theorem Inv.turned{t':Nat}{it:Addr}(I:Inv X pins σ H s)(k:∀b o,b≠it->s.heap.get? b=some o->h'.get? b=some o)(hn:H it=none)(hL:it≠X.env.locals)
  (h1:it∈X.ex\/X.s₀.heap.objs.size<=it) (h2:∀x c,X.env.cells.lookup x=some c->c≠it) (h3:∀p∈X.pn++pins,p.1≠it):Inv X pins σ H {s with heap:=h',toks:=t'}:=by
 have nit:∀b u,H b=some u->b≠it:=fun b u e z=>by rw[z,hn]at e;cases e
 refine I.step (g':=s.gens) (d':=s.drawn) (ch:=[it]) (fun b hb=>?_) (fun b o _ _ hc e _=>k b o (fun z=>hc (by simp[z])) e) (fun b o _ _ hc e _=>⟨o.slots,k b o (fun z=>hc (by simp[z])) e⟩) (fun _ _ _ _ n=>n)
  (fun b o hc e=>⟨o,k b o (fun z=>hc (by simp[z])) e⟩) (fun _ _ e=>e) (fun _ _ _ e=>e) (fun b ps e=>⟨#[],by rw[e];simp⟩) (fun m hm=>?_) (fun b u e=>?_) I.bare
 ·have e:b=it:=by simpa using hb
  subst e
  exact⟨h1,hL,h2,h3⟩
 ·obtain⟨o,es,ep,ho,r⟩:=hm
  exact⟨o,es,ep,k _ o (Ne.symm hL) ho,r⟩
 ·refine(I.hok b u e).stay (fun c v hc q=>k c v ?_ q) (fun _ q=>q) fun _ _ q=>q
  rcases hc with z | z
  ·rw[z];exact nit b u e
  ·exact nit c _ z
theorem Inv.tok(I:Inv X pins σ H s)(t:Nat):Inv X pins σ H {s with toks:=t}:=I.un (h':=s.heap) (t':=t) Un.refl I.hok
theorem Inv.kept{t':Nat}(I:Inv X pins σ H s)(k:∀b u,s.heap.get? b=some u->h'.get? b=some u):Inv X pins σ H {s with heap:=h',toks:=t'}:=I.un (Un.kept k) (I.hok.kept k)
theorem Inv.laid{a:Addr}{o:HO}{t':Nat}(I:Inv X pins σ H s)(k:∀b u,s.heap.get? b=some u->h'.get? b=some u)(hp:s.heap.objs.size<=a)(new:ObjOk X.prog X.w (upd H a o) h' a o) :
  Inv X pins σ (upd H a o) {s with heap:=h',toks:=t'}:=I.un (Un.laid k hp (I.hok.fresh hp)) (I.hok.laid k hp new)
theorem Inv.write{x e:Addr}{o:HO}{t':Nat}(I:Inv X pins σ H s)(mu:Mut (H x))(he:e=x\/H e=some (.own x))(k:∀b u,b≠e->s.heap.get? b=some u->h'.get? b=some u)(heo:∃u,h'.get? e=some u)
  (new:ObjOk X.prog X.w (upd H x o) h' x o):Inv X pins σ (upd H x o) {s with heap:=h',toks:=t'}:=I.un (Un.write mu he k heo) (I.hok.write mu he k heo new)
theorem Inv.pins_of{pins':ZPO}(I:Inv X pins σ H s)(h:∀p∈pins',s.heap.get? p.1=some p.2/\H p.1=none/\p.1≠X.env.locals/\p.1∉X.fs/\∀v,p.2.data≠.cell v):Inv X pins' σ H s:=
 ⟨I.ok,I.os,I.bare,I.base,I.loc,I.cell,I.free,I.freeC,fun p hp=>(uQ.mp hp).elim (fun z=>I.pin p (xg _ z)) (h p),I.hok,I.len⟩
theorem Yay{N:List Str}(hN:N.Nodup){i j:Nat}{x:Str}(a:N[i]?=some x)(b:N[j]?=some x):i=j:=by
 obtain⟨h1,e1⟩:=uO.mp a
 obtain⟨h2,e2⟩:=uO.mp b
 exact(List.getElem_inj hN).mp (e1.trans e2.symm)
theorem ka1{M:Model}{A:Around}{E:ZVP}{i:Nat}{x:Str}{v:V}{u:Value}{Q:Unit->Shared->Prop}(I:Inv X pins σ H s)(hN:X.N.Nodup)(hi:X.N[i]?=some x)(hx:Loc X.env.scope x)(r:RelV v u)
  (h:∀s',Inv X pins (σ.set i (some v)) H s'->(∃a,yE a s.heap s'.heap/\(a=X.env.locals\/X.env.cells.lookup x=some a))->Q () s') (hf:X.fn x=true\/X.env.scope.names.lookup x=some .local:=by first | exact .inl rfl | exact .inr rfl | assumption):wpAny M A (storeName X.env x u) Q E s:=by
 obtain⟨m,hn,hl⟩:=id I.loc
 have hcls:(X.env.scope.kind==.class||(X.env.scope.kind==.module&&X.env.locals != X.env.globals))=false:=by rw[I.ok.kind];rfl
 have hiσ:i<σ.length:=by rw[I.len];exact(uO.mp hi).1
 have cne:=I.cne
 have tracked:∀{a:Addr} {h':Heap},(∃o,s.heap.get? a=some o/\H a=none)->yE a s.heap h'->HOk X.prog X.w H h':=fun {a h'} ha hs b ob e=>by
  obtain⟨_,_,hfree⟩:=ha
  refine(I.hok b ob e).stay (fun c w' hc q=>(hs.2 c ?_).trans q) (fun _ q=>q) fun _ _ q=>q
  rintro rfl
  rcases hc with rfl | hc
  ·rw[hfree]at e;cases e
  ·rw[hfree]at hc;cases hc
 rcases hx with hk | hk
 ·refine wpAny_storeName_local hk hn (fun h' hn' hs=>?_) hcls
  obtain⟨oL,_,_,hoL,_⟩:=id hn
  refine h _ ⟨I.ok,I.os,I.bare,⟨fun b o e n hb hx=>?_,fun b o e n hb hx=>?_,I.base.free,fun b o e hx=>?_,I.base.tups,I.base.frzs,I.base.tbls⟩,⟨_,hn',fun j y v' e1 e2 e3=>?_⟩,fun y c e=>?_,I.free,I.freeC,fun p hp=>?_,tracked ⟨oL,hoL,I.free⟩ hs,by simpa using I.len⟩ ⟨_,hs,.inl rfl⟩
  ·exact(hs.2 b (uR (uP (uM e) I.ok.above))).trans (I.base.keep b o e n hb hx)
  ·obtain⟨sl,e1⟩:=I.base.slot b o e n hb hx
   exact⟨sl,(hs.2 b (uR (uP (uM e) I.ok.above))).trans e1⟩
  ·obtain⟨o',e1⟩:=I.base.there b o e hx
   exact⟨o',(hs.2 b (uR (uP (uM e) I.ok.above))).trans e1⟩
  ·by_cases hj:j=i
   ·subst hj
    rw[hi]at e1;cases e1
    rw[yM hiσ]at e2
    cases e2
    exact⟨u,r,.inl ⟨hk,by simp⟩⟩
   ·rw[yT (Ne.symm hj)]at e2
    obtain⟨u',r',q⟩:=hl j y v' e1 e2 e3
    refine⟨u',r',?_⟩
    rcases q with ⟨k,e⟩ | ⟨k,c,e,z⟩
    ·refine .inl ⟨k,?_⟩
     have:y≠x:=fun e=>hj (Yay hN e1 (e▸hi))
     simp[this,e]
    ·exact .inr ⟨k,c,e,z.sameBut hs (cne y c e)⟩
  ·obtain⟨w',z⟩:=I.cell y c e
   exact⟨w',z.sameBut hs (cne y c e)⟩
  ·obtain⟨e,n,ne,nf,d⟩:=I.pin p hp
   exact⟨(hs.2 p.1 ne).trans e,n,ne,nf,d⟩
 ·have hfn:X.fn x=true:=by
   rcases hf with z | z
   ·exact z
   ·rw[z]at hk;cases hk
  obtain⟨c,hc⟩:=I.ok.has x (.inl hk)
  obtain⟨w',z⟩:=I.cell x c hc
  refine wpAny_storeName_cell I.ok.kind hk hc z (fun h' hc' hs=>?_)
  obtain⟨oc,hoc,hocd⟩:=id z
  refine h {s with heap:=h'} ⟨I.ok,I.os,I.bare,⟨fun b o e n hb hx=>?_,fun b o e n hb hx=>?_,I.base.free,fun b o e hx=>?_,I.base.tups,I.base.frzs,I.base.tbls⟩,⟨m,hn.sameBut hs (Ne.symm (cne x c hc)),fun j y v' e1 e2 e3=>?_⟩,fun y c' e=>?_,I.free,I.freeC,fun p hp=>?_,tracked ⟨oc,hoc,I.freeC x c hc⟩ hs,by simpa using I.len⟩ ⟨c,hs,.inr hc⟩
  ·exact(hs.2 b (uR (uP (uM e) (I.ok.cab x c hfn hc)))).trans (I.base.keep b o e n hb hx)
  ·obtain⟨sl,e1⟩:=I.base.slot b o e n hb hx
   exact⟨sl,(hs.2 b (uR (uP (uM e) (I.ok.cab x c hfn hc)))).trans e1⟩
  ·obtain⟨o',e1⟩:=I.base.there b o e hx
   exact⟨o',(hs.2 b (uR (uP (uM e) (I.ok.cab x c hfn hc)))).trans e1⟩
  ·by_cases hj:j=i
   ·subst hj
    rw[hi]at e1;cases e1
    rw[yM hiσ]at e2
    cases e2
    exact⟨u,r,.inr ⟨.inl hk,c,hc,hc'⟩⟩
   ·rw[yT (Ne.symm hj)]at e2
    obtain⟨u',r',q⟩:=hl j y v' e1 e2 e3
    refine⟨u',r',?_⟩
    rcases q with q | ⟨k,c',e,z'⟩
    ·exact .inl q
    ·refine .inr ⟨k,c',e,z'.sameBut hs ?_⟩
     rintro rfl
     exact hj (Yay hN e1 (I.ok.inj _ _ _ e hc▸hi))
  ·by_cases hcc:c'=c
   ·subst hcc;exact⟨_,hc'⟩
   ·obtain⟨w2,z2⟩:=I.cell y c' e
    exact⟨w2,z2.sameBut hs hcc⟩
  ·obtain⟨e,n,ne,nf,d⟩:=I.pin p hp
   refine⟨(hs.2 p.1 ?_).trans e,n,ne,nf,d⟩
   intro q
   rw[q,hoc]at e
   have q':oc=p.2:=Option.some.inj e
   exact d w' (by rw[←q'];exact hocd)
theorem kab{M:Model}{A:Around}{E:ZVP}{i:Nat}{x:Str}{v:V}{u:Value}{Q:Unit->Shared->Prop}(I:Inv X pins σ H s)(hN:X.N.Nodup)(hi:X.N[i]?=some x)(hx:Loc X.env.scope x)(r:RelV v u)
  (h:∀s',Inv X pins (σ.set i (some v)) H s'->Q () s') (hf:X.fn x=true\/X.env.scope.names.lookup x=some .local:=by first | exact .inl rfl | exact .inr rfl | assumption):wpAny M A (storeName X.env x u) Q E s:=
 ka1 I hN hi hx r (fun s' I' _=>h s' I') hf
theorem Inv.call'{s':Shared}{ch:List Addr}(I:Inv X pins σ H s)(ho:s'.os=s.os)(u:Un (frs X.stack) ch H H' s.heap s'.heap)(hok:HOk X.prog X.w H' s'.heap)(hg:AllBare s'.gens)
  (hch:∀b∈ch,(b∈X.ex\/X.s₀.heap.objs.size<=b)/\b≠X.env.locals/\(∀x c,X.env.cells.lookup x=some c->c≠b)/\∀p∈X.pn++pins,p.1≠b):Inv X pins σ H' s':=by
 obtain⟨h',g',d',t',o'⟩:=s'
 have e:o'=s.os:=ho
 subst e
 exact I.call (g':=g') (t':=t') (d':=d') u hok hg hch
end
noncomputable abbrev XK:=Value->Option Addr->Hp->Prop
noncomputable abbrev St:=List (Option V)
noncomputable abbrev VK:=V->Hp->Prop
noncomputable abbrev TE:=St->Hp->VK->Prop
noncomputable abbrev TT:=St->Hp->(Bool->Hp->Prop)->Prop
noncomputable abbrev TA:=St->Hp->(List V->Hp->Prop)->Prop
structure wU where
 nx:St->Hp->Prop
 rt:VK
 bk:St->Hp->Prop:=fun _ _=>False
 ct:St->Hp->Prop:=fun _ _=>False
noncomputable abbrev TS:=wU->St->Hp->Prop
def EP(X:Cx)(pins:ZPO)(σ:St)(Q:VK)(u:Value)(s':Shared):Prop:=∃v H',Inv X pins σ H' s'/\RelV v u/\Q v H'
def TP(X:Cx)(pins:ZPO)(σ:St)(Q:Bool->Hp->Prop)(b:Bool)(s':Shared):Prop:=∃H',Inv X pins σ H' s'/\Q b H'
def AP(X:Cx)(pins:ZPO)(σ:St)(Q:List V->Hp->Prop)(us:List Value)(s':Shared):Prop:=∃vs H',Inv X pins σ H' s'/\Vals vs us/\Q vs H'
def SP(X:Cx)(pins:ZPO)(D:wU)(f:Flow)(s':Shared):Prop:=
 match f with
 | .next=>∃σ' H',Inv X pins σ' H' s'/\D.nx σ' H'
 | .brk=>∃σ' H',Inv X pins σ' H' s'/\D.bk σ' H'
 | .cont=>∃σ' H',Inv X pins σ' H' s'/\D.ct σ' H'
 | .ret u=>∃v σ' H',Inv X pins σ' H' s'/\RelV v u/\D.rt v H'
def PE(X:Cx)(e:Expr)(t:TE):Prop:=
 ∀(pins:ZPO) (s:Shared) (σ:St) (H:Hp) (Q:VK),Inv X pins σ H s->t σ H Q->wpAny (model X.prog X.w) X.A (eval e X.env) (EP X pins σ Q) X.xe s
def PT(X:Cx)(e:Expr)(t:TT):Prop:=
 ∀(pins:ZPO) (s:Shared) (σ:St) (H:Hp) (Q:Bool->Hp->Prop),Inv X pins σ H s->t σ H Q->wpAny (model X.prog X.w) X.A (isTrue e X.env (eval e X.env)) (TP X pins σ Q) X.xe s
def PW(X:Cx)(e:Expr)(t:TT):Prop:=
 ∀(whole:Sem Value) (pins:ZPO) (s:Shared) (σ:St) (H:Hp) (Q:Bool->Hp->Prop),Inv X pins σ H s->t σ H Q->wpAny (model X.prog X.w) X.A (isTrue e X.env whole) (TP X pins σ Q) X.xe s
theorem PW.pt{X:Cx}{e:Expr}{t:TT}(h:PW X e t):PT X e t:=h _
def PA(X:Cx)(es:List Expr)(t:TA):Prop:=
 ∀(pos:Pos) (pins:ZPO) (s:Shared) (σ:St) (H:Hp) (Q:List V->Hp->Prop),Inv X pins σ H s->t σ H Q->wpAny (model X.prog X.w) X.A (spliced (backTo pos (starEach es X.env))) (AP X pins σ Q) X.xe s
def PS(X:Cx)(st:Stmt)(t:TS):Prop:=
 ∀(pins:ZPO) (s:Shared) (σ:St) (H:Hp) (D:wU),Inv X pins σ H s->t D σ H->wpAny (model X.prog X.w) X.A (exec st X.env) (SP X pins D) X.xe s
def PSs(X:Cx)(st:List Stmt)(t:TS):Prop:=
 ∀(pins:ZPO) (s:Shared) (σ:St) (H:Hp) (D:wU),Inv X pins σ H s->t D σ H->wpAny (model X.prog X.w) X.A (execs st X.env) (SP X pins D) X.xe s
theorem thn{α:Type}{t:Sem α}{Q Q':α->Shared->Prop}{M:Model}{A:Around}{E:ZVP}{s:Shared}(h:wpAny M A t Q E s)(hQ:∀a s,Q a s->Q' a s):wpAny M A t Q' E s:=wpAny_mono h hQ fun _ _ x=>x
theorem Ww{t:Sem Value}{X:Cx}{pins:ZPO}{σ:St}{Q:VK}{Q':ZVP}{M:Model}{A:Around}{E:ZVP}{s:Shared}(h:wpAny M A t (EP X pins σ Q) E s)(k:∀u s' v H',Inv X pins σ H' s'->RelV v u->Q v H'->Q' u s'):wpAny M A t Q' E s:=thn h fun u s' z=>by obtain⟨v,H',a,b,c⟩:=z;exact k u s' v H' a b c
theorem wa9{t:Sem Bool}{X:Cx}{pins:ZPO}{σ:St}{Q:Bool->Hp->Prop}{Q':Bool->Shared->Prop}{M:Model}{A:Around}{E:ZVP}{s:Shared}(h:wpAny M A t (TP X pins σ Q) E s)(k:∀u s' H',Inv X pins σ H' s'->Q u H'->Q' u s'):wpAny M A t Q' E s:=thn h fun u s' z=>by obtain⟨H',a,c⟩:=z;exact k u s' H' a c
theorem jab{t:Sem (List Value)}{X:Cx}{pins:ZPO}{σ:St}{Q:List V->Hp->Prop}{Q':List Value->Shared->Prop}{M:Model}{A:Around}{E:ZVP}{s:Shared}(h:wpAny M A t (AP X pins σ Q) E s)(k:∀u s' v H',Inv X pins σ H' s'->Vals v u->Q v H'->Q' u s'):wpAny M A t Q' E s:=thn h fun u s' z=>by obtain⟨v,H',a,b,c⟩:=z;exact k u s' v H' a b c
section
variable {X:Cx}
def jbD(i:Nat):TE:=fun σ H Q=>∃v,σ[i]?=some (some v)/\Q v H
def tC(v:V):TE:=fun _ H Q=>Q v H
theorem wbm{i:Nat}{x:Str}{pos:Pos}(hN:X.N[i]?=some x)(hv:Vis X.env.scope x)(hd:(x==("__debug__":Str))=false:=by decide)(hcd:(x==("__classdict__":Str))=false:=by decide):PE X (.Name x pos) (jbD i):=by
 intro pins s σ H Q I h
 obtain⟨v,e,h⟩:=h
 obtain⟨m,hn,hl⟩:=I.loc
 obtain⟨u,r,l⟩:=hl i x v hN e hv
 have fin:EP X pins σ Q u s:=⟨v,H,I,r,h⟩
 rcases l with ⟨hk,hm⟩ | ⟨hk,c,hc,hcell⟩
 ·exact wpAny_Name (wpAny_loadName_local I.ok.kind hk hn hm fin) hd
 ·rcases hk with hk | hk
  ·exact wpAny_Name (wpAny_loadName_cell I.ok.kind hk hc hcell fin) hd
  ·exact wpAny_Name (wpAny_loadName_free I.ok.kind hk hc hcell fin hcd) hd
theorem jbq{i j pos}:PE X (.Constant (.int i) j pos) (tC (.int i)):=fun _ _ _ H _ I h=>wpAny_Constant_int ⟨.int i,H,I.tok _,⟨_,rfl⟩,h⟩
theorem vby{b j pos}:PE X (.Constant (.bool b) j pos) (tC (.bl b)):=fun _ _ _ H _ I h=>Constant_bool ⟨.bl b,H,I,rfl,h⟩
theorem Zbt{x j pos}:PE X (.Constant (.str x) j pos) (tC (.str x)):=fun _ _ _ H _ I h=>Calls.Constant_str ⟨.str x,H,I.tok _,⟨_,rfl⟩,h⟩
def Gl(X:Cx)(x:Str):Prop:=X.env.kindOf x=some .globalImplicit
theorem ZaK{E:ZVP}{pins:ZPO}{s:Shared}{σ:St}{H:Hp}{x:Str}{u:Value}{pos:Pos}{Q:ZVP}(I:Inv X pins σ H s)(hg:Gl X x)(hm:X.mg x=some u)(h:Q u s)
  (hd:(x==("__debug__":Str))=false:=by decide):wpAny (model X.prog X.w) X.A (eval (.Name x pos) X.env) Q E s:=
 Calls.Name_function_global I.ok.kind hg (Calls.loadGlobal_global (by rw[I.ok.glob];exact I.mod.glob.keeps I.bk) hm h) hd
theorem XC{E:ZVP}{pins:ZPO}{s:Shared}{σ:St}{H:Hp}{x:Str}{u:Value}{pos:Pos}{Q:ZVP}(I:Inv X pins σ H s)(hg:Gl X x)(hm:X.mg x=none)(hv:bootBuiltins x=some u)(h:Q u s)
  (hn:x≠"__name__":=by decide) (hd:(x==("__debug__":Str))=false:=by decide):wpAny (model X.prog X.w) X.A (eval (.Name x pos) X.env) Q E s:=by
 obtain⟨mb,h1,h2⟩:=I.mod.blt
 exact Calls.Name_function_global I.ok.kind hg (Calls.loadGlobal_builtin (by rw[I.ok.glob];exact I.mod.glob.keeps I.bk) hm (by rw[I.ok.blt];exact h1.keeps I.bk) ((h2 x hn).trans hv) h) hd
theorem Wbg{x:Str}{v:V}{u:Value}{pos:Pos}(hg:Gl X x)(hm:X.mg x=none)(hv:bootBuiltins x=some u)(r:RelV v u)(hn:x≠"__name__":=by decide)(hd:(x==("__debug__":Str))=false:=by decide):PE X (.Name x pos) (tC v):=
 fun _ _ _ H _ I h=>XC I hg hm hv ⟨v,H,I,r,h⟩ hn hd
variable {a b:Expr} {ta tb:TE} {pos:Pos}
def PC(X:Cx)(op:CmpOp)(a b:Expr)(t:TE):Prop:=
 ∀(pins:ZPO) (s:Shared) (σ:St) (H:Hp) (Q:VK),Inv X pins σ H s->t σ H Q →
  wpAny (model X.prog X.w) X.A (eval a X.env) (fun v s₁=>wpAny (model X.prog X.w) X.A (eval b X.env) (fun u s₂=>wpAny (model X.prog X.w) X.A (compareOp op v u) (EP X pins σ Q) X.xe s₂) X.xe s₁) X.xe s
def tB(t:TE):TT:=fun σ H Q=>t σ H fun x H1=>∃c,x=.bl c/\Q c H1
theorem jbo{op:CmpOp}{t:TE}(h:PC X op a b t)(h1:behindInMarks op b=false:=by first | exact nobehind _ (by decide) (by decide) | rfl):PE X (.Compare a [op] [b] pos) t:=fun pins s σ H Q I hw=>wpAny_Compare1 (h pins s σ H Q I hw) h1
theorem qbs{op:CmpOp}{t:TE}(h:PC X op a b t)(h1:behindInMarks op b=false:=by first | exact nobehind _ (by decide) (by decide) | rfl):PT X (.Compare a [op] [b] pos) (tB t):=by
 intro pins s σ H Q I hw
 refine wpAny_isTrue_Compare1 (thn (h pins s σ H _ I hw) fun v s1 h1=>thn h1 fun u s2 h2=>Ww h2 fun c s3 x H1 I1 r1 q1=>?_) h1
 obtain⟨d,rfl,q⟩:=q1
 cases r1
 exact wpAny_truthy_bool ⟨H1,I1,q⟩
variable {tA tB':TT} {rest:List Expr}
def vbA(t u:TT):TT:=fun σ H Q=>t σ H fun c H1=>if c=true then u σ H1 Q else Q false H1
def tOr(t u:TT):TT:=fun σ H Q=>t σ H fun c H1=>if c=true then Q true H1 else u σ H1 Q
def vbC(t:TT):TT:=fun σ H Q=>t σ H fun c H1=>Q (!c) H1
theorem qbl(ha:PT X a tA):PW X (.BoolOp .And [a] pos) tA:=by
 intro wh pins s σ H Q I h
 refine isTrue_and (thn (ha pins s σ H Q I h) fun c s1 e=>?_)
 cases c with
 | true=>exact isTrue_and_nil e
 | false=>exact e
theorem wbq(ha:PT X a tA):PW X (.BoolOp .Or [a] pos) tA:=by
 intro wh pins s σ H Q I h
 refine isTrue_or (thn (ha pins s σ H Q I h) fun c s1 e=>?_)
 cases c with
 | false=>exact isTrue_or_nil e
 | true=>exact e
theorem Zbs(ha:PT X a tA)(hb:PW X (.BoolOp .And (b::rest) pos) tB'):PW X (.BoolOp .And (a::b::rest) pos) (vbA tA tB'):=by
 intro wh pins s σ H Q I h
 refine isTrue_and (wa9 (ha pins s σ H _ I h) fun c s1 H1 I1 q1=>?_)
 cases c with
 | true=>exact hb wh pins s1 σ H1 Q I1 q1
 | false=>exact⟨H1,I1,q1⟩
theorem jbx(ha:PT X a tA)(hb:PW X (.BoolOp .Or (b::rest) pos) tB'):PW X (.BoolOp .Or (a::b::rest) pos) (tOr tA tB'):=by
 intro wh pins s σ H Q I h
 refine isTrue_or (wa9 (ha pins s σ H _ I h) fun c s1 H1 I1 q1=>?_)
 cases c with
 | true=>exact⟨H1,I1,q1⟩
 | false=>exact hb wh pins s1 σ H1 Q I1 q1
theorem Wbr(ha:PT X a tA):PT X (.UnaryOp .Not a pos) (vbC tA):=by
 intro pins s σ H Q I h
 exact isTrue_not (ha pins s σ H (fun c H1=>Q (!c) H1) I h)
def Zbw(ta tb:TE):TE:=fun σ H Q=>ta σ H fun x H1=>∃c,x=.bl c/\if c=true then tb σ H1 Q else Q (.bl false) H1
theorem Zbm{op}{t:TE}(h:PE X a t):PE X (.BoolOp op [a] pos) t:=fun pins s σ H Q I hw=>BoolOp_one (h pins s σ H Q I hw)
theorem Xbo(ha:PE X a ta)(hb:PE X (.BoolOp .And (b::rest) pos) tb):PE X (.BoolOp .And (a::b::rest) pos) (Zbw ta tb):=by
 intro pins s σ H Q I h
 refine BoolOp_and (Ww (ha pins s σ H _ I h) fun v s1 x H1 I1 r1 q1=>?_)
 obtain⟨c,rfl,q1⟩:=q1
 cases r1
 refine wpAny_truthy_bool ?_
 cases c with
 | true=>exact hb pins s1 σ H1 Q I1 q1
 | false=>exact⟨.bl false,H1,I1,rfl,q1⟩
end
def SqL(K:uD)(H:Hp)(a:Addr)(xs:List V):Prop:=
 Rd H a (.lst xs) \/
  ∃(o:Obj) (its:Array Value) (n:Nat),K.lookup a=some o/\o.cls=.type "list"/\o.dict=none/\o.data=.seq its n/\its.size<=sizeLine/\Vals xs its.toList
def SqT(K:uD)(H:Hp)(a:Addr)(xs:List V):Prop:=
 Rd H a (.tup xs) \/
  ∃(o:Obj) (its:Array Value) (n:Nat),K.lookup a=some o/\o.cls=.type "tuple"/\o.data=.seq its n/\its.size<=sizeLine/\Vals xs its.toList
noncomputable def vbz:Value->Option V
 | .none=>some .non
 | .bool b=>some (.bl b)
 | .int i _=>some (.int i)
 | .str x _=>some (.str x)
 | .bytes b _=>some (.byt b)
 | .float b _=>some (.flt b)
 | .ref a=>some (.ref a)
 | .type n=>some (.ty n)
 | _=>none
theorem RelV.abs{x:V}{u:Value}(r:RelV x u):vbz u=some x:=by
 cases x with
 | non=>cases r;rfl
 | bl _=>cases r;rfl
 | int _=>obtain⟨t,rfl⟩:=r;rfl
 | str _=>obtain⟨t,rfl⟩:=r;rfl
 | byt _=>obtain⟨t,rfl⟩:=r;rfl
 | flt _=>obtain⟨t,rfl⟩:=r;rfl
 | ref _=>cases r;rfl
 | ty _=>cases r;rfl
theorem RelV.inj{x y:V}{u:Value}(r:RelV x u)(q:RelV y u):x=y:=Option.some.inj (r.abs.symm.trans q.abs)
theorem Vals.inj:∀{xs ys:List V} {us:List Value},Vals xs us->Vals ys us->xs=ys
 | _,_,_,.nil,.nil=>rfl
 | _,_,_,.cons r t,.cons r' t'=>by rw[r.inj r',Vals.inj t t']
section
variable {X:Cx} {pins:ZPO} {σ:St} {H:Hp} {s:Shared} {a:Addr} {xs ys:List V}
theorem Inv.list(I:Inv X pins σ H s)(h:SqL X.K H a xs):∃its:List Value,Vals xs its/\PlainL s.heap a its.toArray/\xs.length<=sizeLine:=by
 rcases h with h | ⟨o,its,n,hk,hc,hd,hs,hz,r⟩
 ·obtain⟨z,its,n,r,e⟩:=h.ok I.hok
  exact⟨its,r,⟨_,n,e,rfl,rfl,rfl⟩,z⟩
 ·refine⟨its.toList,r,⟨o,n,I.kIn a o hk,hc,hd,by simpa using hs⟩,?_⟩
  have e:=r.length
  simp only[uU]at e
  lia
theorem Inv.tuple(I:Inv X pins σ H s)(h:SqT X.K H a xs):∃its:List Value,Vals xs its/\IsTup s.heap a its.toArray/\xs.length<=sizeLine:=by
 rcases h with h | ⟨o,its,n,hk,hc,hs,hz,r⟩
 ·obtain⟨z,its,r,p⟩:=h.ok I.hok
  exact⟨its,r,p,z⟩
 ·refine⟨its.toList,r,⟨o,I.kIn a o hk,hc,n,by simpa using hs⟩,?_⟩
  have e:=r.length
  simp only[uU]at e
  lia
theorem Inv.list_inj(I:Inv X pins σ H s)(h:SqL X.K H a xs)(h':SqL X.K H a ys):xs=ys:=by
 obtain⟨its,r,⟨o,n,e,_,_,d⟩,_⟩:=I.list h
 obtain⟨its',r',⟨o',n',e',_,_,d'⟩,_⟩:=I.list h'
 rw[e]at e';cases e'
 rw[d]at d'
 injection d' with d1 _
 have:its=its':=by simpa using congrArg Array.toList d1
 subst this
 exact r.inj r'
theorem Inv.tuple_inj(I:Inv X pins σ H s)(h:SqT X.K H a xs)(h':SqT X.K H a ys):xs=ys:=by
 obtain⟨its,r,⟨o,e,_,n,d⟩,_⟩:=I.tuple h
 obtain⟨its',r',⟨o',e',_,n',d'⟩,_⟩:=I.tuple h'
 rw[e]at e';cases e'
 rw[d]at d'
 injection d' with d1 _
 have:its=its':=by simpa using congrArg Array.toList d1
 subst this
 exact r.inj r'
end
noncomputable abbrev Cx.wish(X:Cx)(E:ZVP):Cx:={X with xe:=E}
noncomputable abbrev Cx.nox(X:Cx):Cx:=X.wish fun _ _=>False
theorem Cx.Ok.wish{X:Cx}(ok:X.Ok)(E:ZVP):(X.wish E).Ok:=
 ⟨ok.mod,ok.kind,ok.glob,ok.blt,ok.above,ok.inj,ok.has,ok.cab,ok.hd,ok.frames,ok.stk,ok.exf,ok.bs,ok.bsz,ok.noex,ok.exfs,ok.funs,ok.frf⟩
theorem Cx.Ok.unwish{X:Cx}{E:ZVP}(ok:(X.wish E).Ok):X.Ok:=
 ⟨ok.mod,ok.kind,ok.glob,ok.blt,ok.above,ok.inj,ok.has,ok.cab,ok.hd,ok.frames,ok.stk,ok.exf,ok.bs,ok.bsz,ok.noex,ok.exfs,ok.funs,ok.frf⟩
section
variable {X:Cx} {pins:ZPO} {σ:St} {H:Hp} {s:Shared} {E:ZVP}
theorem Inv.wish(I:Inv X pins σ H s)(E:ZVP):Inv (X.wish E) pins σ H s:=⟨I.ok.wish E,I.os,I.bare,I.base,I.loc,I.cell,I.free,I.freeC,I.pin,I.hok,I.len⟩
theorem Inv.unwish(I:Inv (X.wish E) pins σ H s):Inv X pins σ H s:=⟨I.ok.unwish,I.os,I.bare,I.base,I.loc,I.cell,I.free,I.freeC,I.pin,I.hok,I.len⟩
theorem SP.unwish{D:wU}{f:Flow}{s':Shared}(h:SP (X.wish E) pins D f s'):SP X pins D f s':=by
 cases f with
 | next=>obtain⟨σ',H',I,q⟩:=h;exact⟨σ',H',I.unwish,q⟩
 | brk=>obtain⟨σ',H',I,q⟩:=h;exact⟨σ',H',I.unwish,q⟩
 | cont=>obtain⟨σ',H',I,q⟩:=h;exact⟨σ',H',I.unwish,q⟩
 | ret u=>obtain⟨v,σ',H',I,r,q⟩:=h;exact⟨v,σ',H',I.unwish,r,q⟩
theorem PSs.nox{st:List Stmt}{t:TS}(h:PSs X.nox st t):PSs X st t:=fun pins s σ H D I hw=>
 wpAny_mono (h pins s σ H D (I.wish _) hw) (fun _ _ q=>q.unwish) fun _ _ z=>False.elim z
end
section
variable {X:Cx} {st:Stmt} {rest:List Stmt} {t u:TS} {e:Expr} {te:TE} {pos:Pos}
def jbz:TS:=fun D σ H=>D.nx σ H
def wbA(t u:TS):TS:=fun D σ H=>t {D with nx:=u D} σ H
theorem pss_nil:PSs X [] jbz:=fun _ _ σ H _ I h=>wpAny_execs_nil ⟨σ,H,I,h⟩
theorem va9(h1:PS X st t)(h2:PSs X rest u):PSs X (st::rest) (wbA t u):=by
 intro pins s σ H D I h
 refine wpAny_execs_cons (thn (h1 pins s σ H {D with nx:=u D} I h) fun f s1 q=>?_)
 cases f with
 | next=>
  obtain⟨σ',H',I',q⟩:=q
  exact h2 pins s1 σ' H' D I' q
 | ret v=>exact q
 | brk=>exact q
 | cont=>exact q
theorem vbg(h1:PS X st t):PSs X [st] t:=by
 intro pins s σ H D I h
 refine wpAny_execs_cons (thn (h1 pins s σ H D I h) fun f s1 q=>?_)
 cases f with
 | next=>exact wpAny_execs_nil q
 | ret v=>exact q
 | brk=>exact q
 | cont=>exact q
theorem Inv.quiet{pins:ZPO}{σ:St}{H:Hp}{s:Shared}(I:Inv X pins σ H s):interactive X.env=false:=by simp[interactive,I.ok.kind]
def wby(te:TE):TS:=fun D σ H=>te σ H fun _ H1=>D.nx σ H1
theorem jbh(he:PE X e te)(hs:swapsWith e none pos.line X.env=pure false:=by rfl):PS X (.Expr e pos) (wby te):=by
 intro pins s σ H D I h
 exact wpAny_Expr_any (Ww (he pins s σ H _ I h) fun v s1 x H1 I1 r1 q1=>⟨σ,H1,I1,q1⟩) I.quiet hs
def kbC(te:TE):TS:=fun D σ H=>te σ H D.rt
theorem vbu(he:PE X e te):PS X (.Return (some e) pos) (kbC te):=by
 intro pins s σ H D I h
 exact wpAny_Return_some (Ww (he pins s σ H _ I h) fun v s1 x H1 I1 r1 q1=>⟨x,σ,H1,I1,r1,q1⟩)
def XbB(c:TT)(t u:TS):TS:=fun D σ H=>c σ H fun b H1=>if b=true then t D σ H1 else u D σ H1
theorem qby{c:Expr}{a b:List Stmt}{tc:TT}(hc:PT X c tc)(ha:PSs X a t)(hb:PSs X b u):PS X (.If c a b pos) (XbB tc t u):=by
 intro pins s σ H D I h
 refine wpAny_If (wa9 (hc pins s σ H _ I h) fun d s1 H1 I1 q1=>?_)
 cases d with
 | true=>exact ha pins s1 σ H1 D I1 q1
 | false=>exact hb pins s1 σ H1 D I1 q1
end
noncomputable abbrev TG:=V->St->Hp->(St->Hp->Prop)->Prop
noncomputable abbrev TGs:=List V->St->Hp->(St->Hp->Prop)->Prop
def PG(X:Cx)(target:Expr)(t:TG):Prop:=
 ∀(pins:ZPO) (s:Shared) (σ:St) (H:Hp) (v:V) (u:Value) (Q:St->Hp->Prop),Inv X pins σ H s->RelV v u->t v σ H Q →
  wpAny (model X.prog X.w) X.A (assign target X.env u) (fun _ s'=>∃σ' H',Inv X pins σ' H' s'/\Q σ' H') X.xe s
def PGs(X:Cx)(ts:List Expr)(t:TGs):Prop:=
 ∀(pins:ZPO) (s:Shared) (σ:St) (H:Hp) (vs:List V) (us:List Value) (Q:St->Hp->Prop),Inv X pins σ H s->Vals vs us->t vs σ H Q →
  wpAny (model X.prog X.w) X.A (assignInOrder ((assignEach ts X.env).map (·.2)) us) (fun _ s'=>∃σ' H',Inv X pins σ' H' s'/\Q σ' H') X.xe s
noncomputable abbrev ka7:=V->V->V->Hp->(Hp->Prop)->Prop
def Wbn(X:Cx)(t:ka7):Prop:=
 ∀(pins:ZPO) (s:Shared) (σ:St) (H:Hp) (o i v:V) (ov iv u:Value) (Q:Hp->Prop),Inv X pins σ H s->RelV o ov->RelV i iv->RelV v u->t o i v H Q →
  wpAny (model X.prog X.w) X.A (setItem ov iv u) (fun _ s'=>∃H',Inv X pins σ H' s'/\Q H') X.xe s
section
variable {X:Cx} {pos:Pos}
def Xau(i:Nat):TG:=fun v σ H Q=>Q (σ.set i (some v)) H
theorem Ybj{i:Nat}{x:Str}(hN:X.N.Nodup)(hi:X.N[i]?=some x)(hx:Loc X.env.scope x)(hf:X.fn x=true\/X.env.scope.names.lookup x=some .local:=by first | exact .inl rfl | exact .inr rfl | assumption):PG X (.Name x pos) (Xau i):=by
 intro pins s σ H v u Q I r h
 exact wpAny_assign_Name (kab I hN hi hx r (fun s' I'=>⟨_,H,I',h⟩) hf)
def wbB:TGs:=fun vs σ H Q=>vs=[]/\Q σ H
def kbx(t:TG)(u:TGs):TGs:=fun vs σ H Q=>∃v r,vs=v::r/\t v σ H fun σ' H'=>u r σ' H' Q
theorem pgs_nil:PGs X [] wbB:=by
 intro pins s σ H vs us Q I r h
 obtain⟨e,h⟩:=h
 subst e
 cases r
 exact assignInOrder_nil ⟨σ,H,I,h⟩
theorem wa5{e:Expr}{es:List Expr}{t:TG}{u:TGs}(h1:PG X e t)(h2:PGs X es u)
  (hs:(assignEach (e::es) X.env).map (·.2)=assign e X.env::(assignEach es X.env).map (·.2):=by rfl):PGs X (e::es) (kbx t u):=by
 intro pins s σ H vs us Q I r h
 obtain⟨v,vr,e1,h⟩:=h
 subst e1
 cases r with
 | cons r rr=>
  rw[hs]
  refine assignInOrder_cons (thn (h1 pins s σ H _ _ _ I r h) fun _ s1 w1_=>w1_.elim fun σ1 z_=>z_.elim fun H1 z_=>z_.elim fun I1 q1=>?_)
  exact h2 pins s1 σ1 H1 _ _ Q I1 rr q1
def kbE(K:uD)(n:Nat)(t:TGs):TG:=fun v σ H Q=>∃a xs,v=.ref a/\SqT K H a xs/\xs.length=n/\t xs σ H Q
theorem kbu{es:List Expr}{k:Nat}{t:TGs}{n:Nat}(hc:X.calm=true)(h:PGs X es t)
  (hn:(assignEach es X.env).length=n:=by rfl) (hst:(assignEach es X.env).findIdx? (·.1)=none:=by rfl):PG X (.Tuple es k pos) (kbE X.K n t):=by
 intro pins s σ H v u Q I r hw
 obtain⟨a,xs,e1,hq,hl,hw⟩:=hw
 subst e1
 cases r
 obtain⟨its,rv,ht,hz⟩:=I.tuple hq
 refine assign_Tuple_tuple (I.ok.hd hc) ht (by simp[hn,←hl,rv.length]) hst fun h' hx=>?_
 have I1:Inv X pins σ H {s with heap:=h'}:=I.kept (t':=s.toks) fun b o e=>hx b o (uR (uM e)) e
 exact h pins _ σ H xs _ Q I1 (by simpa using rv) hw
def wbD(to ti:TE)(t:ka7):TG:=fun v σ H Q=>to σ H fun o H1=>ti σ H1 fun i H2=>t o i v H2 fun H3=>Q σ H3
theorem Ybr{o i:Expr}{to ti:TE}{t:ka7}(ho:PE X o to)(hi:PE X i ti)(hs:Wbn X t)
  (ha:∀v,assign (.Subscript o i pos) X.env v=(do
   let ov ←holding [v] (eval o X.env)
   let iv ←holding [v,ov] (eval i X.env)
   standAt pos
   holding [v,ov,iv] (setItem ov iv v)
   release [v,ov,iv] []):=by intro _;rfl):PG X (.Subscript o i pos) (wbD to ti t):=by
 intro pins s σ H v u Q I r h
 rw[ha]
 refine wpAny_bind (wpAny_holding (Ww (ho pins s σ H _ I h) fun ov s1 x H1 I1 r1 q1=>?_))
 refine wpAny_bind (wpAny_holding (Ww (hi pins s1 σ H1 _ I1 q1) fun iv s2 y H2 I2 r2 q2=>?_))
 refine wpAny_bind (wpAny_standAt (wpAny_bind (wpAny_holding (thn (hs pins s2 σ H2 x y v ov iv u _ I2 r1 r2 r q2) fun _ s3 w1_=>w1_.elim fun H3 z_=>z_.elim fun I3 q3=>?_))))
 exact wpAny_release ⟨σ,H3,I3,q3⟩
def Za6(te:TE)(g:TG):TS:=fun D σ H=>te σ H fun x H1=>g x σ H1 D.nx
theorem kbn{tg e:Expr}{te:TE}{g:TG}(he:PE X e te)(hg:PG X tg g)(hs:swapsWithSole [tg] e pos.line X.env=pure false:=by rfl)(hw:swappedStores [tg] e X.env=pure none:=by rfl)
  (h1:(assignEach [tg] X.env).map (·.2)=[assign tg X.env]:=by rfl):PS X (.Assign [tg] e pos) (Za6 te g):=by
 intro pins s σ H D I h
 refine wpAny_Assign_stores (Ww (he pins s σ H _ I h) fun v s1 x H1 I1 r1 q1=>?_) hs hw
 rw[h1]
 exact thn (hg pins s1 σ H1 x v _ I1 r1 q1) fun _ s2 q=>q
theorem vbq{i:Nat}{x:Str}{e:Expr}{te:TE}{pos':Pos}(hN:X.N.Nodup)(hi:X.N[i]?=some x)(hx:Loc X.env.scope x)(he:PE X e te)(hs:swapsWith e (some (.Name x pos')) pos.line X.env=pure false:=by rfl)(hf:X.fn x=true\/X.env.scope.names.lookup x=some .local:=by first | exact .inl rfl | exact .inr rfl | assumption) :
  PS X (.Assign [.Name x pos'] e pos) (Za6 te (Xau i)):=by
 intro pins s σ H D I h
 refine wpAny_Assign_Name (Ww (he pins s σ H _ I h) fun v s1 y H1 I1 r1 q1=>?_) hs
 exact kab I1 hN hi hx r1 (fun s2 I2=>⟨_,H1,I2,q1⟩) hf
end
structure It where
 go:Nat->Hp->Prop
 yld:Nat->Hp->V->Hp->Prop
 stop:Nat->Hp->Prop
def Ws(X:Cx)(pins:ZPO)(H:Hp)(b:Addr):Prop:=
 H b=none/\b≠X.env.locals/\b∉X.fs/\(b∈X.ex\/X.s₀.heap.objs.size<=b)/\(∀x c,X.env.cells.lookup x=some c->c≠b)/\∀p∈X.pn++pins,p.1≠b
theorem Inv.fpOk{X:Cx}{pins:ZPO}{σ:St}{H H':Hp}{s:Shared}{b:Addr}(I:Inv X pins σ H s)(hb:s.heap.objs.size<=b)(hn:H' b=none):Ws X pins H' b:=by
 refine⟨hn,xT (uP I.lt hb),I.nofs hb,.inr (xQ I.sz hb),fun x c e z=>?_,fun p hp z=>?_⟩
 ·obtain⟨v,q⟩:=I.cell x c e
  exact absurd (uP q.lt (by rw[z];exact hb)) (u7 _)
 ·exact absurd (uP (uM (I.pin p hp).1) (by rw[z];exact hb)) (u7 _)
structure YZ(P:Program)(w:World)(K:uD)(tg:Expr)(J:It)(fp:List Addr)(it:Addr)(tn:Nat->Heap->Prop):Prop where
 mem:it∈fp
 obj:∀i h,tn i h->∀b∈fp,∃o,h.get? b=some o/\∀v,o.data≠.cell v
 keep:∀i h h',tn i h->(∀b∈fp,∀o,h.get? b=some o->h'.get? b=some o)->tn i h'
 item:∀(X:Cx),X.prog=P->X.w=w->X.K=K->X.calm=true->∀(i:Nat) (pins:ZPO) (s:Shared) (σ:St) (H:Hp) (E:ZVP),Inv X pins σ H s->(∀b∈fp,Ws X pins H b)->tn i s.heap->J.go i H →
  wpAny (model P w) X.A (pyNext (.ref it)) (fun r s1=>∃u,r=some u ∧
   wpAny (model P w) X.A (letOwnedTupleGo tg (.ref it) u) (fun _ s2=>∃x H',Inv X pins σ H' s2/\RelV x u/\J.yld i H x H'/\tn (i+1) s2.heap/\∀b∈fp,H' b=none) E s1) E s
 done:∀(X:Cx),X.prog=P->X.w=w->X.K=K->X.calm=true->∀(i:Nat) (pins:ZPO) (s:Shared) (σ:St) (H:Hp) (E:ZVP),Inv X pins σ H s->(∀b∈fp,Ws X pins H b)->tn i s.heap->J.stop i H →
  wpAny (model P w) X.A (pyNext (.ref it)) (fun r s1=>r=none/\Inv X pins σ H s1) E s
 self:∀(A:Around) (i:Nat) (s:Shared) (Q:ZVP) (E:ZVP),tn i s.heap->Q (.ref it) s->wpAny (model P w) A (pyIter (.ref it)) Q E s
noncomputable abbrev TI:=St->Hp->(It->Hp->Prop)->Prop
def PIE(X:Cx)(pins:ZPO)(σ:St)(tg:Expr)(R:It->Hp->Prop)(itv:Value)(s2:Shared):Prop:=
 ∃(it:Addr) (fp:List Addr) (tn:Nat->Heap->Prop) (J:It) (H':Hp),itv=.ref it/\Inv X pins σ H' s2/\YZ X.prog X.w X.K tg J fp it tn/\tn 0 s2.heap/\(∀b∈fp,Ws X pins H' b)/\R J H'
def PI(X:Cx)(tg iter:Expr)(wi:TI):Prop:=
 ∀(pins:ZPO) (s:Shared) (σ:St) (H:Hp) (R:It->Hp->Prop),Inv X pins σ H s->wi σ H R →
  wpAny (model X.prog X.w) X.A (eval iter X.env) (fun v s1=>wpAny (model X.prog X.w) X.A (pyIter v) (PIE X pins σ tg R) X.xe s1) X.xe s
theorem YaV{M:Model}{A:Around}{E:ZVP}{s:Shared}{tg:Expr}{it:Addr}{u:Value}{o:Obj}{n:String}{vs:Array Value}{Q:Unit->Shared->Prop}(ho:s.heap.get? it=some o)(hc:o.cls=.type n)(hd:o.data=.fields vs)
  (hn:["enumerate","zip","dict_itemiterator","dict_reverseitemiterator","odict_iterator","itertools.zip_longest","itertools.pairwise"].contains n=false) (hQ:Q () s):wpAny M A (letOwnedTupleGo tg (.ref it) u) Q E s:=by
 unfold letOwnedTupleGo
 cases tg<;>first
  | exact wpAny_pure hQ
  | (cases u<;>first
    | exact wpAny_pure hQ
    | (refine wpAny_bind (wpAny_load ho ?_);rw[hc,hd];show wpAny M A (if (["enumerate","zip","dict_itemiterator","dict_reverseitemiterator","odict_iterator","itertools.zip_longest","itertools.pairwise"].contains n&&vs[0]?==some (rawInt _))=true then _ else _) Q E s;rw[if_neg (by intro h;rw[hn,Bool.false_and]at h;cases h)];exact wpAny_pure hQ))
noncomputable def Itl(K:uD)(a:Addr):It:=
 ⟨fun i H=>∃xs x,SqL K H a xs/\xs[i]?=some x,fun i H x H'=>H'=H/\∀xs,SqL K H a xs->xs[i]?=some x,fun i H=>∃xs,SqL K H a xs/\xs.length<=i⟩
noncomputable def Itt(K:uD)(a:Addr):It:=
 ⟨fun i H=>∃xs x,SqT K H a xs/\xs[i]?=some x,fun i H x H'=>H'=H/\∀xs,SqT K H a xs->xs[i]?=some x,fun i H=>∃xs,SqT K H a xs/\xs.length<=i⟩
noncomputable def Itr(lo:Int)(n:Nat):It:=⟨fun i _=>i<n,fun i H x H'=>H'=H/\x=.int (lo+i),fun i _=>n<=i⟩
theorem kaY{P:Program}{w:World}{K:uD}{tg:Expr}(a it:Addr):YZ P w K tg (Itl K a) [it] it (fun i h=>h.IsListIter it a i) where
 mem:=by simp
 obj:=fun i h st b hb=>by
  have e:b=it:=by simpa using hb
  subst e
  obtain⟨o,e,c,d⟩:=st
  exact⟨o,e,fun v z=>by rw[d]at z;cases z⟩
 keep:=fun i h h' st k=>st.at fun o e=>k it (by simp) o e
 item:=by
  intro X hP hw hK hc i pins s σ H E I hf st hg
  subst hP hw hK
  obtain⟨xs,x,hq,hx⟩:=hg
  obtain⟨its,rv,p,hz⟩:=I.list hq
  obtain⟨u,hu,ru⟩:=rv.get hx
  obtain⟨f0,f1,f2,f3,f4,f5⟩:=hf it (by simp)
  refine wpAny_pyNext_list_item st p.isList (x:=u) (by simpa using hu) fun h' st' sb=>?_
  have I1:Inv X pins σ H {s with heap:=h'}:=I.turned (t':=s.toks) (fun b o hb e=>(sb.2 b hb).trans e) f0 f1 f3 f4 f5
  obtain⟨o,e,c,d⟩:=id st'
  exact⟨u,rfl,YaV (s:={s with heap:=h'}) e c d (by decide) ⟨x,H,I1,ru,⟨rfl,fun ys hy=>by rw[I.list_inj hy hq];exact hx⟩,st',fun b hb=>(hf b hb).1⟩⟩
 done:=by
  intro X hP hw hK hc i pins s σ H E I hf st hg
  subst hP hw hK
  obtain⟨xs,hq,hx⟩:=hg
  obtain⟨its,rv,p,hz⟩:=I.list hq
  obtain⟨f0,f1,f2,f3,f4,f5⟩:=hf it (by simp)
  have hl:=rv.length
  exact wpAny_pyNext_list_end (I.ok.hd hc) st p.isList (by simp;lia) fun h' eb=>⟨rfl,I.turned (t':=s.toks) (fun b o hb e=>eb b o hb e) f0 f1 f3 f4 f5⟩
 self:=fun _ _ _ _ _ st h=>wpAny_pyIter_listiter st h
theorem XaO{P:Program}{w:World}{K:uD}{tg:Expr}(a it:Addr):YZ P w K tg (Itt K a) [it] it (fun i h=>h.IsTupleIter it a i) where
 mem:=by simp
 obj:=fun i h st b hb=>by
  have e:b=it:=by simpa using hb
  subst e
  obtain⟨o,e,c,d⟩:=st
  exact⟨o,e,fun v z=>by rw[d]at z;cases z⟩
 keep:=fun i h h' st k=>st.at fun o e=>k it (by simp) o e
 item:=by
  intro X hP hw hK hc i pins s σ H E I hf st hg
  subst hP hw hK
  obtain⟨xs,x,hq,hx⟩:=hg
  obtain⟨its,rv,p,hz⟩:=I.tuple hq
  obtain⟨u,hu,ru⟩:=rv.get hx
  obtain⟨f0,f1,f2,f3,f4,f5⟩:=hf it (by simp)
  refine wpAny_pyNext_tuple_item st (show s.heap.IsTuple a its.toArray from p) (x:=u) (by simpa using hu) fun h' st' sb=>?_
  have I1:Inv X pins σ H {s with heap:=h'}:=I.turned (t':=s.toks) (fun b o hb e=>(sb.2 b hb).trans e) f0 f1 f3 f4 f5
  obtain⟨o,e,c,d⟩:=id st'
  exact⟨u,rfl,YaV (s:={s with heap:=h'}) e c d (by decide) ⟨x,H,I1,ru,⟨rfl,fun ys hy=>by rw[I.tuple_inj hy hq];exact hx⟩,st',fun b hb=>(hf b hb).1⟩⟩
 done:=by
  intro X hP hw hK hc i pins s σ H E I hf st hg
  subst hP hw hK
  obtain⟨xs,hq,hx⟩:=hg
  obtain⟨its,rv,p,hz⟩:=I.tuple hq
  obtain⟨f0,f1,f2,f3,f4,f5⟩:=hf it (by simp)
  have hl:=rv.length
  exact wpAny_pyNext_tuple_end (I.ok.hd hc) st (show s.heap.IsTuple a its.toArray from p) (by simp;lia) fun h' eb=>⟨rfl,I.turned (t':=s.toks) (fun b o hb e=>eb b o hb e) f0 f1 f3 f4 f5⟩
 self:=fun _ _ _ _ _ st h=>wpAny_pyIter_tupleiter st h
theorem qaS{P:Program}{w:World}{K:uD}{tg:Expr}(it:Addr)(lo:Int)(n:Nat):YZ P w K tg (Itr lo n) [it] it (fun i h=>IsRangeIter h it (lo+(i:Nat)*1) ((n:Int) - (i:Nat)) 1) where
 mem:=by simp
 obj:=fun i h st b hb=>by
  have e:b=it:=by simpa using hb
  subst e
  exact⟨_,st,fun v z=>by
   have z':Data.fields _=Data.cell v:=z
   cases z'⟩
 keep:=fun i h h' st k=>k it (by simp) _ st
 item:=by
  intro X hP hw hK hc i pins s σ H E I hf st hg
  subst hP hw hK
  obtain⟨f0,f1,f2,f3,f4,f5⟩:=hf it (by simp)
  have W:=Walks.range (prog:=X.prog) (w:=X.w) (I.ok.hd hc) it lo 1 n
  refine W.item i s _ _ hg st fun v h' tk hv st' kk=>?_
  obtain⟨t,rfl⟩:=hv
  have I1:Inv X pins σ H {s with heap:=h',toks:=tk}:=I.turned (fun b o hb e=>kk b o (by simpa using hb) e) f0 f1 f3 f4 f5
  refine⟨_,rfl,YaV (s:={s with heap:=h',toks:=tk}) (n:="range_iterator") st' rfl rfl (by decide) ⟨.int (lo+i),H,I1,⟨t,?_⟩,⟨rfl,rfl⟩,st',fun b hb=>(hf b hb).1⟩⟩
  rw[Int.mul_one]
 done:=by
  intro X hP hw hK hc i pins s σ H E I hf st hg
  subst hP hw hK
  obtain⟨f0,f1,f2,f3,f4,f5⟩:=hf it (by simp)
  exact wpAny_pyNext_range_end (I.ok.hd hc) st (by have:n<=i:=hg;lia) fun h' eb=>⟨rfl,I.turned (t':=s.toks) (fun b o hb e=>eb b o hb e) f0 f1 f3 f4 f5⟩
 self:=fun _ _ _ _ _ st h=>wpAny_pyIter_rangeiter st h
section
variable {X:Cx} {tg:Expr}
def Xbx(K:uD)(tl:TE):TI:=fun σ H R=>tl σ H fun x H1=>∃a,x=.ref a/\(∃xs,SqL K H1 a xs)/\R (Itl K a) H1
def YbE(K:uD)(tl:TE):TI:=fun σ H R=>tl σ H fun x H1=>∃a,x=.ref a/\(∃xs,SqT K H1 a xs)/\R (Itt K a) H1
theorem kaK{l:Expr}{tl:TE}(hl:PE X l tl):PI X tg l (Xbx X.K tl):=by
 intro pins s σ H R I h
 refine Ww (hl pins s σ H _ I h) fun v s1 x H1 I1 r1 q1=>?_
 obtain⟨a,e,⟨xs,hq⟩,q⟩:=q1
 subst e
 cases r1
 obtain⟨its,rv,p,hz⟩:=I1.list hq
 refine wpAny_pyIter_list p.isList ?_
 refine⟨s1.heap.objs.size,[s1.heap.objs.size],_,_,H1,rfl,I1.kept (t':=s1.toks) fun b o e=>uC _ e,kaY a _,⟨_,uT _ rfl,rfl,rfl⟩,fun b hb=>?_,q⟩
 have e:b=s1.heap.objs.size:=by simpa using hb
 subst e
 exact I1.fpOk (uJ _) (I1.hok.fresh (uJ _))
theorem vbm{l:Expr}{tl:TE}(hl:PE X l tl):PI X tg l (YbE X.K tl):=by
 intro pins s σ H R I h
 refine Ww (hl pins s σ H _ I h) fun v s1 x H1 I1 r1 q1=>?_
 obtain⟨a,e,⟨xs,hq⟩,q⟩:=q1
 subst e
 cases r1
 obtain⟨its,rv,p,hz⟩:=I1.tuple hq
 refine wpAny_pyIter_tuple (show s1.heap.IsTuple a its.toArray from p) ?_
 refine⟨s1.heap.objs.size,[s1.heap.objs.size],_,_,H1,rfl,I1.kept (t':=s1.toks) fun b o e=>uC _ e,XaO a _,⟨_,uT _ rfl,rfl,rfl⟩,fun b hb=>?_,q⟩
 have e:b=s1.heap.objs.size:=by simpa using hb
 subst e
 exact I1.fpOk (uJ _) (I1.hok.fresh (uJ _))
theorem Waz{pins:ZPO}{σ:St}{H:Hp}{s:Shared}{R:It->Hp->Prop}{E:ZVP}{lo hi:Int}{t u v:Tok}{tk:Nat}(I:Inv X pins σ H s)(h1:-(2^62)<=lo)(h2:lo<2^62)(h3:-(2^62)<=hi)(h4:hi<2^62)
  (q:R (Itr lo (hi - lo).toNat) H):wpAny (model X.prog X.w) X.A (pyIter (.ref s.heap.objs.size)) (PIE X pins σ tg R) E {s with heap:=s.heap.push {cls:=.type "range",data:=.fields #[.int lo t,.int hi u,.int 1 v]},toks:=tk}:=by
 refine wpAny_pyIter_range (IsRange.new ..) (small_one h1 h2 h3 h4) ?_
 have I1:Inv X pins σ H {s with heap:=s.heap.push {cls:=.type "range",data:=.fields #[.int lo t,.int hi u,.int 1 v]},toks:=tk}:=I.kept fun b o e=>uC _ e
 refine⟨(s.heap.push {cls:=.type "range",data:=.fields #[.int lo t,.int hi u,.int 1 v]}).objs.size,[(s.heap.push {cls:=.type "range",data:=.fields #[.int lo t,.int hi u,.int 1 v]}).objs.size],_,_,H,rfl,
  I1.kept (t':=tk) fun b o e=>uC _ e,qaS _ lo (hi - lo).toNat,?_,fun b hb=>?_,q⟩
 ·have e1:lo+((0:Nat):Int)*1=lo:=by simp
  have e2:(((hi - lo).toNat:Nat):Int) - ((0:Nat):Int)=Builtin.Range.rangeSize lo hi 1:=by rw[rangeSize_one];split<;>lia
  show IsRangeIter _ _ (lo+((0:Nat):Int)*1) ((((hi - lo).toNat:Nat):Int) - ((0:Nat):Int)) 1
  rw[e1,e2]
  exact uT _ rfl
 ·have e:b=(s.heap.push {cls:=.type "range",data:=.fields #[.int lo t,.int hi u,.int 1 v]}).objs.size:=by simpa using hb
  subst e
  exact I1.fpOk (uJ _) (I1.hok.fresh (uJ _))
def Wbw(ta:TA):TI:=fun σ H R=>ta σ H fun vs H1=>∃j:Int,vs=[.int j]/\-(2^62)<=j/\j<2^62/\R (Itr 0 j.toNat) H1
def qbe(ta:TA):TI:=fun σ H R=>ta σ H fun vs H1=>∃i j:Int,vs=[.int i,.int j]/\(-(2^62)<=i/\i<2^62/\-(2^62)<=j/\j<2^62)/\R (Itr i (j - i).toNat) H1
theorem qaV{a:Expr}{ta:TA}{p pos:Pos}(hg:Gl X "range")(hm:X.mg "range"=none)(ha:PA X [a] ta)(hs:starEach [a] X.env=[(false,eval a X.env)]:=by rfl):PI X tg (.Call (.Name "range" p) [a] [] pos) (Wbw ta):=by
 intro pins s σ H R I h
 refine Call_ (XC I hg hm boot_range (xN (jab (ha pos pins s σ H _ I h) fun us s1 vs H1 I1 r1 q1=>?_) hs rfl))
 obtain⟨j,e,q1,q2,q⟩:=q1
 subst e
 cases r1 with
 | cons r rr=>
  cases rr
  obtain⟨t,rfl⟩:=r
  exact call_range_1 (Waz I1 (by lia) (by lia) q1 q2 (by simpa using q))
theorem jan{a b:Expr}{ta:TA}{p pos:Pos}(hg:Gl X "range")(hm:X.mg "range"=none)(ha:PA X [a,b] ta)(hs:starEach [a,b] X.env=[(false,eval a X.env),(false,eval b X.env)]:=by rfl)(hs2:starEach [b] X.env=[(false,eval b X.env)]:=by rfl) :
  PI X tg (.Call (.Name "range" p) [a,b] [] pos) (qbe ta):=by
 intro pins s σ H R I h
 refine Call_ (XC I hg hm boot_range (xN (jab (ha pos pins s σ H _ I h) fun us s1 vs H1 I1 r1 q1=>?_) (by rw[hs,hs2]) (by rw[hs2];rfl)))
 obtain⟨i,j,e,⟨q1,q2,q3,q4⟩,q⟩:=q1
 subst e
 cases r1 with
 | cons r rr=>
  cases rr with
  | cons r' rr=>
   cases rr
   obtain⟨t,rfl⟩:=r
   obtain⟨t',rfl⟩:=r'
   exact call_range_2 (Waz I1 q1 q2 q3 q4 q)
def ZbD(wi:TI)(g:TG)(tb:TS):TS:=fun D σ H=>wi σ H fun J H1=>∃W:Nat->Nat->St->Hp->Prop,(∃m,W 0 m σ H1)/\∀i m σ H,W i m σ H →
 (J.stop i H/\D.nx σ H)\/(J.go i H/\∃N:St->Hp->Prop,(∀σ' H',N σ' H'->∃m',m'<m/\W (i+1) m' σ' H')/\∀x H',J.yld i H x H'->g x σ H' fun σ2 H2=>tb {D with nx:=N,ct:=N,bk:=D.nx} σ2 H2)
noncomputable def YI(fp:List Addr)(h:Heap):ZPO:=fp.filterMap fun b=>(h.get? b).map fun o=>(b,o)
theorem vt{fp:List Addr}{h:Heap}{b:Addr}{o:Obj}(hb:b∈fp)(e:h.get? b=some o):(b,o)∈YI fp h:=yJ.mpr ⟨b,hb,by rw[e];rfl⟩
theorem XaZ{fp:List Addr}{h:Heap}{p:Addr×Obj}(hp:p∈YI fp h):p.1∈fp/\h.get? p.1=some p.2:=by
 obtain⟨b,hb,e⟩:=yJ.mp hp
 cases q:h.get? b with
 | none=>rw[q]at e;cases e
 | some o=>
  rw[q]at e
  have e':(b,o)=p:=Option.some.inj e
  subst e'
  exact⟨hb,q⟩
theorem Inv.pinned{pins:ZPO}{σ:St}{H:Hp}{s:Shared}{fp:List Addr}(I:Inv X pins σ H s)(hf:∀b∈fp,Ws X pins H b)(ho:∀b∈fp,∃o,s.heap.get? b=some o/\∀v,o.data≠.cell v):Inv X (pins++YI fp s.heap) σ H s:=
 I.pins_of fun p hp=>(uQ.mp hp).elim (fun z=>I.pin p (uY _ z)) fun z=>by
  obtain⟨hb,e⟩:=XaZ z
  obtain⟨f0,f1,f2,_⟩:=hf p.1 hb
  obtain⟨o,e',d⟩:=ho p.1 hb
  rw[e]at e';cases e'
  exact⟨e,f0,f1,f2,d⟩
theorem Inv.unpinned{pins pl:ZPO}{σ:St}{H:Hp}{s:Shared}(I:Inv X (pins++pl) σ H s):Inv X pins σ H s:=I.pins_of fun p hp=>I.pin p (uY _ (xg _ hp))
theorem waX{iter:Expr}{body:List Stmt}{wi:TI}{g:TG}{tb:TS}{pos:Pos}(hp:PassesOwn (model X.prog X.w) X.A X.env X.xe)(hc:X.calm=true)(hi:PI X tg iter wi)(hg:PG X tg g)(hb:PSs X body tb)
  (hs:∀x,foldedSetIterable iter X.env x=pure x:=by intro _;rfl):PS X (.For tg iter body [] pos) (ZbD wi g tb):=by
 intro pins s σ H D I h
 refine wpAny_For (thn (hi pins s σ H _ I h) fun v s1 h1=>thn h1 fun itv s2 h2=>?_) hs
 obtain⟨it,fp,tn,J,H2,e,I2,T,st2,f2,W,⟨m0,w0⟩,turn⟩:=h2
 subst e
 have stat:∀{H':Hp},(∀b∈fp,H' b=none)->∀b∈fp,Ws X pins H' b:=fun hn b hb=>⟨hn b hb,(f2 b hb).2⟩
 refine codeAny_forLoop_any (fun n s'=>∃i σ' H',Inv X pins σ' H' s'/\tn i s'.heap/\(∀b∈fp,H' b=none)/\W i n σ' H') ?_ m0 ⟨0,σ,H2,I2,st2,fun b hb=>(f2 b hb).1,w0⟩
 rintro n s3 ⟨i,σ3,H3,I3,st3,fr3,w3⟩
 rcases turn i n σ3 H3 w3 with ⟨stop,qn⟩ | ⟨go,N,hN,step⟩
 ·refine wpAny_passesOwn hp (thn (T.done X rfl rfl rfl hc i pins s3 σ3 H3 X.xe I3 (stat fr3) st3 stop) fun r s4 w1_=>w1_.elim fun hr I4=>?_)
  subst hr
  exact wpAny_execs_nil ⟨σ3,H3,I4,qn⟩
 ·refine wpAny_passesOwn hp (thn (T.item X rfl rfl rfl hc i pins s3 σ3 H3 X.xe I3 (stat fr3) st3 go) fun r s4 w1_=>w1_.elim fun u z_=>z_.elim fun hr h4=>?_)
  subst hr
  refine wpAny_passesOwn hp (thn h4 fun _ s5 w1_=>w1_.elim fun x z_=>z_.elim fun H5 z_=>z_.elim fun I5 z_=>z_.elim fun r5 z_=>z_.elim fun y5 z_=>z_.elim fun st5 fr5=>?_)
  have I5':=I5.pinned (stat fr5) (T.obj _ _ st5)
  refine wpAny_passesOwn hp (thn (hg _ s5 σ3 H5 x u _ I5' r5 (step x H5 y5)) fun _ s6 w1_=>w1_.elim fun σ6 z_=>z_.elim fun H6 z_=>z_.elim fun I6 q6=>?_)
  refine wpAny_passesOwn hp (thn (hb _ s6 σ6 H6 _ I6 q6) fun f s7 q7=>?_)
  have again:∀{σ7:St} {H7:Hp},Inv X (pins++YI fp s5.heap) σ7 H7 s7->N σ7 H7->∃m,m<n/\∃i σ' H',Inv X pins σ' H' s7/\tn i s7.heap/\(∀b∈fp,H' b=none)/\W i m σ' H':=fun {σ7 H7} I7 n7=>by
   obtain⟨m',hm,w7⟩:=hN σ7 H7 n7
   refine⟨m',hm,i+1,σ7,H7,I7.unpinned,T.keep _ _ _ st5 fun b hb o e=>(I7.pin (b,o) (uY _ (uY _ (vt hb e)))).1,fun b hb=>?_,w7⟩
   obtain⟨o,e,d⟩:=T.obj _ _ st5 b hb
   exact(I7.pin (b,o) (uY _ (uY _ (vt hb e)))).2.1
  cases f with
  | next=>obtain⟨σ7,H7,I7,n7⟩:=q7;exact again I7 n7
  | cont=>obtain⟨σ7,H7,I7,n7⟩:=q7;exact again I7 n7
  | brk=>obtain⟨σ7,H7,I7,q7⟩:=q7;exact⟨σ7,H7,I7.unpinned,q7⟩
  | ret v=>obtain⟨x7,σ7,H7,I7,r7,q7⟩:=q7;exact⟨x7,σ7,H7,I7.unpinned,r7,q7⟩
end
noncomputable abbrev R2:=V->V->Hp->VK->Prop
def OpR(X:Cx)(f:Value->Value->Sem Value)(r:R2):Prop:=
 ∀(pins:ZPO) (s:Shared) (σ:St) (H:Hp) (x y:V) (v u:Value) (Q:VK),Inv X pins σ H s->RelV x v->RelV y u->r x y H Q →
  wpAny (model X.prog X.w) X.A (f v u) (EP X pins σ Q) X.xe s
def CallR(X:Cx)(f:Value)(r:List V->Hp->VK->Prop):Prop:=
 ∀(pins:ZPO) (s:Shared) (σ:St) (H:Hp) (xs:List V) (us:List Value) (Q:VK),Inv X pins σ H s->Vals xs us->r xs H Q →
  wpAny (model X.prog X.w) X.A (call f us) (EP X pins σ Q) X.xe s
def qbC(X:Cx)(r:V->Hp->(Bool->Hp->Prop)->Prop):Prop:=
 ∀(pins:ZPO) (s:Shared) (σ:St) (H:Hp) (x:V) (v:Value) (Q:Bool->Hp->Prop),Inv X pins σ H s->RelV x v->r x H Q →
  wpAny (model X.prog X.w) X.A (truthy v) (TP X pins σ Q) X.xe s
def tOp(r:R2)(ta tb:TE):TE:=fun σ H Q=>ta σ H fun x H1=>tb σ H1 fun y H2=>r x y H2 Q
def rI(C:Int->Int->Prop)(g:Int->Int->V):R2:=fun x y H Q=>∃i j,x=.int i/\y=.int j/\C i j/\Q (g i j) H
def rI0(g:Int->Int->V):R2:=fun x y H Q=>∃i j,x=.int i/\y=.int j/\Q (g i j) H
section
variable {X:Cx} {a b c:Expr} {ta tb tc:TE} {pos:Pos}
theorem Xa8(ha:PE X a ta)(hb:PE X b tb){pins:ZPO}{s:Shared}{σ:St}{H:Hp}{R:V->V->Hp->Prop}(I:Inv X pins σ H s)
  (h:ta σ H fun x H1=>tb σ H1 fun y H2=>R x y H2) {Q:ZVP} {f:Value->Value->Sem Value}
  (hf:∀v u s2 x y H2,Inv X pins σ H2 s2->RelV x v->RelV y u->R x y H2->wpAny (model X.prog X.w) X.A (f v u) Q X.xe s2) :
  wpAny (model X.prog X.w) X.A (eval a X.env) (fun v s₁=>wpAny (model X.prog X.w) X.A (eval b X.env) (fun u s₂=>wpAny (model X.prog X.w) X.A (f v u) Q X.xe s₂) X.xe s₁) X.xe s:=by
 refine Ww (ha pins s σ H _ I h) fun v s1 x H1 I1 r1 q1=>?_
 refine Ww (hb pins s1 σ H1 _ I1 q1) fun u s2 y H2 I2 r2 q2=>?_
 exact hf v u s2 x y H2 I2 r1 r2 q2
theorem Ybz{op:Operator}{r:R2}(ho:OpR X (binaryOp op) r)(ha:PE X a ta)(hb:PE X b tb):PE X (.BinOp a op b pos) (tOp r ta tb):=by
 intro pins s σ H Q I h
 exact wpAny_BinOp (Xa8 ha hb I h fun v u s2 x y H2 I2 rx ry q=>ho pins s2 σ H2 x y v u Q I2 rx ry q)
theorem opI{f:Value->Value->Sem Value}{C:Int->Int->Prop}{g:Int->Int->Int}
  (rule:∀(i j:Int) (t u:Tok) (s:Shared) (Q:ZVP) (E:ZVP),C i j->Q (.int (g i j) s.toks) {s with toks:=s.toks+1}->wpAny (model X.prog X.w) X.A (f (.int i t) (.int j u)) Q E s) :
  OpR X f (rI C fun i j=>.int (g i j)):=by
 intro pins s σ H x y v u Q I rx ry h
 obtain⟨i,j,rfl,rfl,hc,q⟩:=h
 obtain⟨t,rfl⟩:=rx
 obtain⟨t',rfl⟩:=ry
 exact rule i j t t' s _ _ hc ⟨.int (g i j),H,I.tok _,⟨_,rfl⟩,q⟩
theorem qbm{f:Value->Value->Sem Value}{g:Int->Int->Int}
  (rule:∀(i j:Int) (t u:Tok) (s:Shared) (Q:ZVP) (E:ZVP),Q (.int (g i j) s.toks) {s with toks:=s.toks+1}->wpAny (model X.prog X.w) X.A (f (.int i t) (.int j u)) Q E s) :
  OpR X f (rI0 fun i j=>.int (g i j)):=by
 intro pins s σ H x y v u Q I rx ry h
 obtain⟨i,j,rfl,rfl,q⟩:=h
 obtain⟨t,rfl⟩:=rx
 obtain⟨t',rfl⟩:=ry
 exact rule i j t t' s _ _ ⟨.int (g i j),H,I.tok _,⟨_,rfl⟩,q⟩
theorem qaT{f:Value->Value->Sem Value}{g:Int->Int->Bool}
  (rule:∀(i j:Int) (t u:Tok) (s:Shared) (Q:ZVP) (E:ZVP),Q (.bool (g i j)) s->wpAny (model X.prog X.w) X.A (f (.int i t) (.int j u)) Q E s) :
  OpR X f (rI0 fun i j=>.bl (g i j)):=by
 intro pins s σ H x y v u Q I rx ry h
 obtain⟨i,j,rfl,rfl,q⟩:=h
 obtain⟨t,rfl⟩:=rx
 obtain⟨t',rfl⟩:=ry
 exact rule i j t t' s _ _ ⟨.bl (g i j),H,I,rfl,q⟩
def Wa8(i j:Int):Prop:=0<j/\j<1073741824
def Ya6(i j:Int):Prop:=0<=j/\j<=1000000/\i.natAbs<2^64
def CMul(i j:Int):Prop:=(-(2^64)<i/\i<2^64)\/(-(2^64)<j/\j<2^64)
theorem CMul.ok{i j:Int}(h:CMul i j):IntMulOk i j:=by
 rcases h with ⟨h1,h2⟩ | ⟨h1,h2⟩
 ·exact .of_left (intBits_le_64 h1 h2)
 ·exact .of_right (intBits_le_64 h1 h2)
theorem Xbn:OpR X (binaryOp .Add) (rI0 fun i j=>.int (i+j)):=qbm fun _ _ _ _ _ _ _ q=>add_int q
theorem jbp:OpR X (binaryOp .Sub) (rI0 fun i j=>.int (i - j)):=qbm fun _ _ _ _ _ _ _ q=>sub_int q
theorem Xbq:OpR X (binaryOp .Mult) (rI CMul fun i j=>.int (i*j)):=opI fun _ _ _ _ _ _ _ hc q=>mul_int q hc.ok
theorem qbg:OpR X (binaryOp .FloorDiv) (rI Wa8 fun i j=>.int (i / j)):=opI fun i j _ _ _ _ _ hc q=>by
 have h1:(0:Int)<j:=hc.1
 have h2:j<1073741824:=hc.2
 exact floordiv_int (by lia) (by rw[Int.fdiv_eq_ediv_of_nonneg i (by lia)];exact q) (.inl (PyProof.noPylong_small (by lia)))
theorem jbn:OpR X (binaryOp .Mod) (rI (fun _ j=>0<j) fun i j=>.int (i % j)):=opI fun i j _ _ _ _ _ hc q=>by
 have h1:(0:Int)<j:=hc
 exact mod_int' (by lia) (by rw[Int.fmod_eq_emod_of_nonneg i (by lia)];exact q)
theorem Zbv:OpR X (binaryOp .Pow) (rI Ya6 fun i j=>.int (i^j.toNat)):=opI fun _ _ _ _ _ _ _ hc q=>pow_int_small hc.1 hc.2.1 hc.2.2 q
end
noncomputable def Wbs:V->V->Bool
 | .non,.non=>true | .non,.int _=>true | .int _,.non=>true | .non,.bl _=>true | .bl _,.non=>true | .non,.str _=>true | .str _,.non=>true
 | .int _,.int _=>true | .bl _,.bl _=>true | .str _,.str _=>true | .byt _,.byt _=>true
 | .int _,.str _=>true | .str _,.int _=>true | .bl _,.str _=>true | .str _,.bl _=>true
 | _,_=>false
def rEq:R2:=fun x y H Q=>Wbs x y=true/\Q (.bl (decide (x=y))) H
def rNe:R2:=fun x y H Q=>Wbs x y=true/\Q (.bl (!decide (x=y))) H
theorem YaL{i j:Int}:decide (V.int i=V.int j)=(i==j):=by
 rw[xj]
 simp
theorem waZ{i j:Bool}:decide (V.bl i=V.bl j)=(i==j):=by
 rw[xj]
 simp
theorem jaJ{i j:Str}:decide (V.str i=V.str j)=(i==j):=by
 rw[xj]
 simp
theorem kaN{i j:Array UInt8}:decide (V.byt i=V.byt j)=(i.toList==j.toList):=by
 rw[xj]
 cases i
 cases j
 simp
section
variable {X:Cx} {a b c:Expr} {ta tb tc:TE} {pos:Pos}
theorem wg{pins:ZPO}{σ:St}{H:Hp}{s:Shared}{Q:VK}{k k':Bool}(I:Inv X pins σ H s)(q:Q (.bl k) H)(e:k=k'):EP X pins σ Q (.bool k') s:=by
 subst e
 exact⟨.bl k,H,I,rfl,q⟩
theorem WaQ:OpR X (compareOp .Eq) rEq:=by
 intro pins s σ H x y v u Q I rx ry h
 obtain⟨hs,q⟩:=h
 cases x with
 | non=>
  cases rx
  cases y with
  | non=>cases ry;exact PySem.EqNone.eq_none_none (wg I q (by simp))
  | bl j=>cases ry;exact PySem.EqNone.eq_none_bool (wg I q (by simp))
  | int j=>obtain⟨t',rfl⟩:=ry;exact PySem.EqNone.eq_none_int (wg I q (by simp))
  | str j=>obtain⟨t',rfl⟩:=ry;exact PySem.EqNone.eq_none_str (wg I q (by simp))
  | _=>exact absurd (show false=true from hs) uK
 | bl i=>
  cases rx
  cases y with
  | non=>cases ry;exact PySem.EqNone.eq_bool_none (wg I q (by simp))
  | bl j=>cases ry;exact eq_bool (wg I q waZ)
  | str j=>obtain⟨t',rfl⟩:=ry;exact PySem.EqMixed.eq_bool_str (wg I q (by simp))
  | _=>exact absurd (show false=true from hs) uK
 | int i=>
  obtain⟨t,rfl⟩:=rx
  cases y with
  | non=>cases ry;exact PySem.EqNone.eq_int_none (wg I q (by simp))
  | int j=>obtain⟨t',rfl⟩:=ry;exact eq_int (wg I q YaL)
  | str j=>obtain⟨t',rfl⟩:=ry;exact PySem.EqMixed.eq_int_str (wg I q (by simp))
  | _=>exact absurd (show false=true from hs) uK
 | str i=>
  obtain⟨t,rfl⟩:=rx
  cases y with
  | non=>cases ry;exact PySem.EqNone.eq_str_none (wg I q (by simp))
  | bl j=>cases ry;exact PySem.EqMixed.eq_str_bool (wg I q (by simp))
  | int j=>obtain⟨t',rfl⟩:=ry;exact PySem.EqMixed.eq_str_int (wg I q (by simp))
  | str j=>obtain⟨t',rfl⟩:=ry;exact eq_str (wg I q jaJ)
  | _=>exact absurd (show false=true from hs) uK
 | byt i=>
  obtain⟨t,rfl⟩:=rx
  cases y with
  | byt j=>obtain⟨t',rfl⟩:=ry;exact PySem.W.eq_bytes (wg I q kaN)
  | _=>exact absurd (show false=true from hs) uK
 | _=>cases y<;>exact absurd (show false=true from hs) uK
theorem vaP:OpR X (compareOp .NotEq) rNe:=by
 intro pins s σ H x y v u Q I rx ry h
 obtain⟨hs,q⟩:=h
 cases x with
 | non=>
  cases rx
  cases y with
  | non=>cases ry;exact PySem.EqNone.ne_none_none (wg I q (by simp))
  | bl j=>cases ry;exact PySem.EqNone.ne_none_bool (wg I q (by simp))
  | int j=>obtain⟨t',rfl⟩:=ry;exact PySem.EqNone.ne_none_int (wg I q (by simp))
  | str j=>obtain⟨t',rfl⟩:=ry;exact PySem.EqNone.ne_none_str (wg I q (by simp))
  | _=>exact absurd (show false=true from hs) uK
 | bl i=>
  cases rx
  cases y with
  | non=>cases ry;exact PySem.EqNone.ne_bool_none (wg I q (by simp))
  | bl j=>cases ry;exact ne_bool (wg I q (congrArg not waZ))
  | str j=>obtain⟨t',rfl⟩:=ry;exact PySem.EqMixed.ne_bool_str (wg I q (by simp))
  | _=>exact absurd (show false=true from hs) uK
 | int i=>
  obtain⟨t,rfl⟩:=rx
  cases y with
  | non=>cases ry;exact PySem.EqNone.ne_int_none (wg I q (by simp))
  | int j=>obtain⟨t',rfl⟩:=ry;exact ne_int (wg I q (congrArg not YaL))
  | str j=>obtain⟨t',rfl⟩:=ry;exact PySem.EqMixed.ne_int_str (wg I q (by simp))
  | _=>exact absurd (show false=true from hs) uK
 | str i=>
  obtain⟨t,rfl⟩:=rx
  cases y with
  | non=>cases ry;exact PySem.EqNone.ne_str_none (wg I q (by simp))
  | bl j=>cases ry;exact PySem.EqMixed.ne_str_bool (wg I q (by simp))
  | int j=>obtain⟨t',rfl⟩:=ry;exact PySem.EqMixed.ne_str_int (wg I q (by simp))
  | str j=>obtain⟨t',rfl⟩:=ry;exact ne_str (wg I q (congrArg not jaJ))
  | _=>exact absurd (show false=true from hs) uK
 | byt i=>
  obtain⟨t,rfl⟩:=rx
  cases y with
  | byt j=>obtain⟨t',rfl⟩:=ry;exact PySem.W.ne_bytes (wg I q (congrArg not kaN))
  | _=>exact absurd (show false=true from hs) uK
 | _=>cases y<;>exact absurd (show false=true from hs) uK
theorem wbw:OpR X (compareOp .Lt) (rI0 fun i j=>.bl (decide (i<j))):=qaT fun _ _ _ _ _ _ _ q=>lt_int q
theorem Wby:OpR X (compareOp .LtE) (rI0 fun i j=>.bl (decide (i<=j))):=qaT fun _ _ _ _ _ _ _ q=>le_int q
theorem Xby:OpR X (compareOp .Gt) (rI0 fun i j=>.bl (decide (j<i))):=qaT fun _ _ _ _ _ _ _ q=>gt_int q
theorem Ybx:OpR X (compareOp .GtE) (rI0 fun i j=>.bl (decide (j<=i))):=qaT fun _ _ _ _ _ _ _ q=>ge_int q
theorem wa0(b:Expr){op:CmpOp}(h:op≠.In:=by decide)(h2:op≠.NotIn:=by decide):behindInMarks op b=false:=by
 have e1:(op==CmpOp.In)=false:=by cases op<;>first | rfl | exact absurd rfl h
 have e2:(op==CmpOp.NotIn)=false:=by cases op<;>first | rfl | exact absurd rfl h2
 cases b<;>simp[behindInMarks,e1,e2]
theorem kbk{op:CmpOp}{r:R2}(ho:OpR X (compareOp op) r)(ha:PE X a ta)(hb:PE X b tb)(hm:behindInMarks op b=false):PE X (.Compare a [op] [b] pos) (tOp r ta tb):=by
 intro pins s σ H Q I h
 exact wpAny_Compare1 (Xa8 ha hb I h fun v u s2 x y H2 I2 rx ry q=>ho pins s2 σ H2 x y v u Q I2 rx ry q) hm
def qbw(t:TE):TT:=fun σ H Q=>t σ H fun x H'=>∃k,x=.bl k/\Q k H'
theorem Xbg{op:CmpOp}{r:R2}(ho:OpR X (compareOp op) r)(ha:PE X a ta)(hb:PE X b tb)(hm:behindInMarks op b=false):PT X (.Compare a [op] [b] pos) (qbw (tOp r ta tb)):=by
 intro pins s σ H Q I h
 refine wpAny_isTrue_Compare1 (Ww (ha pins s σ H _ I h) fun v s1 x H1 I1 r1 q1=>Ww (hb pins s1 σ H1 _ I1 q1) fun u s2 y H2 I2 r2 q2=>
  thn (ho pins s2 σ H2 x y v u _ I2 r1 r2 q2) fun c s3 w1_=>w1_.elim fun z z_=>z_.elim fun H3 z_=>z_.elim fun I3 z_=>z_.elim fun r3 z_=>z_.elim fun k z_=>z_.elim fun e q3=>?_) hm
 subst e
 cases r3
 exact wpAny_truthy_bool ⟨H3,I3,q3⟩
def jbm(r r':R2)(ta tb tc:TE):TE:=fun σ H Q=>ta σ H fun x H1=>tb σ H1 fun y H2=>r x y H2 fun z H3=>∃k,z=.bl k ∧
 (if k=true then tc σ H3 fun w' H4=>r' y w' H4 Q else Q (.bl false) H3)
theorem vbb{op op':CmpOp}{r r':R2}(ho:OpR X (compareOp op) r)(ho':OpR X (compareOp op') r')(ha:PE X a ta)(hb:PE X b tb)(hc:PE X c tc)
  (hm:lastMarks [op,op'] [b,c]=false:=by with_unfolding_all rfl):PE X (.Compare a [op,op'] [b,c] pos) (jbm r r' ta tb tc):=by
 intro pins s σ H Q I h
 refine Compare_chain (Ww (ha pins s σ H _ I h) fun v s1 x H1 I1 r1 q1=>chain_link (Ww (hb pins s1 σ H1 _ I1 q1) fun u s2 y H2 I2 r2 q2=>
  thn (ho pins s2 σ H2 x y v u _ I2 r1 r2 q2) fun d s3 w1_=>w1_.elim fun z z_=>z_.elim fun H3 z_=>z_.elim fun I3 z_=>z_.elim fun r3 z_=>z_.elim fun k z_=>z_.elim fun e q3=>?_)) hm
 subst e
 cases r3
 refine wpAny_truthy_bool ?_
 cases k with
 | false=>exact ite_ff ⟨.bl false,H3,I3,rfl,q3⟩
 | true=>exact ite_tt (chain_last (thn (hc pins s3 σ H3 _ I3 q3) fun w' s4 w1_=>w1_.elim fun z' z_=>z_.elim fun H4 z_=>z_.elim fun I4 z_=>z_.elim fun r4 q4=>ho' pins s4 σ H4 y z' u w' Q I4 r2 r4 q4))
def kbv(K:uD)(x:V)(H:Hp)(k:Bool):Prop:=
 match x with
 | .non=>k=false
 | .bl b=>k=b
 | .int i=>k=(i != 0)
 | .str y=>y.length<=sizeLine/\k=((y.length:Int) != 0)
 | .byt y=>y.size<=sizeLine/\k=((y.size:Int) != 0)
 | .ref p=>(∃xs,SqL K H p xs/\k = !xs.isEmpty)\/(∃xs,SqT K H p xs/\k = !xs.isEmpty)\/∃kvs,H p=some (.dK kvs)/\k = !kvs.isEmpty
 | _=>False
theorem kaT{κ:Type}{kvs:List (κ×V)}{vs:List (κ×Value)}(r:KV kvs vs):(!vs.isEmpty) = !kvs.isEmpty:=by
 cases r<;>rfl
theorem qag{xs:List V}{its:List Value}(r:Vals xs its):(!its.toArray.isEmpty) = !xs.isEmpty:=by
 cases r<;>simp
theorem kN:(sizeLine:Nat)<2^63:=by rw[sizeLine_eq];decide
theorem kbq:qbC X (fun x H Q=>∃k,kbv X.K x H k/\Q k H):=by
 intro pins s σ H x v Q I rx h
 obtain⟨k,e,q⟩:=h
 have hl:=kN
 have hs:sizeLine=16777216:=sizeLine_eq
 cases x with
 | non=>
  cases rx
  have e':k=false:=e
  subst e'
  exact truthy_none ⟨H,I,q⟩
 | bl b=>
  cases rx
  have e':k=b:=e
  subst e'
  exact wpAny_truthy_bool ⟨H,I,q⟩
 | int i=>
  obtain⟨t,rfl⟩:=rx
  have e':k=(i != 0):=e
  subst e'
  exact PySem.P.truthy_int ⟨H,I,q⟩
 | str y=>
  obtain⟨t,rfl⟩:=rx
  obtain⟨hy,e'⟩:y.length<=sizeLine/\k=((y.length:Int) != 0):=e
  subst e'
  exact PySem.P.truthy_str (by lia) ⟨H,I.tok _,q⟩
 | byt y=>
  obtain⟨t,rfl⟩:=rx
  obtain⟨hy,e'⟩:y.size<=sizeLine/\k=((y.size:Int) != 0):=e
  subst e'
  exact PySem.W.truthy_bytes (by lia) ⟨H,I.tok _,q⟩
 | ref p=>
  cases rx
  have e':(∃xs,SqL X.K H p xs/\k = !xs.isEmpty)\/(∃xs,SqT X.K H p xs/\k = !xs.isEmpty)\/∃kvs,H p=some (.dK kvs)/\k = !kvs.isEmpty:=e
  rcases e' with ⟨xs,hx,e'⟩ | ⟨xs,hx,e'⟩ | ⟨kvs,hx,e'⟩
  ·subst e'
   obtain⟨its,r,pl,hz⟩:=I.list hx
   have hlen:=r.length
   exact wpAny_truthy_list pl.isList (by simp only[uI];lia) ⟨H,I.tok _,by rw[qag r];exact q⟩
  ·subst e'
   obtain⟨its,r,pl,hz⟩:=I.tuple hx
   have hlen:=r.length
   exact truthy_tuple pl (by simp only[uI];lia) ⟨H,I.tok _,by rw[qag r];exact q⟩
  ·subst e'
   obtain⟨hz,hS,vs,r,m⟩:kvs.length<=sizeLine/\(p==sysModules)=false/\∃vs,KV kvs vs/\s.heap.DictOf (We X.prog X.w) p vs:=I.hok p _ hx
   have hlen:kvs.length=vs.length:=Paired.length r
   exact wpAny_truthy_dict hS m (by lia) ⟨H,I.tok _,by rw[kaT r];exact q⟩
 | _=>exact(show False from e).elim
theorem jba(ha:PE X a ta)(he:∀whole,isTrue a X.env whole=(do let v ←whole;standAt a.pos;holding [v] (truthy v))) :
  PT X a (fun σ H Q=>ta σ H fun x H'=>∃k,kbv X.K x H' k/\Q k H'):=by
 intro pins s σ H Q I h
 exact isTrue_plain (Ww (ha pins s σ H _ I h) fun v s1 x H1 I1 r1 q1=>kbq pins s1 σ H1 x v Q I1 r1 q1) (he _)
theorem Zx{x:V}{us:List Value}(r:Vals [x] us):∃u,us=[u]/\RelV x u:=by
 cases r with
 | cons r1 r2=>cases r2;exact⟨_,rfl,r1⟩
theorem waS{x y:V}{us:List Value}(r:Vals [x,y] us):∃u w',us=[u,w']/\RelV x u/\RelV y w':=by
 cases r with
 | cons r1 r2=>
  cases r2 with
  | cons r3 r4=>cases r4;exact⟨_,_,rfl,r1,r3⟩
theorem va4(hc:X.calm=true):CallR X (.builtin "max") (fun xs H Q=>∃i j,xs=[.int i,.int j]/\Q (.int (if j > i then j else i)) H):=by
 intro pins s σ H xs us Q I r h
 obtain⟨i,j,rfl,q⟩:=h
 obtain⟨u,w',rfl,⟨t,rfl⟩,⟨t',rfl⟩⟩:=waS r
 refine max_two_ints (I.ok.hd hc) fun h' tk k=>⟨_,H,I.kept k,?_,q⟩
 by_cases hj:j > i
 ·rw[if_pos hj,if_pos hj];exact⟨_,rfl⟩
 ·rw[if_neg hj,if_neg hj];exact⟨_,rfl⟩
theorem vaZ(hc:X.calm=true):CallR X (.builtin "min") (fun xs H Q=>∃i j,xs=[.int i,.int j]/\Q (.int (if j<i then j else i)) H):=by
 intro pins s σ H xs us Q I r h
 obtain⟨i,j,rfl,q⟩:=h
 obtain⟨u,w',rfl,⟨t,rfl⟩,⟨t',rfl⟩⟩:=waS r
 refine min_two_ints (I.ok.hd hc) fun h' tk k=>⟨_,H,I.kept k,?_,q⟩
 by_cases hj:j<i
 ·rw[if_pos hj,if_pos hj];exact⟨_,rfl⟩
 ·rw[if_neg hj,if_neg hj];exact⟨_,rfl⟩
theorem call_int1:CallR X (.type "int") (fun xs H Q=>(∃i,xs=[.int i]/\Q (.int i) H)\/∃k,xs=[.bl k]/\Q (.int (if k then 1 else 0)) H):=by
 intro pins s σ H xs us Q I r h
 rcases h with ⟨i,rfl,q⟩ | ⟨k,rfl,q⟩
 ·obtain⟨u,rfl,t,rfl⟩:=Zx r
  exact call_int_int ⟨.int i,H,I,⟨_,rfl⟩,q⟩
 ·obtain⟨u,rfl,r1⟩:=Zx r
  cases r1
  exact call_int_bool ⟨.int (if k then 1 else 0),H,I.tok _,⟨_,rfl⟩,q⟩
end
structure ObjM(h:Heap)(x dx C:Addr)(mA:Str->Option Value):Prop where
 obj:h.get? x=some (PySem.W.instObj C dx)
 ns:h.Ns1 dx mA
 ne:dx≠x
theorem ka3{h:Heap}{dx:Addr}{mA:Str->Option Value}(n:h.Ns1 dx mA):∃od,h.get? dx=some od/\∀name,PySem.W.lookIn name od=some (mA name):=by
 obtain⟨o,es,ep,ho,hd,hk,_,hm⟩:=n
 refine⟨o,ho,fun name=>?_⟩
 have e:=hm name
 unfold nsFind findBy at e
 rw[←Array.find?_toList]at e
 unfold PySem.W.lookIn
 rw[hd]
 dsimp only
 split
 ·rename_i y q
  rw[q]at e
  exact congrArg some e
 ·rename_i q
  rw[q]at e
  have a:es.toList.any (·.refKey)=false:=by
   rw[List.any_eq_false]
   intro y hy
   obtain⟨z,t,hkey⟩:=hk y (Array.mem_toList_iff.mp hy)
   simp[DictEntry.refKey,hkey]
  have a':¬es.toList.any (·.refKey)=true:=by rw[a];exact uK
  rw[if_neg a']
  exact congrArg some e
theorem ObjM.look{h:Heap}{x dx C:Addr}{mA:Str->Option Value}(I:ObjM h x dx C mA):∃od,PySem.W.InstAt h x (PySem.W.instObj C dx) C (some od)/\∀name,PySem.W.lookIn name od=some (mA name):=
 let ⟨od,ho,hl⟩:=ka3 I.ns
 ⟨od,⟨I.obj,rfl,rfl,ho⟩,hl⟩
theorem RelO.some_of{v:V}{o:Option Value}(r:RelO (some v) o):∃u,o=some u/\RelV v u:=by
 cases o with
 | none=>exact(show False from r).elim
 | some u=>exact⟨u,rfl,r⟩
theorem RelO.none_of{o:Option Value}(r:RelO none o):o=none:=by
 cases o with
 | none=>rfl
 | some u=>exact(show False from r).elim
section
variable {P:Program} {w:World} {H H':Hp} {h h':Heap} {a C dx:Addr} {fs fs':List (Str×V)}
theorem Zbi(hok:HOk P w H h)(e:H a=some (.ins C dx fs)):∃mA,ObjM h a dx C mA/\(∀f,RelO (fs.lookup f) (mA f))/\PySem.Within mA (fs.map (·.1))/\fs.length<=1000/\H dx=some (.own a):=by
 obtain⟨d,z,ne,ob,mA,n,r,q⟩:=(show ObjOk P w H h a (.ins C dx fs) from hok a _ e)
 exact⟨mA,⟨ob,n,ne⟩,r,q,z,d⟩
end
structure Cls(K:uD)(C:Addr):Prop where
 pg:PySem.W.plainGet K C Str.empty=true
 hd:PySem.W.hasDictIn K C=true
 po:PySem.W.plainOver K C=true
 sa:PySem.W.findIn K (.ref C) "__setattr__"=some (some (.builtin "object.__setattr__"))
theorem Cls.get{K:uD}{C:Addr}(c:Cls K C)(f:Str):PySem.W.plainGet K C f=true:=c.pg
section
variable {X:Cx} {pins:ZPO} {σ:St} {H:Hp} {s:Shared} {A:Around} {E:ZVP} {Q:ZVP} {c:Value} {b:Bool}
inductive wI (K:uD) (H:Hp):V->Value->Prop where
 | non:wI K H .non (.type "NoneType")
 | bl (x:Bool):wI K H (.bl x) (.type "bool")
 | int (i:Int):wI K H (.int i) (.type "int")
 | str (x:Str):wI K H (.str x) (.type "str")
 | flt (x:UInt64):wI K H (.flt x) (.type "float")
 | lst {a:Addr} {xs:List V} (e:H a=some (.lst xs)):wI K H (.ref a) (.type "list")
 | frz {a:Addr} {o:Obj} {xs:List V} (e:H a=some (.frz o (.lst xs))):wI K H (.ref a) (.type "list")
 | tup {a:Addr} {xs:List V} (e:H a=some (.tup xs)):wI K H (.ref a) (.type "tuple")
 | dK {a:Addr} {kvs:List (Key×V)} (e:H a=some (.dK kvs)):wI K H (.ref a) (.type "dict")
 | dT {a:Addr} {kvs:List (List Key×V)} (e:H a=some (.dT kvs)):wI K H (.ref a) (.type "dict")
 | ins {a C dx:Addr} {fs:List (Str×V)} (e:H a=some (.ins C dx fs)) (cl:Cls K C) (ha:PySem.W.findIn K (.ref C) "__class__"=some (some (.builtin "object.__class__")))
   (hn:PySem.W.specialIn K (.builtin "object.__class__") "__get__"=some (some (.builtin "getset_descriptor.__get__"))) (htk:PySem.W.takesIn K (.builtin "object.__class__")=some true)
   (hm:PySem.W.mroIn K C (.type "object")=some true):wI K H (.ref a) (.ref C)
theorem vO{x:V}{u t:Value}(I:Inv X pins σ H s)(rx:RelV x u)(ty:wI X.K H x t)(e:PySem.W.kitOne X.K t c=some b)(h:∀tk,Q (.bool b) {s with toks:=tk}) :
  wpAny (model X.prog X.w) A (call (.builtin "isinstance") [u,c]) Q E s:=by
 cases ty with
 | non=>cases (show u=Value.none from rx);exact xB PySem.W.kitx_none I.kIn True.intro e (fun z=>nomatch z) h
 | bl y=>cases (show u=Value.bool y from rx);exact xB PySem.W.kitx_bool I.kIn True.intro e (fun z=>nomatch z) h
 | int i=>obtain⟨t,q⟩:=(show ∃t,u=Value.int i t from rx);cases q;exact xB PySem.W.kitx_int I.kIn True.intro e (fun z=>nomatch z) h
 | str y=>obtain⟨t,q⟩:=(show ∃t,u=Value.str y t from rx);cases q;exact xB PySem.W.kitx_str I.kIn True.intro e (fun z=>nomatch z) h
 | flt y=>obtain⟨t,q⟩:=(show ∃t,u=Value.float y t from rx);cases q;exact xB PySem.W.kitx_float I.kIn True.intro e (fun z=>nomatch z) h
 | @lst a xs ea=>
  cases (show u=Value.ref a from rx)
  obtain⟨_,_,n,_,h1⟩:=(show ObjOk X.prog X.w H s.heap a (.lst xs) from I.hok a _ ea)
  exact xB PySem.W.kitx_list I.kIn ⟨_,h1,rfl⟩ e (fun z=>nomatch z) h
 | @frz a ob xs ea=>
  cases (show u=Value.ref a from rx)
  obtain⟨_,_,_,n,_,h1⟩:=(show ObjOk X.prog X.w H s.heap a (.frz ob (.lst xs)) from I.hok a _ ea)
  exact xB PySem.W.kitx_list I.kIn ⟨_,h1,rfl⟩ e (fun z=>nomatch z) h
 | @tup a xs ea=>
  cases (show u=Value.ref a from rx)
  obtain⟨_,_,_,p⟩:=(show ObjOk X.prog X.w H s.heap a (.tup xs) from I.hok a _ ea)
  obtain⟨o,h1,h2,_⟩:=p
  exact xB PySem.W.kitx_tuple I.kIn ⟨o,h1,h2⟩ e (fun z=>nomatch z) h
 | @dK a kvs ea=>
  cases (show u=Value.ref a from rx)
  obtain⟨_,_,vs,_,p⟩:=(show ObjOk X.prog X.w H s.heap a (.dK kvs) from I.hok a _ ea)
  obtain⟨o,es,ep,h1,h2,_⟩:=p
  exact xB PySem.W.kitx_dict I.kIn ⟨o,h1,h2.1⟩ e (fun z=>nomatch z) h
 | @dT a kvs ea=>
  cases (show u=Value.ref a from rx)
  obtain⟨_,_,xs,_,o,es,ep,h1,h2,_⟩:=(show ObjOk X.prog X.w H s.heap a (.dT kvs) from I.hok a _ ea)
  exact xB PySem.W.kitx_dict I.kIn ⟨o,h1,h2.1⟩ e (fun z=>nomatch z) h
 | @ins a C dx fs ea cl ha hn htk hm=>
  cases (show u=Value.ref a from rx)
  obtain⟨mA,O,_⟩:=Zbi I.hok ea
  obtain⟨od,J,_⟩:=O.look
  exact xB (PySem.W.kitx_own (cl.get _) cl.hd ha hn htk hm) I.kIn J e (fun z=>nomatch z) h
end
structure Room(k:Nat)(A:Around):Prop where
 hd:A.handled=none
 dp:A.depth+3*k+5<recursionLimit
 un:A.units+16*k+200<cLine
theorem Room.mono{j k:Nat}{A:Around}(r:Room k A)(h:j<=k):Room j A:=⟨r.hd,by have:=r.dp;lia,by have:=r.un;lia⟩
theorem Room.deeper{k:Nat}{A:Around}(r:Room (k+1) A)(env:Env):Room k (A.deeper env):=
 ⟨r.hd,by have:=r.dp;show A.depth+1+3*k+5<_;lia,by have:=r.un;show A.units+3+16*k+200<_;lia⟩
theorem Room.depth{k:Nat}{A:Around}(r:Room k A):A.depth<recursionLimit:=by have:=r.dp;lia
theorem Room.units{k:Nat}{A:Around}(r:Room k A):A.units+64<cLine:=by have:=r.un;lia
def jaR:TA:=fun _ H Q=>Q [] H
def ZaP(ta:TE)(tr:TA):TA:=fun σ H Q=>ta σ H fun x H1=>tr σ H1 fun xs H2=>Q (x::xs) H2
section
variable {X:Cx} {e:Expr} {es:List Expr} {te:TE} {t:TA} {pos:Pos}
theorem pa_nil:PA X [] jaR:=fun _ _ _ _ H Q I h=>Calls.spliced_nil ⟨[],H,I,.nil,h⟩
theorem WB(ha:PE X e te)(hr:PA X es t)(hs:starEach (e::es) X.env=(false,eval e X.env)::starEach es X.env:=by rfl):PA X (e::es) (ZaP te t):=by
 intro pos pins s σ H Q I h
 rw[hs]
 show wpAny _ _ (spliced ((false,eval e X.env)::backTo pos (starEach es X.env))) _ _ s
 refine Calls.spliced_cons (Ww (ha pins s σ H _ I h) fun u s1 x H1 I1 r1 q1=>?_)
 exact jab (hr pos pins s1 σ H1 _ I1 q1) fun us s2 xs H2 I2 r2 q2=>⟨x::xs,H2,I2,.cons r1 r2,q2⟩
def YbD(t:TA):TE:=fun σ H Q=>t σ H fun xs H1=>xs.length<=sizeLine/\∀p,H1 p=none->Q (.ref p) (upd H1 p (.tup xs))
def wbC(t:TA):TE:=fun σ H Q=>t σ H fun xs H1=>xs.length<=sizeLine/\∀p,H1 p=none->Q (.ref p) (upd H1 p (.lst xs))
theorem jbv{x1}(h:PA X es t):PE X (.Tuple es x1 pos) (YbD t):=by
 intro pins s σ H Q I hq
 refine wpAny_Tuple_spliced (thn (h pos pins s σ H _ I hq) fun us s1 w1_=>w1_.elim fun xs z_=>z_.elim fun H1 z_=>z_.elim fun I1 z_=>z_.elim fun r z_=>z_.elim fun z q=>⟨by rw[←r.length];exact z,?_⟩)
 have hf:H1 s1.heap.objs.size=none:=I1.hok.fresh (uJ _)
 refine⟨.ref s1.heap.objs.size,upd H1 s1.heap.objs.size (.tup xs),I1.laid (t':=s1.toks) (fun b u e=>uC _ e) (uJ _) ?_,rfl,q _ hf⟩
 exact⟨z,us,r,⟨_,uT _ rfl,rfl,_,rfl⟩⟩
theorem vbp(h:PA X es t):PE X (.List es pos) (wbC t):=by
 intro pins s σ H Q I hq
 refine wpAny_List_spliced (thn (h pos pins s σ H _ I hq) fun us s1 w1_=>w1_.elim fun xs z_=>z_.elim fun H1 z_=>z_.elim fun I1 z_=>z_.elim fun r z_=>z_.elim fun z q=>⟨by rw[←r.length];exact z,?_⟩)
 have hf:H1 s1.heap.objs.size=none:=I1.hok.fresh (uJ _)
 refine⟨.ref s1.heap.objs.size,upd H1 s1.heap.objs.size (.lst xs),I1.laid (t':=s1.toks) (fun b u e=>uC _ e) (uJ _) ?_,rfl,q _ hf⟩
 exact⟨z,us,0,r,uT _ rfl⟩
end
noncomputable abbrev Sp:=List V->Hp->VK->XK->Prop
noncomputable abbrev CXT:=List Env->Hp->Shared->XK->Value->Shared->Prop
structure ZaV(P:Program)(w:World)(K:uD)(mg:Str->Option Value)(base:Heap)(A:Around)(outer:List Env)(s:Shared)(H:Hp):Prop where
 frames:A.frames=some outer
 mod:Mod K mg base
 bs:∀b o,base.get? b=some o->s.heap.get? b=some o/\H b=none
 bsz:base.objs.size<=s.heap.objs.size
 funs:s.heap.FunFrames base outer
 frf:∀b∈frs outer,H b=none
 hok:HOk P w H s.heap
 bare:AllBare s.gens
def CE(outer:List Env)(P:Program)(w:World)(H:Hp)(s:Shared)(Q:VK)(u:Value)(s':Shared):Prop:=
 ∃v H',s'.os=s.os/\AllBare s'.gens/\Un (frs outer) [] H H' s.heap s'.heap/\HOk P w H' s'.heap/\RelV v u/\Q v H'
def CR(CX:CXT)(outer:List Env)(P:Program)(w:World)(H:Hp)(s:Shared)(Q:VK)(E:XK)(r:Result)(s':Shared):Prop:=
 match r with
 | .ok (.ret u)=>CE outer P w H s Q u s'
 | .ok _=>False
 | .error e=>CX outer H s E e s'
structure ZE(P:Program)(w:World)(K:uD)(mg:Str->Option Value)(base:Heap)(CX:CXT)(k:Nat)(f:Addr)(fd:FuncData)(ps:List Str)(sp:Sp):Prop where
 len:∀vs H Q E,sp vs H Q E->vs.length=ps.length
 run:∀(A:Around) (outer:List Env) (s:Shared) (H:Hp) (args:Args) (us:List Value) (vs:List V) (Q:VK) (E:XK),Room k A->ZaV P w K mg base A outer s H->BindsTo s fd args (ps.zip us)->Vals vs us->sp vs H Q E →
  codeAny (model P w) A (.call (.ref f) args) (CR CX outer P w H s Q E) s
section
variable {X:Cx} {pins:ZPO} {σ:St} {H:Hp} {s s':Shared}
theorem Inv.env0(I:Inv X pins σ H s):ZaV X.prog X.w X.K X.mg X.base X.A X.stack s H:=
 ⟨I.ok.frames,I.ok.mod,I.bs,xQ I.ok.bsz I.sz,I.stack,I.stkFree,I.hok,I.bare⟩
theorem Inv.after{Q:VK}{u:Value}(I:Inv X pins σ H s)(h:CE X.stack X.prog X.w H s Q u s'):EP X pins σ Q u s':=by
 obtain⟨v,H',os,bare,un,hok,r,q⟩:=h
 obtain⟨hh,g,d,t,os'⟩:=s'
 obtain rfl:os'=s.os:=os
 exact⟨v,H',I.call (h':=hh) (g':=g) (d':=d) (t':=t) (ch:=[]) un hok bare (fun b z=>absurd z (by simp)),r,q⟩
end
def jaS(sp:Sp)(dvs:List V)(E:XK)(t:TA):TE:=fun σ H Q=>t σ H fun vs H1=>sp (vs++dvs) H1 Q E
def Binds(K:uD)(fd:FuncData)(ps:List Str)(ds:List Value):Prop:=
 ∀(s:Shared) (us:List Value),K.In s.heap->(us++ds).length=ps.length->BindsTo s fd ⟨us,[]⟩ (ps.zip (us++ds))
theorem Binds.all{K:uD}{fd:FuncData}{ps:List Str}(h:∀us:List Value,us.length=ps.length->bindArgs fd ⟨us,[]⟩=pure (ps.zip us)):Binds K fd ps []:=fun s us _ hl=>by
 rw[List.append_nil]at hl ⊢
 exact .of_eq (h us hl)
def Yaf(CX:CXT)(X:Cx)(E:XK):Prop:=∀(pins:ZPO) (σ:St) (H:Hp) (s:Shared) (e:Value) (s':Shared),Inv X pins σ H s->CX X.stack H s E e s'->X.xe e s'
section
variable {X:Cx} {CX:CXT} {k:Nat} {f C:Addr} {fd:FuncData} {ps:List Str} {sp:Sp} {dvs:List V} {ds:List Value} {E:XK} {x m:Str} {p pos apos:Pos} {e o:Expr} {es:List Expr} {ta:TE} {t:TA}
theorem wa2{pins:ZPO}{σ:St}{H:Hp}{s:Shared}{Q:VK}{us:List Value}{vs:List V}(F:ZE X.prog X.w X.K X.mg X.base CX k f fd ps sp)(hr:Room k X.A)(hb:Binds X.K fd ps ds)(hd:Vals dvs ds)(hx:Yaf CX X E)
  (I:Inv X pins σ H s) (r:Vals vs us) (h:sp (vs++dvs) H Q E):wpAny (model X.prog X.w) X.A (call (.ref f) us) (EP X pins σ Q) X.xe s:=by
 have r2:Vals (vs++dvs) (us++ds):=r.append hd
 have hl:(us++ds).length=ps.length:=by rw[←r2.length];exact F.len _ _ _ _ h
 refine wpAny_call (codeAny_mono (F.run X.A X.stack s H ⟨us,[]⟩ (us++ds) (vs++dvs) Q E hr I.env0 (hb s us I.kIn hl) r2 h) fun r s' hq=>?_)
 cases r with
 | error e=>exact hx pins σ H s e s' I hq
 | ok fl=>
  cases fl with
  | ret u=>exact I.after hq
  | next=>exact False.elim hq
  | brk=>exact False.elim hq
  | cont=>exact False.elim hq
theorem vbf(F:ZE X.prog X.w X.K X.mg X.base CX k f fd ps sp)(hr:Room k X.A)(hg:Gl X x)(hm:X.mg x=some (.ref f))(hk:yD X.K (.ref f)=true)(hb:Binds X.K fd ps ds)(hd:Vals dvs ds)(hx:Yaf CX X E)
  (ha:PA X (e::es) t) (hdb:(x==("__debug__":Str))=false:=by decide) (he:starEach (e::es) X.env=(false,eval e X.env)::starEach es X.env:=by rfl) (hpl:(backTo pos (starEach es X.env)).any (·.1)=false:=by rfl) :
  PE X (.Call (.Name x p) (e::es) [] pos) (jaS sp dvs E t):=by
 intro pins s σ H Q I h
 refine wpAny_Call_Name_kw (ZaK I hg hm ?_ hdb)
 refine PySem.W.callWith_K (h₀:=X.base) I.ok.mod.kin hk (jab (ha pos pins s σ H _ I h) fun us s1 vs H1 I1 r q=>⟨I1.kIn,?_⟩) he hpl
 exact wa2 F hr hb hd hx I1 r q
theorem ja9(F:ZE X.prog X.w X.K X.mg X.base CX k f fd ps sp)(hr:Room k X.A)(hg:Gl X x)(hm:X.mg x=some (.ref f))(hk:yD X.K (.ref f)=true)(hb:Binds X.K fd ps ds)(hd:Vals dvs ds)(hx:Yaf CX X E)
  (hdb:(x==("__debug__":Str))=false:=by decide):PE X (.Call (.Name x p) [] [] pos) (jaS sp dvs E jaR):=by
 intro pins s σ H Q I h
 refine wpAny_Call_Name_kw (ZaK I hg hm ?_ hdb)
 exact PySem.W.callWith_K0 I.kIn hk (wa2 (us:=[]) F hr hb hd hx I .nil h)
end
structure Wf(N P:List Str)(sc:Scope):Prop where
 kind:sc.kind=.function
 co:sc.isCoroutine=false
 gen:sc.isGenerator=false
 nd:N.Nodup
 pre:N.take P.length=P
 par:∀x∈P,sc.names.lookup x=some .local\/sc.names.lookup x=some .cell
 nofree:∀y∈sc.names,y.2≠.free
theorem van{kindOf:Str->Option NameKind}{x:Str}:∀{binds:List (Str×Value)} {m:Str->Option Value},(∀v,(x,v)∉binds)->bindL kindOf binds m x=m x
 | [],_,_=>rfl
 | (n,v)::r,m,h=>by
  unfold bindL
  rw[van fun w hw=>h w (uW _ hw)]
  split
  ·have:x≠n:=by rintro rfl;exact h v uc
   simp[this]
  ·rfl
theorem qan{kindOf:Str->Option NameKind}{x:Str}:∀{binds:List (Str×Value)} {m:Str->Option Value},(∀v,(x,v)∉binds)->bindC kindOf binds m x=m x
 | [],_,_=>rfl
 | (n,v)::r,m,h=>by
  unfold bindC
  rw[qan fun w hw=>h w (uW _ hw)]
  split
  ·rfl
  ·have:x≠n:=by rintro rfl;exact h v uc
   simp[this]
theorem Zap{kindOf:Str->Option NameKind}{x:Str}{v:Value}:∀{P:List Str} {vs:List Value} {i:Nat} {m:Str->Option Value},P.Nodup->P[i]?=some x->vs[i]?=some v->kindOf x=some .local →
  bindL kindOf (P.zip vs) m x=some v
 | [],_,_,_,_,h,_,_=>by simp at h
 | _::_,[],_,_,_,_,h,_=>by simp at h
 | p::P,w::vs,0,m,nd,h1,h2,hk=>by
  simp at h1 h2;subst h1;subst h2
  show bindL kindOf ((p,w)::P.zip vs) m p=_
  unfold bindL
  rw[van fun v hv=>(uv.mp nd).1 (List.of_mem_zip hv).1,if_pos hk]
  simp
 | p::P,w::vs,i+1,m,nd,h1,h2,hk=>by
  show bindL kindOf ((p,w)::P.zip vs) m x=_
  unfold bindL
  exact Zap (i:=i) (uv.mp nd).2 (by simpa using h1) (by simpa using h2) hk
theorem Yao{kindOf:Str->Option NameKind}{x:Str}{v:Value}:∀{P:List Str} {vs:List Value} {i:Nat} {m:Str->Option Value},P.Nodup->P[i]?=some x->vs[i]?=some v->kindOf x≠some .local →
  bindC kindOf (P.zip vs) m x=some v
 | [],_,_,_,_,h,_,_=>by simp at h
 | _::_,[],_,_,_,_,h,_=>by simp at h
 | p::P,w::vs,0,m,nd,h1,h2,hk=>by
  simp at h1 h2;subst h1;subst h2
  show bindC kindOf ((p,w)::P.zip vs) m p=_
  unfold bindC
  rw[qan fun v hv=>(uv.mp nd).1 (List.of_mem_zip hv).1,if_neg hk]
  simp
 | p::P,w::vs,i+1,m,nd,h1,h2,hk=>by
  show bindC kindOf ((p,w)::P.zip vs) m x=_
  unfold bindC
  exact Yao (i:=i) (uv.mp nd).2 (by simpa using h1) (by simpa using h2) hk
noncomputable def start(N:List Str)(vs:List V):St:=vs.map some++ui (N.length - vs.length) none
noncomputable def qV(CX:CXT)(P:Program)(w:World)(K:uD)(mg:Str->Option Value)(base:Heap)(N:List Str)(qual:Str)(scope:Scope)(f:Addr)(cd:Value)(A:Around)(outer:List Env)(s:Shared)(H:Hp)(E:XK):Cx where
 prog:=P
 w:=w
 K:=K
 mg:=mg
 base:=base
 A:=A.deeper (envOfC qual scope s.heap.objs.size f cd)
 N:=N
 s₀:=s
 H₀:=H
 env:=envOfC qual scope s.heap.objs.size f cd
 outer:=outer
 stack:=envOfC qual scope s.heap.objs.size f cd::outer
 ex:=[]
 calm:=true
 fn:=fun _=>true
 pn:=[]
 xe:=fun e s'=>wpAny (model P w) (A.deeper (envOfC qual scope s.heap.objs.size f cd)) (leaving (envOfC qual scope s.heap.objs.size f cd) e) (fun _ s''=>CX outer H s E e s'') (fun e' s''=>CX outer H s E e' s'') s'
theorem qaz{sc:Scope}{n:Nat}{x:Str}(h:sc.names.lookup x=some .cell):∃c,(cellsFrom n sc.names []).lookup x=some c:=by
 have q:=PySem.W.cellsFrom_some sc.names n [] (.inl h)
 exact ye.mp q
theorem WaY{CX:CXT}{P:Program}{w:World}{K:uD}{mg:Str->Option Value}{base:Heap}{N ps:List Str}{qual:Str}{scope:Scope}{f:Addr}{cd:Value}{A:Around}{outer:List Env}{s s1:Shared}{H:Hp}{E:XK}{us:List Value}{vs:List V}
  (S:Wf N ps scope) (hd:A.handled=none) (e0:ZaV P w K mg base A outer s H) (hl:vs.length=ps.length) (r:Vals vs us)
  (x:InCallC s s.heap.objs.size (bindL (envOfC qual scope s.heap.objs.size f cd).kindOf (ps.zip us) fun _=>none) (cellsFrom (s.heap.objs.size+1) scope.names []) (bindC (envOfC qual scope s.heap.objs.size f cd).kindOf (ps.zip us) fun _=>none) s1) :
  Inv (qV CX P w K mg base N qual scope f cd A outer s H E) [] (start N vs) H s1:=by
 have hpl:ps.length<=N.length:=by have:=congrArg xV S.pre;rw[uX]at this;lia
 obtain⟨h1,tk,rfl,hk⟩:=x.done
 have noA:∀b:Addr,b∉(qV CX P w K mg base N qual scope f cd A outer s H E).ex:=fun b z=>absurd (show b∈([]:List Addr) from z) (by simp)
 refine⟨⟨e0.mod,S.kind,rfl,rfl,uJ _,fun y z c h1 h2=>?_,fun y hy=>?_,fun y c _ h=>?_,fun _=>hd,Around.frames_deeper e0.frames,.inr ⟨rfl,rfl⟩,fun b z=>absurd z (noA b),e0.bs,e0.bsz,fun b _ _=>noA b,fun b z=>absurd z (noA b),e0.funs,e0.frf⟩,
  rfl,e0.bare,Un.kept hk,⟨_,x.toInCall.ns,fun i y v h1 h2 h3=>?_⟩,fun y c h=>⟨_,x.cell y c h⟩,e0.hok.fresh (uJ _),fun y c h=>?_,fun p hp=>absurd (show p∈([]:ZPO) from hp) (by simp),e0.hok.kept hk,?_⟩
 ·exact name_of_addr x.apart (PySem.mem_of_lookup h1) (PySem.mem_of_lookup h2)
 ·have hy:scope.names.lookup y=some .cell\/scope.names.lookup y=some .free:=hy
  rcases hy with hy | hy
  ·exact qaz hy
  ·exact absurd rfl (S.nofree _ (PySem.mem_of_lookup hy))
 ·exact yi (x.above y c (PySem.mem_of_lookup h))
 ·have hi:i<vs.length:=by
   unfold start at h2
   by_cases hi:i<vs.length
   ·exact hi
   ·rw[up (by simpa using hi)]at h2
    rw[yF]at h2
    split at h2<;>cases h2
  have ha:vs[i]?=some v:=by
   unfold start at h2
   rw[u8 (by simpa using hi),uG]at h2
   cases e:vs[i]? with
   | none=>rw[e]at h2;cases h2
   | some a=>rw[e]at h2;cases h2;rfl
  obtain⟨u,hu,rv⟩:=r.get ha
  have hp:ps[i]?=some y:=by
   rw[←S.pre,List.getElem?_take_of_lt (by lia)];exact h1
  have ndP:ps.Nodup:=by rw[←S.pre];exact S.nd.sublist (yk _ _)
  refine⟨u,rv,?_⟩
  rcases S.par y (uF hp) with k | k
  ·exact .inl ⟨k,Zap ndP hp hu k⟩
  ·obtain⟨c,e⟩:=qaz (n:=s.heap.objs.size+1) k
   refine .inr ⟨.inl k,c,e,?_⟩
   have q:=x.cell y c e
   rw[Yao ndP hp hu (by show scope.names.lookup y≠_;rw[k];decide)]at q
   exact q
 ·exact e0.hok.fresh (yi (x.above y c (PySem.mem_of_lookup h)))
 ·unfold start
  show _=N.length
  rw[uE,uA,xu]
  lia
theorem vbe{CX:CXT}{P:Program}{w:World}{K:uD}{mg:Str->Option Value}{base:Heap}{k:Nat}{f:Addr}{name qual:Str}{params:Arguments}{body:List Stmt}{scope:Scope}{dV kV doc pm cdv ct oc:Value}{an od:Option Addr}
  {osl:Array (Option Value)} {N ps:List Str} {sp:Sp} (lk:K.lookup f=some ⟨oc,od,.func (xU name qual params body scope dV kV doc pm an cdv ct),osl⟩) (hcd:yQ K cdv qual=true) (S:Wf N ps scope)
  (len:∀vs H Q E,sp vs H Q E->vs.length=ps.length)
  (hbody:∀(A:Around) (outer:List Env) (s:Shared) (H:Hp) (vs:List V) (Q:VK) (E:XK),Room k (A.deeper (envOfC qual scope s.heap.objs.size f cdv))->sp vs H Q E →
   ∃t,PSs (qV CX P w K mg base N qual scope f cdv A outer s H E) body t/\t {nx:=fun _ H'=>Q .non H',rt:=Q} (start N vs) H) :
  ZE P w K mg base CX (k+1) f (xU name qual params body scope dV kV doc pm an cdv ct) ps sp:=by
 refine⟨len,fun A outer s H args us vs Q E hr e0 hb r hsp=>?_⟩
 have hl:=len _ _ _ _ hsp
 have KX:K.In s.heap:=e0.mod.kin.keeps fun b o e=>(e0.bs b o e).1
 have lim:s.heap.NoLimit:=e0.mod.nolimit.keeps fun b o e=>(e0.bs b o e).1
 have hkind:∀y∈ps.zip us,scope.names.lookup y.1=some .local\/(scope.names.lookup y.1=some .cell/\((cellsFrom (s.heap.objs.size+1) scope.names []).lookup y.1).isSome=true):=fun⟨n,v⟩ hy=>by
  rcases S.par n (List.of_mem_zip hy).1 with q | q
  ·exact .inl q
  ·exact .inr ⟨q,PySem.W.cellsFrom_some _ _ _ (.inl q)⟩
 refine codeAny_call_function hr.depth (KX _ _ lk) rfl S.co S.gen rfl (PySem.W.codeRec_of KX hcd) (hb _ _ _ _ ?_)
 refine wpAny_newFunctionEnv_cells S.kind hkind fun env he s1 x=>?_
 subst he
 refine⟨lim.keeps x.toInCall.keep,codeAny_func ?_⟩
 obtain⟨t,ht,hq⟩:=hbody A outer s H vs Q E (hr.deeper _) hsp
 have I:Inv (qV CX P w K mg base N qual scope f cdv A outer s H E) [] (start N vs) H s1:=WaY S hr.hd e0 hl r x
 refine wpAny_mono (ht [] s1 (start N vs) H _ I hq) (fun fl s' hs=>?_) fun e s' hs=>hs
 have fin:∀{σ':St} {H':Hp} {v:V} {u:Value},Inv (qV CX P w K mg base N qual scope f cdv A outer s H E) [] σ' H' s'->RelV v u->Q v H'->CE outer P w H s Q u s':=
  fun {σ' H' v u} J rv q=>⟨v,H',J.os,J.bare,J.base,J.hok,rv,q⟩
 cases fl with
 | ret u=>
  obtain⟨v,σ',H',J,rv,q⟩:=hs
  exact fin J rv q
 | next=>
  obtain⟨σ',H',J,q⟩:=hs
  exact fin (v:=V.non) (u:=Value.none) J rfl q
 | brk=>
  obtain⟨_,_,_,q⟩:=hs
  exact False.elim q
 | cont=>
  obtain⟨_,_,_,q⟩:=hs
  exact False.elim q
section
variable {X:Cx} {x:Str} {p pos:Pos} {e:Expr} {es:List Expr} {t:TA} {id T:String} {r:List V->Hp->VK->Prop}
def tCB(r:List V->Hp->VK->Prop)(t:TA):TE:=fun σ H Q=>t σ H fun vs H1=>r vs H1 Q
theorem Wba(hc:CallR X (.builtin id) r)(hg:Gl X x)(hm:X.mg x=none)(hv:bootBuiltins x=some (.builtin id))(ha:PA X (e::es) t)(hn:x≠"__name__":=by decide)(hdb:(x==("__debug__":Str))=false:=by decide)
  (he:starEach (e::es) X.env=(false,eval e X.env)::starEach es X.env:=by rfl) (hpl:(backTo pos (starEach es X.env)).any (·.1)=false:=by rfl):PE X (.Call (.Name x p) (e::es) [] pos) (tCB r t):=by
 intro pins s σ H Q I h
 refine wpAny_Call_Name_kw (XC I hg hm hv ?_ hn hdb)
 exact yI (jab (ha pos pins s σ H _ I h) fun us s1 vs H1 I1 r1 q1=>hc pins s1 σ H1 vs us Q I1 r1 q1) he hpl
theorem jaX(hc:CallR X (.type T) r)(hg:Gl X x)(hm:X.mg x=none)(hv:bootBuiltins x=some (.type T))(ha:PA X (e::es) t)(hn:x≠"__name__":=by decide)(hdb:(x==("__debug__":Str))=false:=by decide)
  (he:starEach (e::es) X.env=(false,eval e X.env)::starEach es X.env:=by rfl) (hpl:(backTo pos (starEach es X.env)).any (·.1)=false:=by rfl):PE X (.Call (.Name x p) (e::es) [] pos) (tCB r t):=by
 intro pins s σ H Q I h
 refine wpAny_Call_Name_kw (XC I hg hm hv ?_ hn hdb)
 exact xN (jab (ha pos pins s σ H _ I h) fun us s1 vs H1 I1 r1 q1=>hc pins s1 σ H1 vs us Q I1 r1 q1) he hpl
end
end L2
namespace HT
open PySem PyProof.Rows
section
variable {prog:Program} {w:World} {A:Around} {E:ZVP} {s:Shared}
noncomputable def sIx(n d:Nat):Option Int->Nat
 | none=>d
 | some v=>if v<0 then (v+(n:Int)).toNat else min v.toNat n
end
end HT
namespace L2
open PySem PySem.Spec PyProof.Rows
noncomputable abbrev TO:=St->Hp->(Option Int->Hp->Prop)->Prop
def PO(X:Cx)(e:Option Expr)(t:TO):Prop:=
 ∀(pins:ZPO) (s:Shared) (σ:St) (H:Hp) (Q:Option Int->Hp->Prop),Inv X pins σ H s->t σ H Q →
  wpAny (model X.prog X.w) X.A (evalPart e X.env) (fun u s'=>∃o H',Inv X pins σ H' s'/\IsPart u o/\Q o H') X.xe s
def vbh:TO:=fun _ H Q=>Q none H
def kbw(t:TE):TO:=fun σ H Q=>t σ H fun x H1=>∃i,x=.int i/\Q (some i) H1
section
variable {X:Cx} {e:Expr} {te:TE} {lo hi:Option Expr} {tl th:TO} {pos p2:Pos}
theorem po_none:PO X none vbh:=by
 intro pins s σ H Q I h
 rw[evalPart_none]
 exact wpAny_pure ⟨none,H,I,.none,h⟩
theorem Wbl(h:PE X e te):PO X (some e) (kbw te):=by
 intro pins s σ H Q I hw
 rw[evalPart_some]
 refine Ww (h pins s σ H _ I hw) fun u s1 x H1 I1 r1 q1=>?_
 obtain⟨i,rfl,q⟩:=q1
 obtain⟨t,rfl⟩:=r1
 exact⟨some i,H1,I1,.int i t,q⟩
def SlR(X:Cx)(r:V->Option Int->Option Int->Hp->VK->Prop):Prop:=
 ∀(pins:ZPO) (s:Shared) (σ:St) (H:Hp) (x:V) (v vl vu:Value) (lo hi:Option Int) (sl:Addr) (Q:VK),Inv X pins σ H s->RelV x v->s.heap.IsSliceOf sl vl vu .none->IsPart vl lo->IsPart vu hi->r x lo hi H Q →
  ∃T id,typeLookup (.type T) "__getitem__"=pure (some (.builtin id))/\s.TypeIs v T/\wpAny (model X.prog X.w) X.A (getItem v (.ref sl)) (EP X pins σ Q) X.xe s
def tSl(r:V->Option Int->Option Int->Hp->VK->Prop)(te:TE)(tl th:TO):TE:=fun σ H Q=>te σ H fun x H1=>tl σ H1 fun l H2=>th σ H2 fun u H3=>r x l u H3 Q
theorem qa6{r:V->Option Int->Option Int->Hp->VK->Prop}(hr:SlR X r)(he:PE X e te)(hl:PO X lo tl)(hu:PO X hi th):PE X (.Subscript e (.Slice lo hi none p2) pos) (tSl r te tl th):=by
 intro pins s σ H Q I h
 refine Subscript_ (Ww (he pins s σ H _ I h) fun v s1 x H1 I1 r1 q1=>?_)
 refine wpAny_Slice (thn (hl pins s1 σ H1 _ I1 q1) fun vl s2 w1_=>w1_.elim fun l z_=>z_.elim fun H2 z_=>z_.elim fun I2 z_=>z_.elim fun pl q2=>thn (hu pins s2 σ H2 _ I2 q2) fun vu s3 w1_=>w1_.elim fun u z_=>z_.elim fun H3 z_=>z_.elim fun I3 z_=>z_.elim fun pu q3=>?_)
 rw[evalPart_none]
 refine wpAny_pure ?_
 have I4:Inv X pins σ H3 {s3 with heap:=s3.heap.push {cls:=.type "slice",data:=.fields #[vl,vu,.none]}}:=I3.kept (t':=s3.toks) fun b ob q=>uC _ q
 obtain⟨T,id,hT,ht,hg⟩:=hr pins {s3 with heap:=s3.heap.push {cls:=.type "slice",data:=.fields #[vl,vu,.none]}} σ H3 x v vl vu l u s3.heap.objs.size Q I4 r1 (Heap.IsSliceOf.new ..) pl pu q3
 show wpAny (model X.prog X.w) X.A (subscriptTail e (.Slice lo hi none p2) v (.ref s3.heap.objs.size)) (EP X pins σ Q) X.xe {s3 with heap:=s3.heap.push {cls:=.type "slice",data:=.fields #[vl,vu,.none]}}
 exact tail_any (ops:=[.ref s3.heap.objs.size,v]) ht hT hg (by with_unfolding_all rfl)
noncomputable def Wan(xs:List V)(lo hi:Option Int):List V:=(xs.drop (HT.sIx xs.length 0 lo)).take (HT.sIx xs.length xs.length hi - HT.sIx xs.length 0 lo)
theorem WaH(xs:List V)(lo hi:Option Int):(Wan xs lo hi).length<=xs.length:=by
 unfold Wan
 rw[uX,xD]
 lia
end
noncomputable def ixN(n:Nat)(i:Int):Option Nat:=if 0<=i then (if i<n then some i.toNat else none) else if -(n:Int)<=i then some (i+n).toNat else none
noncomputable def atI{α:Type}(xs:List α)(i:Int):Option α:=(ixN xs.length i).bind fun j=>xs[j]?
theorem Zan{n:Nat}{i:Int}{j:Nat}(h:ixN n i=some j):seqIndex? i n=some j/\j<n/\-(n:Int)<=i/\i<n:=by
 unfold ixN at h
 by_cases h0:0<=i
 ·rw[if_pos h0]at h
  by_cases h1:i<n
  ·rw[if_pos h1]at h
   have e:i.toNat=j:=Option.some.inj h
   exact⟨by rw[seqIndex_of h0 h1,e],by lia,by lia,h1⟩
  ·rw[if_neg h1]at h;cases h
 ·rw[if_neg h0]at h
  by_cases h1:-(n:Int)<=i
  ·rw[if_pos h1]at h
   have e:(i+n).toNat=j:=Option.some.inj h
   exact⟨by rw[seqIndex_neg (by lia) h1,e],by lia,h1,by lia⟩
  ·rw[if_neg h1]at h;cases h
theorem wal{α:Type}{xs:List α}{i:Int}{v:α}(h:atI xs i=some v):∃j,seqIndex? i xs.length=some j/\xs[j]?=some v/\j<xs.length/\-(xs.length:Int)<=i/\i<xs.length:=by
 unfold atI at h
 cases e:ixN xs.length i with
 | none=>rw[e]at h;cases h
 | some j=>
  rw[e]at h
  obtain⟨h1,h2,h3,h4⟩:=Zan e
  exact⟨j,h1,h,h2,h3,h4⟩
theorem Wam{α:Type}{xs:List α}{j:Nat}{v:α}(h:xs[j]?=some v):atI xs (j:Int)=some v:=by
 have hj:j<xs.length:=(uO.mp h).1
 have e:ixN xs.length (j:Int)=some j:=by
  unfold ixN
  rw[if_pos (by lia),if_pos (by lia)];simp
 unfold atI;rw[e];exact h
def Yan(b:Expr):Prop:=∀o i,subscripted b false o i=operate [o,i] (getItem o i)
def IxR(X:Cx)(r:R2):Prop:=
 ∀(value slice:Expr) (pins:ZPO) (s:Shared) (σ:St) (H:Hp) (x y:V) (v u:Value) (Q:VK),Inv X pins σ H s->RelV x v->RelV y u->r x y H Q →
  subscripted slice false v u=operate [v,u] (getItem v u)->wpAny (model X.prog X.w) X.A (subscriptTail value slice v u) (EP X pins σ Q) X.xe s
def MtR(X:Cx)(id:String)(r:V->List V->Hp->VK->Prop):Prop:=
 ∀(pins:ZPO) (s:Shared) (σ:St) (H:Hp) (x:V) (xs:List V) (v:Value) (us:List Value) (Q:VK),Inv X pins σ H s->RelV x v->Vals xs us->r x xs H Q →
  wpAny (model X.prog X.w) X.A (call (.builtin id) (v::us)) (EP X pins σ Q) X.xe s
section
variable {X:Cx} {a b:Expr} {ta tb:TE} {pos:Pos}
theorem IxR.or{r r':R2}(h:IxR X r)(h':IxR X r'):IxR X (fun x y H Q=>r x y H Q\/r' x y H Q):=by
 intro value slice pins s σ H x y v u Q I rx ry q hs
 rcases q with q | q
 ·exact h value slice pins s σ H x y v u Q I rx ry q hs
 ·exact h' value slice pins s σ H x y v u Q I rx ry q hs
theorem vbd{r:R2}(hr:IxR X r)(ha:PE X a ta)(hb:PE X b tb)(hs:Yan b):PE X (.Subscript a b pos) (tOp r ta tb):=by
 intro pins s σ H Q I h
 exact Subscript_ (Xa8 ha hb I h fun v u s2 x y H2 I2 rx ry q=>hr a b pins s2 σ H2 x y v u Q I2 rx ry q (hs _ _))
def qbE(K:uD):R2:=fun x y H Q=>∃p xs i v,x=.ref p/\y=.int i/\SqL K H p xs/\atI xs i=some v/\Q v H
def ZbE(K:uD):R2:=fun x y H Q=>∃p xs i v,x=.ref p/\y=.int i/\SqT K H p xs/\atI xs i=some v/\Q v H
def kbA:R2:=fun x y H Q=>∃z i c,x=.str z/\y=.int i/\z.length<=sizeLine/\atI z.cps.toList i=some c/\Q (.str ⟨#[c]⟩) H
theorem ix_list:IxR X (qbE X.K):=by
 intro value slice pins s σ H x y v u Q I rx ry h hs
 obtain⟨p,xs,i,z,rfl,rfl,hq,he,q⟩:=h
 cases rx
 obtain⟨t,rfl⟩:=ry
 obtain⟨its,r,pl,hz⟩:=I.list hq
 obtain⟨j,h1,h2,h3,h4,h5⟩:=wal he
 obtain⟨w,ew,rw'⟩:=r.get h2
 have hl:=r.length
 have hn:=kN
 have fin:EP X pins σ Q w s:=⟨z,H,I,rw',q⟩
 by_cases h0:0<=i
 ·have hj:i.toNat=j:=by
   rw[seqIndex_of h0 h5]at h1
   exact Option.some.inj h1
  exact item_listR pl.isList h0 (by lia) (by rw[hj];simpa using ew) fin hs
 ·have hj:(i+(its.toArray.size:Int)).toNat=j:=by
   rw[seqIndex_neg (by lia) h4]at h1
   rw[uI,←hl]
   exact Option.some.inj h1
  exact subscriptTail_builtinR (x:=w) pl.isList.typeIs slot_list_getitem.lookup
   (wpAny_getItem_list_neg (Q:=fun r s'=>r=w/\EP X pins σ Q r s') pl.isList (by lia) (by rw[uI]<;>lia) (by lia) (by rw[hj];simpa using ew) ⟨rfl,fin⟩) hs
theorem qbu:IxR X (ZbE X.K):=by
 intro value slice pins s σ H x y v u Q I rx ry h hs
 obtain⟨p,xs,i,z,rfl,rfl,hq,he,q⟩:=h
 cases rx
 obtain⟨t,rfl⟩:=ry
 obtain⟨its,r,pl,hz⟩:=I.tuple hq
 obtain⟨j,h1,h2,h3,h4,h5⟩:=wal he
 obtain⟨w,ew,rw'⟩:=r.get h2
 have hl:=r.length
 have hn:=kN
 have fin:EP X pins σ Q w s:=⟨z,H,I,rw',q⟩
 exact subscriptTail_builtinR (x:=w) pl.typeIs slot_tuple_getitem.lookup
  (getItem_tuple (j:=j) (Q:=fun r s'=>r=w/\EP X pins σ Q r s') pl (by lia) (by lia) (by rw[uI,←hl];exact h1) (by simpa using ew) ⟨rfl,fin⟩) hs
theorem Xbt:IxR X kbA:=by
 intro value slice pins s σ H x y v u Q I rx ry h hs
 obtain⟨z,i,c,rfl,rfl,hz,he,q⟩:=h
 obtain⟨t,rfl⟩:=rx
 obtain⟨t',rfl⟩:=ry
 obtain⟨j,h1,h2,h3,h4,h5⟩:=wal he
 have hl:z.cps.toList.length=z.length:=by simp[Str.length]
 rw[hl]at h1 h4 h5
 have hn:=kN
 exact tail_any (typeIs_str s z t) slot_str_getitem.lookup (getItem_str (c:=c) (by
  have e1:decide (i < -(2^63:Int))=false:=decide_eq_false (by lia)
  have e2:decide (i ≥ 2^63)=false:=decide_eq_false (by lia)
  rw[e1,e2,Bool.or_false]) (by rw[h1];simpa using h2) ⟨.str ⟨#[c]⟩,H,I.tok _,⟨_,rfl⟩,q⟩) hs
theorem YaS(its:List Value)(n j:Nat)(u:Value):Obj.mapSeq (·.setIfInBounds j u) {cls:=.type "list",data:=.seq its.toArray n}={cls:=.type "list",data:=.seq (its.set j u).toArray n}:=by
 simp[Obj.mapSeq]
theorem Inv.lst{pins:ZPO}{σ:St}{H:Hp}{s:Shared}{p:Addr}{xs:List V}(I:Inv X pins σ H s)(h:H p=some (.lst xs)) :
  ∃(its:List Value) (n:Nat),Vals xs its/\s.heap.get? p=some {cls:=.type "list",data:=.seq its.toArray n}/\xs.length<=sizeLine:=by
 obtain⟨z,its,n,r,e⟩:=I.hok p _ h
 exact⟨its,n,r,e,z⟩
theorem Inv.lstUpd{pins:ZPO}{σ:St}{H:Hp}{s:Shared}{p:Addr}{xs ys:List V}{its its':List Value}{n n':Nat}{f:Obj->Obj}(I:Inv X pins σ H s)(h:H p=some (.lst xs))
  (ho:s.heap.get? p=some {cls:=.type "list",data:=.seq its.toArray n}) (hf:f {cls:=.type "list",data:=.seq its.toArray n}={cls:=.type "list",data:=.seq its'.toArray n'}) (r:Vals ys its') (hz:ys.length<=sizeLine) (t:Nat) :
  Inv X pins σ (upd H p (.lst ys)) {s with heap:=s.heap.update p f,toks:=t}:=by
 have e:(s.heap.update p f).get? p=some {cls:=.type "list",data:=.seq its'.toArray n'}:=by
  rw[uw f ho (by rw[hf]<;>rfl),hf]
 refine I.write (x:=p) (e:=p) (by rw[h];trivial) (.inl rfl) (fun b u hb q=>(xG _ _ (Ne.symm hb)).trans q) ⟨_,e⟩ ?_
 exact⟨hz,its',n',r,e⟩
def vbx:V->V->V->Hp->(Hp->Prop)->Prop:=fun o i v H Q=>∃p xs k j,o=.ref p/\i=.int k/\H p=some (.lst xs)/\ixN xs.length k=some j/\Q (upd H p (.lst (xs.set j v)))
theorem ka5:Wbn X vbx:=by
 intro pins s σ H o i v ov iv u Q I ro ri rv h
 obtain⟨p,xs,k,j,rfl,rfl,hp,hj,q⟩:=h
 cases ro
 obtain⟨t,rfl⟩:=ri
 obtain⟨its,n,r,ho,hz⟩:=I.lst hp
 obtain⟨h1,h2,h3,h4⟩:=Zan hj
 have hl:=r.length
 have hn:=kN
 have I':Inv X pins σ (upd H p (.lst (xs.set j v))) {s with heap:=s.heap.update p (Obj.mapSeq (·.setIfInBounds j u))}:=
  I.lstUpd hp ho (YaS its n j u) (r.set rv j) (by rw[yN];exact hz) s.toks
 by_cases h0:0<=k
 ·have hk:k.toNat=j:=by
   rw[seqIndex_of h0 h4]at h1
   exact Option.some.inj h1
  exact PySem.W.ki_setAt ho h0 (by lia) (by rw[uI,←hl];exact h4) (by rw[hk];exact⟨_,I',q⟩)
 ·have hk:(k+(its.toArray.size:Int)).toNat=j:=by
   rw[seqIndex_neg (by lia) h3]at h1
   rw[uI,←hl]
   exact Option.some.inj h1
  exact PySem.W.ki_setBack ho (by lia) (by rw[uI,←hl];exact h3) (by lia) (by rw[hk];exact⟨_,I',q⟩)
theorem wax(lo hi:Option Int)(n:Nat):(sliceBounds lo hi none n).1=((HT.sIx n 0 lo:Nat):Int)/\(sliceBounds lo hi none n).2.1=((HT.sIx n n hi:Nat):Int)/\(sliceBounds lo hi none n).2.2=1:=by
 refine⟨?_,?_,rfl⟩
 ·cases lo with
  | none=>simp[sliceBounds,HT.sIx]
  | some i=>
   simp only[sliceBounds,HT.sIx,Option.getD_none,show(1:Int) > 0 by decide,if_true]
   by_cases h:i<0
   ·simp only[h,if_true]<;>lia
   ·simp only[h,if_false]<;>lia
 ·cases hi with
  | none=>simp[sliceBounds,HT.sIx]
  | some i=>
   simp only[sliceBounds,HT.sIx,Option.getD_none,show(1:Int) > 0 by decide,if_true]
   by_cases h:i<0
   ·simp only[h,if_true]<;>lia
   ·simp only[h,if_false]<;>lia
theorem was(its:List Value)(lo hi:Option Int):slicePick its.toArray lo hi none=((its.drop (HT.sIx its.length 0 lo)).take (HT.sIx its.length its.length hi - HT.sIx its.length 0 lo)).toArray:=by
 obtain⟨h1,h2,h3⟩:=wax lo hi its.toArray.size
 unfold slicePick
 rw[h1,h2,h3]
 simp only[sliceRange_one,pick_run,uI]<;>rfl
def kbB(K:uD):V->Option Int->Option Int->Hp->VK->Prop:=fun x lo hi H Q=>∃a xs,x=.ref a/\SqL K H a xs/\∀p,H p=none->Q (.ref p) (upd H p (.lst (Wan xs lo hi)))
theorem wbf:SlR X (kbB X.K):=by
 intro pins s σ H x v vl vu lo hi sl Q I rx hs pl pu h
 obtain⟨a,xs,rfl,hx,q⟩:=h
 cases rx
 obtain⟨its,r,ht,hz⟩:=I.list hx
 have hlen:=r.length
 refine⟨"list",_,slot_list_getitem.lookup,ht.isList.typeIs,?_⟩
 refine wpAny_getItem_list_slice ht.isList hs pl pu .none (by simp) ?_ (by rw[uI]<;>lia)
 rw[was,←hlen]
 refine⟨.ref s.heap.objs.size,_,I.laid (t':=s.toks) (o:=.lst (Wan xs lo hi)) (fun b ob q=>uC _ q) (uJ _) ?_,rfl,q _ (I.hok.fresh (uJ _))⟩
 exact⟨xQ (WaH xs lo hi) hz,_,0,(r.drop (HT.sIx xs.length 0 lo)).take (HT.sIx xs.length xs.length hi - HT.sIx xs.length 0 lo),uT _ rfl⟩
noncomputable def jG:V->Bool
 | .non=>true
 | .bl _=>true
 | .int _=>true
 | .str _=>true
 | _=>false
noncomputable def eqV:V->V->Bool
 | .non,.non=>true
 | .bl a,.bl b=>a==b
 | .bl a,.int b=>(if a then 1 else 0)==b
 | .int a,.bl b=>a==(if b then 1 else 0)
 | .int a,.int b=>a==b
 | .str a,.str b=>a==b
 | _,_=>false
theorem Z0{A:Around}{s:Shared}{y x:V}{u v:Value}(ry:RelV y u)(rx:RelV x v)(fy:jG y=true)(fx:jG x=true):SeqAt.EqAt A s u v (eqV y x):=by
 cases y with
 | non=>
  cases ry
  cases x with
  | non=>cases rx;exact SeqAt.EqAt.same _
  | bl b=>cases rx;exact SeqAt.EqAt.none_bool b
  | int b=>obtain⟨t,rfl⟩:=rx;exact SeqAt.EqAt.none_int b t
  | str b=>obtain⟨t,rfl⟩:=rx;exact SeqAt.EqAt.none_str b t
  | _=>exact absurd (show false=true from fx) uK
 | bl a=>
  cases ry
  cases x with
  | non=>cases rx;exact SeqAt.EqAt.bool_none a
  | bl b=>cases rx;exact SeqAt.EqAt.bool_bool a b
  | int b=>obtain⟨t,rfl⟩:=rx;exact SeqAt.EqAt.bool_int a b t
  | str b=>obtain⟨t,rfl⟩:=rx;exact SeqAt.EqAt.bool_str a b t
  | _=>exact absurd (show false=true from fx) uK
 | int a=>
  obtain⟨t',rfl⟩:=ry
  cases x with
  | non=>cases rx;exact SeqAt.EqAt.int_none a t'
  | bl b=>cases rx;exact SeqAt.EqAt.int_bool a t' b
  | int b=>obtain⟨t,rfl⟩:=rx;exact SeqAt.EqAt.int_int a t' b t
  | str b=>obtain⟨t,rfl⟩:=rx;exact SeqAt.EqAt.int_str a t' b t
  | _=>exact absurd (show false=true from fx) uK
 | str a=>
  obtain⟨t',rfl⟩:=ry
  cases x with
  | non=>cases rx;exact SeqAt.EqAt.str_none a t'
  | bl b=>cases rx;exact SeqAt.EqAt.str_bool a t' b
  | int b=>obtain⟨t,rfl⟩:=rx;exact SeqAt.EqAt.str_int a t' b t
  | str b=>obtain⟨t,rfl⟩:=rx;exact SeqAt.EqAt.str_str a t' b t
  | _=>exact absurd (show false=true from fx) uK
 | _=>exact absurd (show false=true from fy) uK
noncomputable def eqU(x:V)(u:Value):Bool:=match u with
 | .none=>eqV .non x
 | .bool b=>eqV (.bl b) x
 | .int i _=>eqV (.int i) x
 | .str z _=>eqV (.str z) x
 | _=>false
theorem WaV{x y:V}{u:Value}(r:RelV y u)(f:jG y=true):eqU x u=eqV y x:=by
 cases y with
 | non=>cases r;rfl
 | bl b=>cases r;rfl
 | int i=>obtain⟨t,rfl⟩:=r;rfl
 | str z=>obtain⟨t,rfl⟩:=r;rfl
 | _=>exact absurd (show false=true from f) uK
theorem jS{x:V}:∀{xs:List V} {us:List Value},Vals xs us->xs.all jG=true->us.any (eqU x)=xs.any fun y=>eqV y x
 | _,_,.nil,_=>rfl
 | y::xs,u::us,.cons r t,f=>by
  rw[List.all_cons,xP]at f
  rw[x8,x8,WaV r f.1,jS t f.2]
theorem jL{A:Around}{s:Shared}{x:V}{v:Value}(rx:RelV x v)(fx:jG x=true):∀{xs:List V} {us:List Value},Vals xs us->xs.all jG=true->∀u∈us,SeqAt.EqAt A s u v (eqU x u)
 | _,_,.nil,_=>fun u hu=>by cases hu
 | y::xs,u::us,.cons r t,f=>fun u' hu=>by
  rw[List.all_cons,xP]at f
  rcases uZ.mp hu with rfl | hu
  ·rw[WaV r f.1];exact Z0 r rx f.1 fx
  ·exact jL rx fx t f.2 u' hu
noncomputable def inV(x:V)(xs:List V):Bool:=xs.any fun y=>eqV y x
def rIn(K:uD)(neg:Bool):R2:=fun x y H Q=>∃p xs,y=.ref p/\(SqL K H p xs\/SqT K H p xs)/\jG x=true/\xs.all jG=true/\Q (.bl (if neg then !inV x xs else inV x xs)) H
theorem Wa4:OpR X (compareOp .In) (rIn X.K false):=by
 intro pins s σ H x y v u Q I rx ry h
 obtain⟨p,xs,rfl,hq,fx,fs,q⟩:=h
 cases ry
 rcases hq with hq | hq
 ·obtain⟨its,r,pl,hz⟩:=I.list hq
  refine SeqAt.in_listAt (eqU x) pl.isList (fun w hw=>jL rx fx r fs w (by simpa using hw)) ⟨.bl _,H,I,rfl,?_⟩
  rw[show its.toArray.any (eqU x)=its.any (eqU x) by simp,jS r fs]
  exact q
 ·obtain⟨its,r,pl,hz⟩:=I.tuple hq
  refine SeqAt.in_tupleAt (eqU x) pl (fun w hw=>jL rx fx r fs w (by simpa using hw)) ⟨.bl _,H,I,rfl,?_⟩
  rw[show its.toArray.any (eqU x)=its.any (eqU x) by simp,jS r fs]
  exact q
theorem XaF:OpR X (compareOp .NotIn) (rIn X.K true):=by
 intro pins s σ H x y v u Q I rx ry h
 obtain⟨p,xs,rfl,hq,fx,fs,q⟩:=h
 cases ry
 rcases hq with hq | hq
 ·obtain⟨its,r,pl,hz⟩:=I.list hq
  refine SeqAt.notIn_listAt (eqU x) pl.isList (fun w hw=>jL rx fx r fs w (by simpa using hw)) ⟨.bl _,H,I,rfl,?_⟩
  rw[show its.toArray.any (eqU x)=its.any (eqU x) by simp,jS r fs]
  exact q
 ·obtain⟨its,r,pl,hz⟩:=I.tuple hq
  refine SeqAt.notIn_tupleAt (eqU x) pl (fun w hw=>jL rx fx r fs w (by simpa using hw)) ⟨.bl _,H,I,rfl,?_⟩
  rw[show its.toArray.any (eqU x)=its.any (eqU x) by simp,jS r fs]
  exact q
theorem call_len_seq:CallR X (.builtin "len") (fun xs H Q=>∃p ys,xs=[.ref p]/\(SqL X.K H p ys\/SqT X.K H p ys)/\Q (.int ys.length) H):=by
 intro pins s σ H xs us Q I r h
 obtain⟨p,ys,rfl,hq,q⟩:=h
 obtain⟨u,rfl,rx⟩:=Zx r
 cases rx
 have hn:=kN
 rcases hq with hq | hq
 ·obtain⟨its,r',pl,hz⟩:=I.list hq
  have hlen:=r'.length
  exact Calls.call_len_list pl.isList (by simp only[uI]<;>lia) ⟨.int ys.length,H,I.tok _,⟨s.toks+1,by rw[uI,hlen]⟩,q⟩
 ·obtain⟨its,r',pl,hz⟩:=I.tuple hq
  have hlen:=r'.length
  exact len_tuple pl (by simp only[uI]<;>lia) ⟨.int ys.length,H,I.tok _,⟨s.toks+1,by rw[uI,hlen]⟩,q⟩
theorem call_list_of:CallR X (.type "list") (fun xs H Q=>∃p ys,xs=[.ref p]/\(SqL X.K H p ys\/SqT X.K H p ys)/\∀l,H l=none->Q (.ref l) (upd H l (.lst ys))):=by
 intro pins s σ H xs us Q I r h
 obtain⟨p,ys,rfl,hq,q⟩:=h
 obtain⟨u,rfl,rx⟩:=Zx r
 cases rx
 have fin:∀(its:List Value),Vals ys its->ys.length<=sizeLine->∀(h':Heap) (c':Nat),(∀b o',s.heap.get? b=some o'->h'.get? b=some o') →
   h'.get? s.heap.objs.size=some {cls:=.type "list",dict:=none,data:=.seq its.toArray c',slots:=#[]}->EP X pins σ Q (.ref s.heap.objs.size) {s with heap:=h'}:=fun its r' hz h' c' kp e=>
  ⟨.ref s.heap.objs.size,_,I.laid (t':=s.toks) kp (uJ _) (show ObjOk X.prog X.w _ h' _ (.lst ys) from⟨hz,its,c',r',e⟩),rfl,q _ (I.hok.fresh (uJ _))⟩
 rcases hq with hq | hq
 ·obtain⟨its,r',pl,hz⟩:=I.list hq
  have hlen:=r'.length
  obtain⟨o,ho,hc,n,hd⟩:=pl.isList
  exact call_list_seq p (.inl rfl) ho hc hd (fun h' c' kp e=>fin its r' hz h' c' kp e) (by simp only[uI]<;>lia)
 ·obtain⟨its,r',pl,hz⟩:=I.tuple hq
  have hlen:=r'.length
  obtain⟨o,ho,hc,n,hd⟩:=pl
  exact call_list_seq p (.inr rfl) ho hc hd (fun h' c' kp e=>fin its r' hz h' c' kp e) (by simp only[uI]<;>lia)
def tyV(K:uD)(T:String)(x:V)(H:Hp):Prop:=match x with
 | .str _=>T="str"
 | .int _=>T="int"
 | .ref p=>(T="list"/\∃xs,SqL K H p xs)\/(T="tuple"/\∃o,K.lookup p=some o/\o.cls=.type "tuple"/\o.dict=none) \/
   (T="dict"/\((∃kvs,H p=some (.dK kvs))\/∃kvs,H p=some (.dT kvs)))\/(T="set"/\∃S n,H p=some (.set S n))
 | _=>False
theorem ka2{pins:ZPO}{σ:St}{H:Hp}{s:Shared}{T:String}{x:V}{v:Value}(I:Inv X pins σ H s)(r:RelV x v)(ty:tyV X.K T x H) :
  s.TypeIs v T/\∀a,v=.ref a->∃ob,s.heap.get? a=some ob/\ob.dict=none:=by
 cases x with
 | str z=>
  obtain⟨t,rfl⟩:=r
  cases (show T="str" from ty)
  exact⟨typeIs_str s z t,fun _ e=>nomatch e⟩
 | int i=>
  obtain⟨t,rfl⟩:=r
  cases (show T="int" from ty)
  exact⟨typeIs_int s i t,fun _ e=>nomatch e⟩
 | ref p=>
  cases r
  rcases ty with ⟨rfl,xs,hq⟩ | ⟨rfl,o,hk,hc,hd⟩ | ⟨rfl,hk⟩ | ⟨rfl,S,n,hk⟩
  ·obtain⟨its,_,pl,_⟩:=I.list hq
   refine⟨pl.isList.typeIs,fun a e=>?_⟩
   cases e
   obtain⟨o,n,e,c,hd,_⟩:=pl
   exact⟨o,e,hd⟩
  ·refine⟨⟨o,I.kIn p o hk,hc⟩,fun a e=>?_⟩
   cases e
   exact⟨o,I.kIn _ o hk,hd⟩
  ·have z:∃o,s.heap.get? p=some o/\o.ExactDict:=by
    rcases hk with ⟨kvs,hk⟩ | ⟨kvs,hk⟩
    ·obtain⟨_,_,_,_,o,_,_,e,ex,_⟩:=I.hok p _ hk
     exact⟨o,e,ex⟩
    ·obtain⟨_,_,_,_,o,_,_,e,ex,_⟩:=I.hok p _ hk
     exact⟨o,e,ex⟩
   obtain⟨o,e,ex⟩:=z
   refine⟨⟨o,e,ex.1⟩,fun a e2=>?_⟩
   cases e2
   exact⟨o,e,ex.2.1⟩
  ·obtain⟨o,_,_,_,e,ex,_⟩:=I.hok p _ hk
   refine⟨⟨o,e,ex.1⟩,fun a e2=>?_⟩
   cases e2
   exact⟨o,e,ex.2.1⟩
 | _=>exact False.elim ty
def ZbA(K:uD)(T:String)(r:V->List V->Hp->VK->Prop)(to:TE):TE:=fun σ H Q=>to σ H fun x H1=>tyV K T x H1/\r x [] H1 Q
def tBM(K:uD)(T:String)(r:V->List V->Hp->VK->Prop)(to:TE)(t:TA):TE:=fun σ H Q=>to σ H fun x H1=>tyV K T x H1/\t σ H1 fun xs H2=>r x xs H2 Q
variable {o e:Expr} {es:List Expr} {to:TE} {t:TA} {name:Str} {apos cpos:Pos} {T id:String} {r:V->List V->Hp->VK->Prop}
theorem qbr(pa:PlainAttrs T)(slot:Slot T name id)(hty:typeOf (.builtin id)=pure (.type "method_descriptor"))(hm:MtR X id r)(ho:PE X o to)
  (hbase:attributeBase o name X.env (eval o X.env)=eval o X.env:=by rfl) (hline:(apos.endLine==cpos.line)=true:=by rfl):PE X (.Call (.Attribute o name apos) [] [] cpos) (ZbA X.K T r to):=by
 intro pins s σ H Q I h
 refine wpAny_Call_method0_late hbase hline (thn (ho pins s σ H _ I h) fun v s1 w1_=>w1_.elim fun x z_=>z_.elim fun H1 z_=>z_.elim fun I1 z_=>z_.elim fun r1 z_=>z_.elim fun ty q1=>?_)
 obtain⟨h1,h2⟩:=ka2 I1 r1 ty
 exact⟨T,id,pa,slot,hty,h1,h2,Calls.callWith_builtin rfl (PySem.evalArgs_none (hm pins s1 σ H1 x [] v [] Q I1 r1 .nil q1))⟩
theorem Yag(pa:PlainAttrs T)(slot:Slot T name id)(hty:typeOf (.builtin id)=pure (.type "method_descriptor"))(hm:MtR X id r)(ho:PE X o to)(ha:PA X (e::es) t)
  (hbase:attributeBase o name X.env (eval o X.env)=eval o X.env:=by rfl)
  (hfew:((backTo cpos (starEach (e::es) X.env)).all (fun x=>!x.1)&&(backToKw cpos (keywordEach [] X.env)).all (fun x=>x.1.isSome)
   && decide ((e::es).length+([]:List Keyword).length+(if ([]:List Keyword).isEmpty then 0 else 1)<30))=true:=by rfl)
  (hline:(apos.endLine==cpos.line)=true:=by rfl) (hs:starEach (e::es) X.env=(false,eval e X.env)::starEach es X.env:=by rfl) (hplain:(backTo cpos (starEach es X.env)).any (·.1)=false:=by rfl) :
  PE X (.Call (.Attribute o name apos) (e::es) [] cpos) (tBM X.K T r to t):=by
 intro pins s σ H Q I h
 refine wpAny_Call_method_late hbase hfew hline rfl (thn (ho pins s σ H _ I h) fun v s1 w1_=>w1_.elim fun x z_=>z_.elim fun H1 z_=>z_.elim fun I1 z_=>z_.elim fun r1 z_=>z_.elim fun ty q1=>?_)
 obtain⟨h1,h2⟩:=ka2 I1 r1 ty
 refine⟨T,id,pa,slot,hty,h1,h2,?_⟩
 have hA:=ha cpos pins s1 σ H1 _ I1 q1
 rw[hs]at hA ⊢
 refine Calls.callWith_builtin (by show(false||(backTo cpos (starEach es X.env)).any (·.1))=false;rw[hplain]<;>rfl) (Calls.evalArgs_plain ?_)
 exact jab hA fun us s2 vs H2 I2 r2 q2=>hm pins s2 σ H2 x vs v us Q I2 r1 r2 q2
end
def MtM(X:Cx)(id:String)(r:V->List V->Hp->VK->Prop):Prop:=
 ∀(pins:ZPO) (s:Shared) (σ:St) (H:Hp) (x:V) (xs:List V) (v:Value) (us:List Value) (Q:VK),Inv X pins σ H s->RelV x v->Vals xs us->r x xs H Q →
  wpAny (model X.prog X.w) X.A (call (.builtin id) (v::us)) (EP X pins σ Q) X.xe s
theorem Vals.one:∀{x:V} {us:List Value},Vals [x] us->∃u,us=[u]/\RelV x u
 | _,_,.cons r .nil=>⟨_,rfl,r⟩
theorem Vals.zero:∀{us:List Value},Vals [] us->us=[]
 | _,.nil=>rfl
theorem Vals.eraseIdx:∀{xs:List V} {us:List Value} (i:Nat),Vals xs us->Vals (xs.eraseIdx i) (us.eraseIdx i)
 | _,_,_,.nil=>.nil
 | _,_,0,.cons _ t=>t
 | _,_,i+1,.cons r t=>.cons r (Vals.eraseIdx i t)
theorem kao{α:Type}:∀(l:List α) (i:Nat),(l.eraseIdx i).length<=l.length
 | [],_=>uJ _
 | _::_,0=>xw _
 | _::r,i+1=>Nat.succ_le_succ (kao r i)
section
variable {X:Cx} {pins:ZPO} {σ:St} {H:Hp} {s:Shared} {l b:Addr} {xs ys zs:List V}
theorem Inv.lset{its its':List Value}{n:Nat}{f:Array Value->Array Value}{t':Nat}(I:Inv X pins σ H s)(hH:H l=some (.lst xs))
  (e:s.heap.get? l=some {cls:=.type "list",data:=.seq its.toArray n}) (hf:f its.toArray=its'.toArray) (hv:Vals ys its') (hz:ys.length<=sizeLine) :
  Inv X pins σ (upd H l (.lst ys)) {s with heap:=s.heap.update l (Obj.mapSeq f),toks:=t'}:=by
 have q:=PySem.IsL.update e f
 rw[hf]at q
 refine I.write (x:=l) (e:=l) (by rw[hH];exact trivial) (.inl rfl) (fun b' u hb hu=>(xG s.heap (Obj.mapSeq f) (Ne.symm hb)).trans hu) ⟨_,q⟩ ?_
 exact⟨hz,its',_,hv,q⟩
theorem Inv.lnew{its:List Value}{t':Nat}(I:Inv X pins σ H s)(hv:Vals ys its)(hz:ys.length<=sizeLine) :
  Inv X pins σ (upd H s.heap.objs.size (.lst ys)) {s with heap:=s.heap.push {cls:=.type "list",data:=.seq its.toArray},toks:=t'}:=
 I.laid (fun _ _ q=>uC _ q) (uJ _) ⟨hz,its,0,hv,uT _ rfl⟩
theorem Inv.fresh(I:Inv X pins σ H s):H s.heap.objs.size=none:=I.hok.fresh (uJ _)
theorem Inv.lstM(I:Inv X pins σ H s)(hH:H l=some (.lst xs)):xs.length<=sizeLine/\∃(its:List Value) (n:Nat),Vals xs its/\xs.length=its.length/\s.heap.get? l=some {cls:=.type "list",data:=.seq its.toArray n}:=by
 obtain⟨z,its,n,r,e⟩:=I.hok l _ hH
 exact⟨z,its,n,r,r.length,e⟩
theorem qbc{n:Nat}(h:n<=sizeLine):Builtin.List.listTooLong n=false:=by
 unfold Builtin.List.listTooLong
 exact decide_eq_false (by lia)
end
section
variable {X:Cx}
def ZaL:V->List V->Hp->VK->Prop:=fun x vs H Q=>∃l xs y,x=.ref l/\vs=[y]/\H l=some (.lst xs)/\xs.length<sizeLine/\Q .non (upd H l (.lst (xs++[y])))
theorem Wap:MtM X "list.append" ZaL:=by
 intro pins s σ H x vs v us Q I rx rv h
 obtain⟨l,xs,y,rfl,rfl,hH,hz,q⟩:=h
 cases rx
 obtain⟨u,rfl,ru⟩:=rv.one
 obtain⟨z,its,n,r,hl,e⟩:=I.lstM hH
 refine call_meets F.slot_list_append ⟨_,e,rfl⟩ F.entry_list_append (F.args_list_append_2 _ _) (PySem.list_append l its.toArray n u (by rw[uI];lia)) ⟨e,?_⟩
 refine⟨.non,_,I.lset (its':=its++[u]) hH e (by simp) (r.append (.cons ru .nil)) ?_,rfl,q⟩
 rw[uE,ur]
 lia
def XaN:V->List V->Hp->VK->Prop:=fun x vs H Q=>∃l b xs zs,x=.ref l/\vs=[.ref b]/\H l=some (.lst xs)/\H b=some (.lst zs)/\xs.length+zs.length<=sizeLine/\Q .non (upd H l (.lst (xs++zs)))
theorem vaY:MtM X "list.extend" XaN:=by
 intro pins s σ H x vs v us Q I rx rv h
 obtain⟨l,b,xs,zs,rfl,rfl,hH,hB,hz,q⟩:=h
 cases rx
 obtain⟨u,rfl,ru⟩:=rv.one
 cases ru
 obtain⟨z,its,n,r,hl,e⟩:=I.lstM hH
 obtain⟨z2,its2,n2,r2,hl2,e2⟩:=I.lstM hB
 have hsz:its.toArray.size+its2.toArray.size<=sizeLine:=by rw[uI,uI];lia
 have hlong:¬(!its.toArray.isEmpty&&Builtin.List.listTooLong (its.toArray.size+its2.toArray.size))=true:=by
  rw[qbc hsz,Bool.and_false]
  exact uK
 refine call_meets F.slot_list_extend ⟨_,e,rfl⟩ F.entry_list_extend (F.args_list_extend_2 _ _)
  (AutoSeq1.list_extend_list_list_0 l its.toArray n b its2.toArray n2 hlong (by rw[uI];lia) (by lia)) ⟨e,e2,?_⟩
 refine⟨.non,_,I.lset (its':=its++its2) hH e (by simp) (r.append r2) ?_,rfl,q⟩
 rw[uE]
 lia
def Wa0:V->List V->Hp->VK->Prop:=fun x vs H Q=>∃l xs i k y,x=.ref l/\vs=[.int i]/\H l=some (.lst xs)/\-(2^63)<=i/\i<2^63/\seqIndex? i xs.length=some k/\xs[k]?=some y/\Q y (upd H l (.lst (xs.eraseIdx k)))
theorem vba:MtM X "list.pop" Wa0:=by
 intro pins s σ H x vs v us Q I rx rv h
 obtain⟨l,xs,i,k,y,rfl,rfl,hH,h1,h2,hk,hy,q⟩:=h
 cases rx
 obtain⟨u,rfl,ru⟩:=rv.one
 obtain⟨t,rfl⟩:=ru
 obtain⟨z,its,n,r,hl,e⟩:=I.lstM hH
 obtain⟨w,hw,rw'⟩:=r.get hy
 refine call_meets F.slot_list_pop ⟨_,e,rfl⟩ F.entry_list_pop (F.args_list_pop_2 _ _)
  (MeetsSeq.list_pop_at l its.toArray n i t k w (fitsIndex_both h1 h2) (by rw[uI,←hl];exact hk) (by rw[←xJ];exact hw) (by rw[uI];lia)) ⟨e,?_⟩
 refine⟨y,_,I.lset (its':=its.eraseIdx k) hH e ?_ (r.eraseIdx k) ?_,rw',q⟩
 ·show its.toArray.eraseIdxIfInBounds k=(its.eraseIdx k).toArray
  rw[List.eraseIdxIfInBounds_toArray]
 ·have:=kao xs k
  lia
end
end L2
namespace Att
open PySem PySem.W PySem.Calls PyProof.Rows
theorem jaf{P:Params}{h:Heap}:∀(ns:List Int) (vs:List Value),WellAll P h vs (ns.map WData.int)->IntsAre vs ns:=by
 intro ns
 induction ns with
 | nil=>
  intro vs w
  rw[xl]at w
  cases w
  exact .nil
 | cons n ns ih=>
  intro vs w
  rw[uH]at w
  cases w with
  | cons a b=>
   cases a
   exact .cons _ _ (ih _ b)
theorem Wa1{l:OpenLaw}{n:Nat}(hn:l.most=some n){P:Params}{h:Heap}{args:List WData}{vals:List Value}
  (hpre:l.row.toRowW.claim.pre args=true) (hwl:WellAll P h vals args) :
  ∃a vs ns,vals=[Value.ref a]/\args=[WData.list (ns.map WData.int)]/\h.get? a=some {cls:=.type "list",data:=.seq vs.toArray}/\IntsAre vs ns/\ns.length<=n:=by
 have hsh:WShape.hasAll [] args [.list .int]=true:=(pre_splitW hpre).1
 have hc:l.pre.holds [] {args:=args}=true:=(pre_splitW hpre).2
 obtain⟨d,r,rfl,h1,h2⟩:=hasAllW_cons hsh
 obtain rfl:=hasAllW_nil h2
 obtain⟨xs,rfl,h3⟩:=hasW_list h1
 obtain⟨ns,rfl⟩:=items_int h3
 have hlen:ns.length<=n:=by
  unfold OpenLaw.pre at hc
  have h4:(WTm.not (.lt (.lit (.int (n:Int))) (.len (.arg 0)))).holds [] {args:=[.list (ns.map .int)]}=true:=by
   have h4:=(holds_andW hc).1
   rw[hn]at h4
   exact h4
  have h5:=condW_of h4 (w_not (w_lt w_lit (w_len_list (w_arg rfl))))
  rw[uA]at h5
  refine Nat.le_of_not_lt fun q=>?_
  have q':(n:Int)<((ns.length:Nat):Int):=by lia
  first
   | (rw[decide_eq_true q']at h5;exact absurd h5 (by decide))
   | (simp at h5;lia)
 cases hwl with
 | cons w1 w2=>
  cases w2
  cases w1 with
  | list ho hall=>exact⟨_,_,ns,rfl,rfl,ho,jaf ns _ hall,hlen⟩
theorem jaV(l:OpenLaw)(args:List WData):l.row.toRowW.claim.post args (.bool true) args=true:=
 postW_of (r:=l.row.toRowW) (X:=(true==true))
  (show WShape.has [] (.bool true) .bool=true by first | rfl | decide | simp[WShape.has,WShape.arms,WShape.armsAll])
  (show(WTm.eq .res (.lit (.bool true))).value [] {args:=args,res:=some (.bool true),after:=args}=some (.bool (true==true)) from w_eq_bool (w_res rfl) w_lit) rfl
theorem attach_call{l:OpenLaw}{n:Nat}{q:Program}{loose:List Str}{XP:(Str->Option Value)->Heap->Prop}{YP:World->Heap->Prop}{d:DefRec}
  (hn:l.most=some n) (hdf:d.params.defaults=[])
  (call:∀(w:World) (s₀ s₁:Shared) (mg mb:Str->Option Value) (fa:Addr) (o:Obj) (pm cd doc:Value) (a:Addr) (vs:List Value) (ns:List Int),
   Ground q loose [] XP w s₀ mg mb s₁.heap->YP w s₁.heap →
   s₁.heap.get? fa=some o->o.data=.func (docDef d.name d.params d.body d.scope pm cd doc)->s₁.heap.CodeRec cd d.name->mg d.name=some (.ref fa) →
   s₁.heap.get? a=some {cls:=.type "list",data:=.seq vs.toArray}->IntsAre vs ns->ns.length<=n->s₁.gens=#[] →
   codeAny (model l.prog w) callerA (.call (.ref fa) ⟨[.ref a],[]⟩) (fun r s'=>r=.ok (.ret (.bool true))/\OldK s₁.heap s'.heap/\s'.os=s₁.os/\AllBare s'.gens) s₁) :
  WalkO q loose XP YP l.row.toRowW d [] (fun f vs=>PySem.call f vs):=by
 intro w s₀ s₁ mg mb G Y fa o pm cd doc dV kV ho hd hcd hD hmg hg args vals as hpre hlay hrd hwl hlo
 obtain rfl:dV=.none:=Dflts.none hD hdf
 obtain rfl:kV=.none:=Dflts.noKw hD
 obtain⟨a,vs,ns,rfl,rfl,hobj,hints,hlen⟩:=Wa1 hn hpre hwl
 refine enter_call (codeAny_mono (call w s₀ s₁ mg mb fa o pm cd doc a vs ns G Y ho (fd_plain hd) hcd hmg hobj hints hlen hg) fun r s' hq=>?_)
 obtain⟨rfl,h2,h3,h4⟩:=hq
 exact⟨.inl ⟨.bool true,.bool true,[],rfl,fun _=>rfl,.bool true,jaV l _,fun _=>⟨List.Pairwise.nil,fun _ hm=>(nomatch hm)⟩⟩,h2,h3,h4⟩
end Att
namespace L2
open PySem PySem.Spec PyProof.Rows
theorem Zar:∀{vs:List Value} {ns:List Int},IntsAre vs ns->Vals (ns.map V.int) vs
 | _,_,.nil=>.nil
 | _,_,.cons n t h=>.cons ⟨t,rfl⟩ (Zar h)
def ja8(H:Hp):Prop:=∀b,H b=none\/∃o xs,H b=some (.frz o (.lst xs))
theorem Zbb{P:Program}{w:World}{K:uD}{mg mb:Str->Option Value}{CX:CXT}{k:Nat}{fa a:Addr}{fd:FuncData}{x:Str}{sp:Sp}{s₁:Shared}{vs:List Value}{ns:List Int}
  (KX:K.In s₁.heap) (hns:s₁.heap.Ns mainGlobals mg) (hb:s₁.heap.Ns builtinsNs mb) (hbb:∀x:Str,x≠"__name__"->mb x=bootBuiltins x) (hlim:s₁.heap.NoLimit) (hg:s₁.gens=#[])
  (ha:s₁.heap.get? a=some {cls:=.type "list",data:=.seq vs.toArray}) (hi:IntsAre vs ns) (hl:ns.length<=sizeLine) (hr:Room k callerA)
  (F:∀base:Heap,K.In base->base.Ns mainGlobals mg->ZE P w K mg base CX k fa fd [x] sp) (hbind:∀(s:Shared) (u:Value),BindsTo s fd ⟨[u],[]⟩ [(x,u)])
  (hsp:∀H:Hp,ja8 H->SqL K H a (ns.map V.int)->sp [.ref a] H (fun v _=>v=.bl true) fun _ _ _=>False)
  (hCX:∀H e s',CX [] H s₁ (fun _ _ _=>False) e s'->False) :
  codeAny (model P w) callerA (.call (.ref fa) ⟨[.ref a],[]⟩) (fun r s'=>r=.ok (.ret (.bool true))/\OldK s₁.heap s'.heap/\s'.os=s₁.os/\AllBare s'.gens) s₁:=by
 have rv:=Zar hi
 have lenV:=hi.length
 have core:∀H:Hp,ja8 H->SqL K H a (ns.map V.int)->HOk P w H s₁.heap->(∀b,H b≠none->b=a)->(H a≠none->K.lookup a=none) →
   codeAny (model P w) callerA (.call (.ref fa) ⟨[.ref a],[]⟩) (fun r s'=>r=.ok (.ret (.bool true))/\OldK s₁.heap s'.heap/\s'.os=s₁.os/\AllBare s'.gens) s₁:=by
  intro H hO hS hok hA hK
  have base_of:∀{b:Addr} {o:Obj},s₁.heap.get? b=some o->H b=none->(jU s₁.heap H).get? b=some o:=fun e n=>wba e n
  have noA:∀{b:Addr} {o:Obj} {es:Array DictEntry} {ep:Nat},s₁.heap.get? b=some o->o.data=.dict es ep->H b=none:=fun {b o es ep} e d=>by
   cases q:H b with
   | none=>rfl
   | some u=>
    have e':b=a:=hA b (by rw[q];simp)
    subst e'
    rw[ha]at e;cases e
    have d':Data.seq vs.toArray _=Data.dict es ep:=d
    cases d'
  have nsK:∀{b:Addr} {m:Str->Option Value},s₁.heap.Ns b m->(jU s₁.heap H).Ns b m:=fun {b m} w1_=>w1_.elim fun o z_=>z_.elim fun es z_=>z_.elim fun ep z_=>z_.elim fun e z_=>z_.elim fun d r=>⟨o,es,ep,base_of e (noA e d),d,r⟩
  have hKb:K.In (jU s₁.heap H):=fun b o e=>base_of (KX b o e) (by
   cases q:H b with
   | none=>rfl
   | some u=>
    have e':b=a:=hA b (by rw[q];simp)
    subst e'
    rw[hK (by rw[q];simp)]at e;cases e)
  have hM:Mod K mg (jU s₁.heap H):=⟨hKb,nsK hns,⟨mb,nsK hb,hbb⟩,let ⟨mc,h1,h2⟩:=hlim;⟨mc,nsK h1,h2⟩⟩
  have e0:ZaV P w K mg (jU s₁.heap H) callerA [] s₁ H:=⟨rfl,hM,fun b o e=>Zbf e,Nat.le_of_eq (Ya1 _ _),trivial,fun b hb=>absurd (show b∈([]:List Addr) from hb) (by simp),hok,.of_eq hg⟩
  refine codeAny_mono ((F _ hKb (nsK hns)).run callerA [] s₁ H ⟨[.ref a],[]⟩ [.ref a] [.ref a] _ _ hr e0 (hbind s₁ (.ref a)) (.cons rfl .nil) (hsp H hO hS)) fun r s' h=>?_
  cases r with
  | error e=>exact(hCX H e s' h).elim
  | ok fl=>
   cases fl with
   | next=>exact False.elim h
   | brk=>exact False.elim h
   | cont=>exact False.elim h
   | ret u=>
    obtain⟨v,H',os,bare,un,hok',r',q⟩:=h
    have q':v=.bl true:=q
    subst q'
    obtain rfl:u=Value.bool true:=r'
    refine⟨rfl,OldK.of_keep fun b o e=>?_,os,bare⟩
    cases q:H b with
    | none=>exact un.keep b o e q (by intro z;exact absurd (show b∈([]:List Addr) from z) (by simp)) (by simp)
    | some u=>
     rcases hO b with z | ⟨ob,xs,z⟩
     ·rw[q]at z;cases z
     ·have z2:=un.frzs b ob _ z
      obtain⟨e1,_⟩:=hok b _ z
      obtain⟨e2,_⟩:=hok' b _ z2
      rw[e]at e1;cases e1
      exact e2
 cases hk:K.lookup a with
 | some o=>
  have e:=KX a o hk
  rw[ha]at e
  cases e
  refine core (fun _=>none) (fun _=>.inl rfl) (.inr ⟨_,vs.toArray,_,hk,rfl,rfl,rfl,by rw[uI,lenV];exact hl,by simpa using rv⟩) (fun b u z=>by have z':(none:Option HO)=some u:=z;cases z') (fun b z=>absurd rfl z) fun z=>absurd rfl z
 | none=>
  refine core (fun b=>if b=a then some (.frz {cls:=.type "list",data:=.seq vs.toArray} (.lst (ns.map V.int))) else none) (fun b=>?_) (.inl (.inr ⟨{cls:=.type "list",data:=.seq vs.toArray},if_pos rfl⟩)) (fun b u z=>?_) (fun b z=>?_) fun _=>hk
  ·by_cases hb:b=a
   ·exact .inr ⟨_,_,if_pos hb⟩
   ·exact .inl (if_neg hb)
  ·by_cases hb:b=a
   ·have z':=(if_pos hb).symm.trans z
    cases z'
    subst hb
    exact⟨ha,by rw[uA];exact hl,vs,_,rv,ha⟩
   ·have z':=(if_neg hb).symm.trans z
    cases z'
  ·by_cases hb:b=a
   ·exact hb
   ·exact absurd (if_neg hb) z
theorem Ybf{l:PySem.W.OpenLaw}{n k:Nat}{q:Program}{loose:List Str}{XP:(Str->Option Value)->Heap->Prop}{YP:World->Heap->Prop}{d:DefRec}{K:Params->uD}{CX:World->CXT}{sp:World->Sp}{x:Str}
  (hn:l.most=some n) (hn2:n<=sizeLine) (hdf:d.params.defaults=[]) (hr:Room k callerA)
  (hY:∀(w:World) (h:Heap),YP w h->(K w.params).In h)
  (F:∀(w:World) (mg:Str->Option Value) (fa:Addr) (h:Heap),(K w.params).In h->h.Ns mainGlobals mg->mg d.name=some (.ref fa) →
   ∃fd:FuncData,(∀(s:Shared) (u:Value),BindsTo s fd ⟨[u],[]⟩ [(x,u)]) ∧
    ∀base:Heap,(K w.params).In base->base.Ns mainGlobals mg->ZE l.prog w (K w.params) mg base (CX w) k fa fd [x] (sp w))
  (hsp:∀(w:World) (H:Hp) (a:Addr) (ns:List Int),ns.length<=n->ja8 H->SqL (K w.params) H a (ns.map V.int)->sp w [.ref a] H (fun v _=>v=.bl true) fun _ _ _=>False)
  (hCX:∀(w:World) (H:Hp) (s:Shared) (e:Value) (s':Shared),CX w [] H s (fun _ _ _=>False) e s'->False) :
  PySem.W.WalkO q loose XP YP l.row.toRowW d [] (fun f vs=>PySem.call f vs):=by
 refine Att.attach_call hn hdf fun w s₀ s₁ mg mb fa o pm cd doc a vs ns G Y ho hd hcd hmg hobj hints hlen hg=>?_
 have KX:=hY w _ Y
 obtain⟨fd,hb,hF⟩:=F w mg fa _ KX G.T.g hmg
 exact Zbb KX G.T.g G.T.b G.T.builtins G.T.nolimit hg hobj hints (xQ hlen hn2) hr hF hb (fun H hO hS=>hsp w H a ns hlen hO hS) fun H e s'=>hCX w H s₁ e s'
noncomputable def ky(s:Stmt):Arguments:=match s with
 | .FunctionDef _ a _ _ _ _ _ _ _ _=>a
 | _=>{posonlyargs:=[],args:=[],vararg:=none,kwonlyargs:=[],kw_defaults:=[],kwarg:=none,defaults:=[]}
noncomputable def Zp(s:Stmt):List Stmt:=match s with
 | .FunctionDef _ _ b _ _ _ _ _ _ _=>b
 | _=>[]
noncomputable def vc(s:Stmt):Scope:=match s with
 | .FunctionDef _ _ _ _ _ _ sc _ _ _=>sc
 | _=>{kind:=.function,names:=[],isGenerator:=false,isCoroutine:=false}
abbrev CX0:CXT:=fun _ _ _ _ _ _=>False
abbrev E0:XK:=fun _ _ _=>False
theorem wbd{X:Cx}:Yaf CX0 X E0:=fun _ _ _ _ _ _ _ h=>h.elim
structure Fun(K:uD)(x qual:Str)(st:Stmt)(f:Addr)(fd:FuncData):Prop where
 ex:∃(oc:Value) (od:Option Addr) (kV doc pm:Value) (an:Option Addr) (cdv ct:Value) (osl:Array (Option Value)),
  fd=xU x qual (ky st) (Zp st) (vc st) .none kV doc pm an cdv ct/\K.lookup f=some ⟨oc,od,.func fd,osl⟩/\yQ K cdv qual=true
 kp:yD K (.ref f)=true
section
variable {P:Program} {w:World} {K:uD} {mg:Str->Option Value} {base:Heap}
theorem Fun.ok{x qual:Str}{st:Stmt}{f:Addr}{fd:FuncData}{N ps:List Str}{k:Nat}{sp:Sp}(F:Fun K x qual st f fd)(S:Wf N ps (vc st))(len:∀vs H Q E,sp vs H Q E->vs.length=ps.length)
  (hbody:∀(cdv:Value) (A:Around) (outer:List Env) (s:Shared) (H:Hp) (vs:List V) (Q:VK) (E:XK),Room k (A.deeper (envOfC qual (vc st) s.heap.objs.size f cdv))->sp vs H Q E →
   ∃t,PSs (qV CX0 P w K mg base N qual (vc st) f cdv A outer s H E).nox (Zp st) t/\t {nx:=fun _ H'=>Q .non H',rt:=Q} (start N vs) H):ZE P w K mg base CX0 (k+1) f fd ps sp:=by
 obtain⟨oc,od,kV,doc,pm,an,cdv,ct,osl,rfl,lk,hcd⟩:=F.ex
 refine vbe lk hcd S len fun A outer s H vs Q E hr hsp=>?_
 obtain⟨t,h,q⟩:=hbody cdv A outer s H vs Q E hr hsp
 exact⟨t,h.nox,q⟩
theorem Fun.binds{x qual:Str}{st:Stmt}{f:Addr}{fd:FuncData}{ps:List Str}(F:Fun K x qual st f fd)
  (h:∀(kV doc pm:Value) (an:Option Addr) (cdv ct:Value) (us:List Value),us.length=ps.length->bindArgs (xU x qual (ky st) (Zp st) (vc st) .none kV doc pm an cdv ct) ⟨us,[]⟩=pure (ps.zip us)):Binds K fd ps []:=by
 obtain⟨oc,od,kV,doc,pm,an,cdv,ct,osl,rfl,lk,hcd⟩:=F.ex
 exact .all (h kV doc pm an cdv ct)
theorem Ya4{x qual:Str}{st:Stmt}{f:Addr}{oc:Value}{od an:Option Addr}{osl:Array (Option Value)}{kV doc pm cdv ct:Value}(l:K.lookup f=some ⟨oc,od,.func (xU x qual (ky st) (Zp st) (vc st) .none kV doc pm an cdv ct),osl⟩)
  (c:yQ K cdv qual=true) (k:yD K (.ref f)=true):Fun K x qual st f (xU x qual (ky st) (Zp st) (vc st) .none kV doc pm an cdv ct):=⟨⟨oc,od,kV,doc,pm,an,cdv,ct,osl,rfl,l,c⟩,k⟩
end
theorem waW{n:Nat}(h:n<=1000):n<sizeLine:=Nat.lt_of_le_of_lt h (by decide)
section
variable {prog:Program} {w:World} {A:Around} {R:Result->Shared->Prop} {s:Shared}
abbrev noE:ZVP:=fun _ _=>False
theorem ZaA{elt target iter:Expr}{ifs:List Expr}{scope:Scope}{pos:Pos}{it acc:Value}{env:Env}(I:Nat->Shared->Prop)
  (turn:∀n s,I n s->wpAny (model prog w) A (pyNext it) (fun r s₁=>match r with
   | none=>R (.ok .next) s₁
   | some v=>wpAny (model prog w) A (letOwnedTupleGo target it v) (fun _ s₁'=>wpAny (model prog w) A (assign target env v) (fun _ s₂=>
     wpAny (model prog w) A (forIn ifs true fun c r=>if r=true then do let ok ←isTrue c env (eval c env);pure (ForInStep.yield ok) else pure (ForInStep.yield r)) (fun ok s₃=>
      if ok=true then wpAny (model prog w) A (eval elt env) (fun x s₄=>
       wpAny (model prog w) A (call (.builtin "list.append") [acc,x]) (fun _ s₅=>∃m,m<n/\I m s₅) noE s₄) noE s₃
      else ∃m,m<n/\I m s₃) noE s₂) noE s₁') noE s₁) noE s)
  (n:Nat) (h:I n s) :
  codeAny (model prog w) A (.compLoop (.ListComp elt [⟨target,iter,ifs,0⟩] scope pos) 0 it acc env) R s:=by
 refine codeAny_loop rfl I (fun n s hI=>?_) n h
 show wpAny _ A ((compTurn (.ListComp elt [⟨target,iter,ifs,0⟩] scope pos) 0 it acc env).onRaise (fun x=>do noteFrame x env;theTreesLotGoes x)) _ _ s
 refine wpAny_noted ?_
 rw[compTurn_list]
 refine wpAny_bind (wpAny_standAt (wpAny_bind (wpAny_mono (turn n s hI) (fun r s₁ h₁=>?_) fun _ _ h'=>h'.elim)))
 cases r with
 | none=>exact wpAny_pure h₁
 | some v=>
  refine wpAny_bind (wpAny_mono h₁ (fun _ s₁' h₁'=>?_) fun _ _ h'=>h'.elim)
  refine wpAny_bind (wpAny_mono h₁' (fun _ s₂ h₂=>wpAny_bind (wpAny_mono h₂ (fun ok s₃ h₃=>?_) fun _ _ h'=>h'.elim)) fun _ _ h'=>h'.elim)
  cases ok with
  | false=>exact wpAny_pure ⟨rfl,h₃⟩
  | true=>
   exact wpAny_bind (wpAny_bind (wpAny_mono h₃ (fun x s₄ h₄=>wpAny_bind (wpAny_mono h₄ (fun _ s₅ h₅=>wpAny_pure (wpAny_pure ⟨rfl,h₅⟩)) fun _ _ h'=>h'.elim)) fun _ _ h'=>h'.elim))
end
def PIfs(X:Cx)(ifs:List Expr)(t:TT):Prop:=
 ∀(pins:ZPO) (s:Shared) (σ:St) (H:Hp) (Q:Bool->Hp->Prop),Inv X pins σ H s->t σ H Q →
  wpAny (model X.prog X.w) X.A (forIn ifs true fun c r=>if r=true then do let ok ←isTrue c X.env (eval c X.env);pure (ForInStep.yield ok) else pure (ForInStep.yield r)) (TP X pins σ Q) X.xe s
def YbF:TT:=fun _ H Q=>Q true H
theorem pifs_nil{X:Cx}:PIfs X [] YbF:=fun _ _ _ H _ I h=>wpAny_tests_nil ⟨H,I,h⟩
theorem vbc{X:Cx}{c:Expr}{t:TT}(h:PT X c t):PIfs X [c] t:=fun pins s σ H Q I hw=>wpAny_tests_one (h pins s σ H Q I hw)
theorem Wp:∀(names:List (Str×NameKind)) (n:Nat) (acc:List (Str×Addr)),cellsFrom n names acc=cellsFrom n names []++acc
 | [],_,_=>rfl
 | (nm,k)::r,n,acc=>by
  unfold cellsFrom
  split
  ·rw[Wp r (n+1) ((nm,n)::acc),Wp r (n+1) [(nm,n)],uf];rfl
  ·exact Wp r n acc
noncomputable def jo(cells:List (Str×Addr)):List (Str×NameKind)->List (Str×Addr)->List (Str×Addr)
 | [],acc=>acc
 | (n,k)::r,acc=>if k==.free then jo cells r ((n,(cells.lookup n).getD 0)::acc) else jo cells r acc
theorem XJ{env:Env}:∀(names:List (Str×NameKind)) (acc:List (Str×Addr)),(∀y∈names,y.2=.free->∃c,env.cells.lookup y.1=some c) →
  (forIn names acc fun(x:Str×NameKind) cs=>if x.2==.free then do let a ←cellOf env x.1;pure (ForInStep.yield ((x.1,a)::cs)) else pure (ForInStep.yield cs):Sem _)=pure (jo env.cells names acc)
 | [],acc,_=>rfl
 | (n,k)::r,acc,h=>by
  rw[List.forIn_cons]
  unfold jo
  have hr:=fun y hy=>h y (uW _ hy)
  by_cases hk:(k==NameKind.free)=true
  ·obtain⟨c,hc⟩:=h (n,k) uc (by simpa using hk)
   have hc':env.cells.lookup n=some c:=hc
   simp only[hk,if_true]
   unfold cellOf
   rw[hc']
   simp only[pure_bind,Option.getD_some]
   exact XJ r _ hr
  ·have hk':(k==NameKind.free)=false:=by simpa using hk
   simp only[hk',ue,if_false,pure_bind]
   exact XJ r _ hr
theorem vI{scope:Scope}{env:Env}(h:∀y∈scope.names,y.2=.free->∃c,env.cells.lookup y.1=some c):closureFor scope env=pure (jo env.cells scope.names []):=by
 have e:=XJ (env:=env) scope.names [] h
 unfold closureFor
 simp only[bind_pure_comp]at e ⊢
 have e2:(forIn scope.names ([]:List (Str×Addr)) fun(x:Str×NameKind) cs=>if x.2==.free then do let a ←cellOf env x.1;pure (ForInStep.yield ((x.1,a)::cs)) else pure (ForInStep.yield cs):Sem _)=pure (jo env.cells scope.names []):=XJ scope.names [] h
 simp only[bind_pure_comp]at e2
 first
  | exact e2
  | (rw[e2];rfl)
  | simpa using e2
theorem qI{cells:List (Str×Addr)}{x:Str}{c:Addr}:∀(names:List (Str×NameKind)) (acc:List (Str×Addr)),(jo cells names acc).lookup x=some c →
  acc.lookup x=some c\/((x,NameKind.free)∈names/\c=(cells.lookup x).getD 0)
 | [],acc,h=>.inl h
 | (n,k)::r,acc,h=>by
  unfold jo at h
  by_cases hk:(k==NameKind.free)=true
  ·rw[if_pos hk]at h
   rcases qI r _ h with h1 | ⟨h1,h2⟩
   ·rw[xp]at h1
    cases hx:x==n with
    | true=>
     rw[hx]at h1
     have hxn:x=n:=by simpa using hx
     subst hxn
     cases h1
     refine .inr ⟨?_,rfl⟩
     have:k=NameKind.free:=by simpa using hk
     subst this
     exact uc
    | false=>rw[hx]at h1;exact .inl h1
   ·exact .inr ⟨uW _ h1,h2⟩
  ·rw[if_neg hk]at h
   rcases qI r _ h with h1 | ⟨h1,h2⟩
   ·exact .inl h1
   ·exact .inr ⟨uW _ h1,h2⟩
theorem jJ{cells:List (Str×Addr)}{x:Str}:∀(names:List (Str×NameKind)) (acc:List (Str×Addr)),((x,NameKind.free)∈names\/(acc.lookup x).isSome=true)->((jo cells names acc).lookup x).isSome=true
 | [],acc,h=>by rcases h with h | h;exact absurd h (by simp);exact h
 | (n,k)::r,acc,h=>by
  unfold jo
  by_cases hk:(k==NameKind.free)=true
  ·rw[if_pos hk]
   refine jJ r _ ?_
   rcases h with h | h
   ·rcases uZ.mp h with e | h
    ·cases e;right;simp[xp]
    ·exact .inl h
   ·right
    rw[xp]
    cases hx:x==n
    ·exact h
    ·rfl
  ·rw[if_neg hk]
   refine jJ r _ ?_
   rcases h with h | h
   ·rcases uZ.mp h with e | h
    ·cases e;exact absurd rfl hk
    ·exact .inl h
   ·exact .inr h
noncomputable def YA(scope:Scope)(L:Addr)(env:Env):Env:=
 {scope:=relabel scope env,locals:=L,globals:=env.globals,cells:=cellsFrom (L+1) scope.names (jo env.cells scope.names []),qual:=env.qual,func:=none,code:=env.code,frame:=env.frame,builtins:=env.builtins}
theorem k7{M:Model}{A:Around}{E:ZVP}{s:Shared}{scope:Scope}{globals:Addr}{cl:List (Str×Addr)}{qual:Str}{outer:Env}{Q:Env->Shared->Prop}
  (hQ:∀h',(∀b o,s.heap.get? b=some o->h'.get? b=some o)->h'.Ns s.heap.objs.size (fun _=>none)->CellsOk h' (s.heap.objs.size+1) (cellsFrom (s.heap.objs.size+1) scope.names []) →
   Q {scope:=scope,locals:=s.heap.objs.size,globals:=globals,cells:=cellsFrom (s.heap.objs.size+1) scope.names cl,qual:=qual,func:=none,code:=outer.code,frame:=outer.frame,builtins:=outer.builtins} {s with heap:=h'}) :
  wpAny M A (newFunctionEnv scope globals cl [] qual none .none (some outer)) Q E s:=by
 simp only[newFunctionEnv,Option.isSome_some,if_true]
 refine wpAny_bind (wpAny_alloc ?_)
 refine wpAny_bind (wpAny_layCells _ (fun name kind cells=>by cases hkc:kind==NameKind.cell<;>simp[hkc]) _ _ _ _ ?_)
 have ok:=cellsFrom_ok scope.names (s.heap.push {cls:=.type "dict",data:=.dict #[]}) (s.heap.objs.size+1) [] ⟨fun _ _ hm=>(nomatch hm),List.Pairwise.nil⟩ (by rw[xO];exact uJ _)
 rw[xO]at ok
 rw[show({s with heap:=s.heap.push {cls:=.type "dict",data:=.dict #[]}}:Shared).heap.objs.size=s.heap.objs.size+1 from xO ..]
 simp only[List.forIn_nil]
 refine wpAny_bind (wpAny_pure (wpAny_pure ?_))
 exact hQ _ (fun b o e=>pushCells_keeps _ _ b o (uC _ e)) ((Heap.Ns.new s.heap (.type "dict")).keeps (pushCells_keeps _ _)) ok
noncomputable def Xe(X:Cx)(scope:Scope)(ts rest:List Str)(ex:List Addr)(s:Shared)(H:Hp):Cx where
 prog:=X.prog
 w:=X.w
 K:=X.K
 mg:=X.mg
 base:=X.base
 A:=X.A
 N:=ts++rest
 s₀:=s
 H₀:=H
 env:=YA scope s.heap.objs.size X.env
 outer:=X.stack
 stack:=X.stack
 ex:=ex
 calm:=X.calm
 fn:=fun x=>((cellsFrom (s.heap.objs.size+1) scope.names []).lookup x).isSome
 pn:=X.pn
 xe:=fun _ _=>False
structure qm(X:Cx)(scope:Scope)(ts rest:List Str):Prop where
 kind:scope.kind=.function
 own:∀y∈scope.names,y.2=.local->scope.names.lookup y.1=some .local
 free:∀y∈scope.names,y.2=.free->X.env.kindOf y.1=some .cell\/X.env.kindOf y.1=some .free
 look:∀y∈scope.names,scope.names.lookup y.1=some y.2
 len:rest.length=X.N.length
 at_:∀(i:Nat) x,rest[i]?=some x->scope.names.lookup x=none\/(scope.names.lookup x=some .free/\X.N[i]?=some x)\/(∃k,scope.names.lookup x=some k/\k≠.local/\k≠.cell/\k≠.free)
 nd:(ts++rest).Nodup
theorem wE{env:Env}{x:Str}:∀(names:List (Str×NameKind)),
  (names.map fun(n,k)=>if (k==NameKind.free&&env.scope.kind==.function&&env.kindOf n==some .cell) then (n,NameKind.cell) else (n,k)).lookup x =
   (names.lookup x).map fun k=>if (k==NameKind.free&&env.scope.kind==.function&&env.kindOf x==some .cell) then NameKind.cell else k
 | []=>rfl
 | (n,k)::r=>by
  rw[uH]
  cases hx:x==n with
  | true=>
   have e:x=n:=by simpa using hx
   subst e
   by_cases hc:(k==NameKind.free&&env.scope.kind==.function&&env.kindOf x==some .cell)=true
   ·simp only[hc,if_true,xp,beq_self_eq_true,xk]
   ·simp only[if_neg hc,xp,beq_self_eq_true,xk]
  | false=>
   have ih:=wE (env:=env) (x:=x) r
   by_cases hc:(k==NameKind.free&&env.scope.kind==.function&&env.kindOf n==some .cell)=true
   ·simp only[hc,if_true,xp,hx];exact ih
   ·simp only[if_neg hc,xp,hx];exact ih
section
variable {X:Cx} {scope:Scope} {ts rest:List Str} {pins:ZPO} {σ:St} {H:Hp} {s:Shared}
theorem vaQ{l1 l2:List (Str×Addr)}{x:Str}{c:Addr}(h:(l1++l2).lookup x=some c):l1.lookup x=some c\/(l1.lookup x=none/\l2.lookup x=some c):=by
 rw[yf]at h
 cases e:l1.lookup x with
 | none=>rw[e]at h;exact .inr ⟨rfl,by simpa using h⟩
 | some d=>rw[e]at h;left;simpa using h
theorem qQ:∀{names:List (Str×NameKind)} {n:Nat} {acc:List (Str×Addr)} {x:Str} {c:Addr},(x,c)∈cellsFrom n names acc->(x,NameKind.cell)∈names\/(x,c)∈acc
 | [],_,_,_,_,h=>.inr h
 | (nm,k)::r,n,acc,x,c,h=>by
  unfold cellsFrom at h
  split at h
  ·rename_i hk
   rcases qQ h with h | h
   ·exact .inl (uW _ h)
   ·rcases uZ.mp h with e | h
    ·cases e
     have:k=NameKind.cell:=by simpa using hk
     subst this
     exact .inl uc
    ·exact .inr h
  ·rcases qQ h with h | h
   ·exact .inl (uW _ h)
   ·exact .inr h
theorem Yad{L:Addr}(S:qm X scope ts rest){x:Str}{c:Addr}(h:(YA scope L X.env).cells.lookup x=some c) :
  ((cellsFrom (L+1) scope.names []).lookup x=some c/\scope.names.lookup x=some .cell)\/(scope.names.lookup x=some .free/\c=(X.env.cells.lookup x).getD 0):=by
 have h':(cellsFrom (L+1) scope.names (jo X.env.cells scope.names [])).lookup x=some c:=h
 rw[Wp]at h'
 rcases vaQ h' with h1 | ⟨_,h1⟩
 ·refine .inl ⟨h1,?_⟩
  rcases qQ (PySem.mem_of_lookup h1) with z | z
  ·exact S.look _ z
  ·exact absurd z (by simp)
 ·rcases qI _ _ h1 with z | ⟨z1,z2⟩
  ·exact absurd z (by simp)
  ·exact .inr ⟨S.look _ z1,z2⟩
theorem vag(S:qm X scope ts rest)(I:Inv X pins σ H s){fp:List Addr}{h':Heap}(hf:∀b∈fp,Ws X pins H b)(hfl:∀b∈fp,b<s.heap.objs.size)
  (hk:∀b o,s.heap.get? b=some o->h'.get? b=some o) (hn:h'.Ns s.heap.objs.size (fun _=>none)) (ck:CellsOk h' (s.heap.objs.size+1) (cellsFrom (s.heap.objs.size+1) scope.names [])) :
  Inv (Xe X scope ts rest fp s H) pins (ui ts.length none++σ) H {s with heap:=h'}:=by
 have cell_of:∀x,scope.names.lookup x=some .free->∃c,X.env.cells.lookup x=some c:=fun x hx=>I.ok.has x (S.free _ (PySem.mem_of_lookup hx) rfl)
 have below:∀{b:Addr} {o:Obj},s.heap.get? b=some o->b<s.heap.objs.size:=fun e=>uM e
 have cOld:∀x c,X.env.cells.lookup x=some c->c<s.heap.objs.size:=fun x c e=>by
  obtain⟨v,o,ho,_⟩:=I.cell x c e
  exact below ho
 have cases_:∀x c,(YA scope s.heap.objs.size X.env).cells.lookup x=some c->(((x,c)∈cellsFrom (s.heap.objs.size+1) scope.names []/\h'.IsCell c none/\s.heap.objs.size+1<=c)\/(X.env.cells.lookup x=some c)):=fun x c e=>by
  rcases Yad S e with ⟨z,_⟩ | ⟨z1,z2⟩
  ·exact .inl ⟨PySem.mem_of_lookup z,ck.empty x c (PySem.mem_of_lookup z)⟩
  ·obtain⟨d,hd⟩:=cell_of x z1
   rw[hd]at z2
   exact .inr (by rw[hd,z2];rfl)
 have I':=I
 refine⟨⟨I.ok.mod,S.kind,I.ok.glob,I.ok.blt,uJ _,fun x y c e1 e2=>?_,fun x hx=>?_,fun x c hfn e=>?_,I.ok.hd,I.ok.frames,.inl rfl,fun b hb=>⟨uR (hfl b hb),fun x c e=>?_⟩,I.bs,xQ I.ok.bsz I.sz,fun b o e hb=>?_,fun b hb hz=>?_,I.stack,I.stkFree⟩,
  rfl,I.bare,Un.kept hk,⟨_,hn,fun i x v e1 e2 e3=>?_⟩,fun x c e=>?_,I.hok.fresh (uJ _),fun x c e=>?_,fun p hp=>?_,I.hok.kept hk,?_⟩
 ·rcases cases_ x c e1 with ⟨m1,_,l1⟩ | z1<;>rcases cases_ y c e2 with ⟨m2,_,l2⟩ | z2
  ·exact name_of_addr ck.apart m1 m2
  ·exact absurd (uP (cOld y c z2) (Nat.le_of_succ_le l1)) (u7 _)
  ·exact absurd (uP (cOld x c z1) (Nat.le_of_succ_le l2)) (u7 _)
  ·exact I.ok.inj x y c z1 z2
 ·have hx':(relabel scope X.env).names.lookup x=some .cell\/(relabel scope X.env).names.lookup x=some .free:=hx
  have e:(relabel scope X.env).names.lookup x=(scope.names.lookup x).map fun k=>if (k==NameKind.free&&X.env.scope.kind==.function&&X.env.kindOf x==some .cell) then NameKind.cell else k:=wE scope.names
  have hkk:scope.names.lookup x=some .cell\/scope.names.lookup x=some .free:=by
   cases q:scope.names.lookup x with
   | none=>rw[e,q]at hx';rcases hx' with z | z<;>cases z
   | some k=>
    by_cases hc:(k==NameKind.free&&X.env.scope.kind==.function&&X.env.kindOf x==some .cell)=true
    ·have:k=.free:=by
      have:=(xP _ _▸hc:_/\_).1
      have:=(xP _ _▸this:_/\_).1
      simpa using this
     exact .inr (by rw[this])
    ·rw[e,q]at hx'
     simp only[xk,if_neg hc]at hx'
     exact hx'
  show ∃c,(cellsFrom (s.heap.objs.size+1) scope.names (jo X.env.cells scope.names [])).lookup x=some c
  refine ye.mp ?_
  rw[Wp,yf]
  rcases hkk with z | z
  ·have q:=PySem.W.cellsFrom_some scope.names (s.heap.objs.size+1) [] (.inl z)
   cases q2:(cellsFrom (s.heap.objs.size+1) scope.names []).lookup x with
   | none=>rw[q2]at q;cases q
   | some c=>simp
  ·have q:=jJ (cells:=X.env.cells) (x:=x) scope.names [] (.inl (PySem.mem_of_lookup z))
   cases (cellsFrom (s.heap.objs.size+1) scope.names []).lookup x with
   | none=>simpa using q
   | some c=>simp
 ·have hfn':((cellsFrom (s.heap.objs.size+1) scope.names []).lookup x).isSome=true:=hfn
  have e':(cellsFrom (s.heap.objs.size+1) scope.names (jo X.env.cells scope.names [])).lookup x=some c:=e
  rw[Wp,yf]at e'
  cases q2:(cellsFrom (s.heap.objs.size+1) scope.names []).lookup x with
  | none=>rw[q2]at hfn';cases hfn'
  | some d=>
   rw[q2]at e'
   have e2:d=c:=by simpa using e'
   subst e2
   have:=(ck.empty x d (PySem.mem_of_lookup q2)).2
   show s.heap.objs.size<=d
   lia
 ·rcases cases_ x c e with ⟨_,_,l⟩ | z
  ·exact xT (uP (hfl b hb) (Nat.le_of_succ_le l))
  ·exact(hf b hb).2.2.2.2.1 x c z
 ·rcases (hf b hb).2.2.2.1 with z | z
  ·exact I.ok.noex b o e z
  ·exact absurd (uP (uM e) (xQ I.ok.bsz z)) (u7 _)
 ·rcases uZ.mp (I.stkSub b hz) with z | z
  ·exact(hf b hb).2.1 z
  ·exact(hf b hb).2.2.1 z
 ·-- the names' values
  have e1':(ts++rest)[i]?=some x:=e1
  by_cases hi:i<ts.length
  ·rw[u8 (by simpa using hi),yF]at e2
   split at e2<;>cases e2
  ·have hi':ts.length<=i:=by lia
   rw[up hi']at e1'
   rw[up (by simpa using hi'),xu]at e2
   have e:(relabel scope X.env).names.lookup x=(scope.names.lookup x).map fun k=>if (k==NameKind.free&&X.env.scope.kind==.function&&X.env.kindOf x==some .cell) then NameKind.cell else k:=wE scope.names
   have e3':(relabel scope X.env).names.lookup x=some .local\/(relabel scope X.env).names.lookup x=some .cell\/(relabel scope X.env).names.lookup x=some .free:=e3
   rcases S.at_ _ x e1' with z | ⟨z,hN⟩ | ⟨k,z,k1,k2,k3⟩
   ·rw[e,z]at e3';rcases e3' with q | q | q<;>cases q
   ·obtain⟨m,hm,hl⟩:=I.loc
    have hkd:=S.free _ (PySem.mem_of_lookup z) rfl
    have hvis:Vis X.env.scope x:=by
     rcases hkd with q | q
     ·exact .inr (.inl q)
     ·exact .inr (.inr q)
    obtain⟨u,r,l⟩:=hl _ x v hN e2 hvis
    refine⟨u,r,.inr ⟨?_,?_⟩⟩
    ·rcases e3' with q | q | q
     ·rw[e,z]at q
      simp only[xk]at q
      split at q<;>cases q
     ·exact .inl q
     ·exact .inr q
    ·rcases l with ⟨hk2,_⟩ | ⟨_,c,hc,hcell⟩
     ·have hk2':X.env.kindOf x=some .local:=hk2
      rcases hkd with q | q<;>(have q':X.env.kindOf x=_:=q;rw[hk2']at q';cases q')
     ·refine⟨c,?_,hcell.keeps hk⟩
      have hh:((YA scope s.heap.objs.size X.env).cells.lookup x).isSome=true:=by
       show((cellsFrom (s.heap.objs.size+1) scope.names (jo X.env.cells scope.names [])).lookup x).isSome=true
       rw[Wp,yf]
       have q:=jJ (cells:=X.env.cells) (x:=x) scope.names [] (.inl (PySem.mem_of_lookup z))
       cases (cellsFrom (s.heap.objs.size+1) scope.names []).lookup x with
       | none=>simpa using q
       | some c=>simp
      obtain⟨d,hd⟩:=ye.mp hh
      rcases Yad S hd with ⟨_,z1⟩ | ⟨_,z2⟩
      ·rw[z]at z1;cases z1
      ·rw[hc]at z2
       rw[z2]at hd
       exact hd
   ·exfalso
    rw[e,z]at e3'
    simp only[xk]at e3'
    have:(k==NameKind.free)=false:=by simpa using k3
    simp only[this,Bool.false_and,ue,if_false]at e3'
    rcases e3' with q | q | q<;>cases q
    ·exact k1 rfl
    ·exact k2 rfl
    ·exact k3 rfl
 ·rcases cases_ x c e with ⟨_,z,_⟩ | z
  ·exact⟨_,z⟩
  ·obtain⟨v,q⟩:=I.cell x c z
   exact⟨v,q.keeps hk⟩
 ·rcases cases_ x c e with ⟨_,_,l⟩ | z
  ·exact I.hok.fresh (by lia)
  ·exact I.freeC x c z
 ·obtain⟨e,n,ne,nf,d⟩:=I.pin p hp
  refine⟨hk _ _ e,n,uR (below e),fun hz=>?_,d⟩
  rcases uZ.mp (I.stkSub p.1 hz) with z | z
  ·exact ne z
  ·exact nf z
 ·show _=(ts++rest).length
  rw[uE,uE,xu,I.len,S.len]
theorem Y2{fp:List Addr}{σ':St}{H':Hp}{s':Shared}{h':Heap}(I:Inv X pins σ H s)(hf:∀b∈fp,Ws X pins H b)(J:Inv (Xe X scope ts rest fp s H) pins σ' H' s')
  (hb:yE s.heap.objs.size s'.heap h'):Inv X pins σ H' {s' with heap:=h'}:=by
 have fr:H' s.heap.objs.size=none:=J.free
 have u:Un (frs X.stack) fp H H' s.heap s'.heap:=J.base
 have ne:∀{b:Addr} {o:Obj},s.heap.get? b=some o->b≠s.heap.objs.size:=fun e=>uR (uM e)
 refine I.call' (s':={s' with heap:=h'}) (ch:=fp) J.os ⟨fun b o e n h1 h2=>(hb.2 b (ne e)).trans (u.keep b o e n h1 h2),fun b o e n h1 h2=>?_,u.free,fun b o e h2=>?_,u.tups,u.frzs,u.tbls⟩ (fun b o e=>?_) J.bare fun b hb'=>?_
 ·obtain⟨sl,q⟩:=u.slot b o e n h1 h2
  exact⟨sl,(hb.2 b (ne e)).trans q⟩
 ·obtain⟨o',q⟩:=u.there b o e h2
  exact⟨o',(hb.2 b (ne e)).trans q⟩
 ·refine(J.hok b o e).stay (fun c v hc q=>(hb.2 c ?_).trans q) (fun _ q=>q) fun _ _ q=>q
  rintro rfl
  rcases hc with rfl | hc
  ·rw[fr]at e;cases e
  ·rw[fr]at hc;cases hc
 ·obtain⟨_,f1,f2,f3,f4,f5⟩:=hf b hb'
  exact⟨f3,f1,f4,f5⟩
end
def kau(n:Nat)(wi:TI)(g:TG)(tc:TT)(te:TE):TE:=fun σ H Q=>wi σ H fun J H1=>∀D,H1 D=none->∃W:Nat->Nat->List V->St->Hp->Prop,
 (∃m,W 0 m [] (ui n none++σ) (upd H1 D (.lst [])))/\∀i m ys σ' H',W i m ys σ' H' →
  (J.stop i H'/\H' D=some (.lst ys)/\Q (.ref D) H') \/
  (J.go i H'/\∀x H2,J.yld i H' x H2->g x σ' H2 fun σ3 H3=>tc σ3 H3 fun b H4=>if b=true then
   te σ3 H4 fun y H5=>H5 D=some (.lst ys)/\ys.length<sizeLine/\∃m',m'<m/\W (i+1) m' (ys++[y]) σ3 (upd H5 D (.lst (ys++[y])))
   else ∃m',m'<m/\W (i+1) m' ys σ3 H4)
section
variable {X:Cx} {scope:Scope} {ts rest:List Str} {pins:ZPO} {σ:St} {elt tg iter:Expr} {ifs:List Expr} {pos:Pos} {wi:TI} {g:TG} {tc:TT} {te:TE}
theorem Zad(hc:X.calm=true)(S:qm X scope ts rest)
  (hg:∀fp s H,PG (Xe X scope ts rest fp s H) tg g) (ht:∀fp s H,PIfs (Xe X scope ts rest fp s H) ifs tc) (he:∀fp s H,PE (Xe X scope ts rest fp s H) elt te)
  {H1:Hp} {s₂:Shared} {it:Addr} {fp:List Addr} {tn:Nat->Heap->Prop} {J:It} (I2:Inv X pins σ H1 s₂) (T:YZ X.prog X.w X.K tg J fp it tn) (st2:tn 0 s₂.heap) (f2:∀b∈fp,Ws X pins H1 b) {Q:VK}
  (hw:∀D,H1 D=none->∃W:Nat->Nat->List V->St->Hp->Prop,
   (∃m,W 0 m [] (ui ts.length none++σ) (upd H1 D (.lst [])))/\∀i m ys σ' H',W i m ys σ' H' →
    (J.stop i H'/\H' D=some (.lst ys)/\Q (.ref D) H') \/
    (J.go i H'/\∀x H2,J.yld i H' x H2->g x σ' H2 fun σ3 H3=>tc σ3 H3 fun b H4=>if b=true then
     te σ3 H4 fun y H5=>H5 D=some (.lst ys)/\ys.length<sizeLine/\∃m',m'<m/\W (i+1) m' (ys++[y]) σ3 (upd H5 D (.lst (ys++[y])))
     else ∃m',m'<m/\W (i+1) m' ys σ3 H4))
  {RR:Value->Addr->Result->Shared->Prop} {E:ZVP}
  (hRR:∀D s3 H3 σ' H' s',Inv X pins σ H3 s3->(∀b∈fp,Ws X pins H3 b)->Inv (Xe X scope ts rest fp s3 H3) pins σ' H' s'->Q (.ref D) H'->RR (.ref D) s3.heap.objs.size (.ok .next) s') :
  wpAny (model X.prog X.w) X.A (newList []) (fun acc s₃=>wpAny (model X.prog X.w) X.A (newFunctionEnv scope X.env.globals (jo X.env.cells scope.names []) [] X.env.qual none .none (some X.env)) (fun cenv s₄=>
   codeAny (model X.prog X.w) X.A (.compStart (.ListComp elt [⟨tg,iter,ifs,0⟩] scope pos) 0 (.ref it) acc {cenv with scope:=relabel scope X.env}) (RR acc cenv.locals) s₄) E s₃) E s₂:=by
 obtain⟨W,⟨m0,w0⟩,turn⟩:=hw s₂.heap.objs.size (I2.hok.fresh (uJ _))
 refine wpAny_newObj_type ?_
 generalize e3:({s₂ with heap:=s₂.heap.push {cls:=.type "list",dict:=none,data:=.seq ([]:List Value).toArray}}:Shared)=s₃
 have hfl:∀b∈fp,b<s₂.heap.objs.size:=fun b hb=>by
  obtain⟨o,e,_⟩:=T.obj _ _ st2 b hb
  exact uM e
 have I3:Inv X pins σ (upd H1 s₂.heap.objs.size (.lst [])) s₃:=by
  subst e3
  exact I2.laid (t':=s₂.toks) (fun b u e=>uC _ e) (uJ _) ⟨ua _,[],0,.nil,uT _ rfl⟩
 have hs3:s₃.heap.objs.size=s₂.heap.objs.size+1:=by subst e3;exact xO ..
 have f3:∀b∈fp,Ws X pins (upd H1 s₂.heap.objs.size (.lst [])) b:=fun b hb=>⟨by rw[Yd (uR (hfl b hb))];exact(f2 b hb).1,(f2 b hb).2⟩
 have st3:tn 0 s₃.heap:=by
  subst e3
  exact T.keep _ _ _ st2 fun b _ o e=>uC _ e
 have hfl3:∀b∈fp,b<s₃.heap.objs.size:=fun b hb=>by rw[hs3];exact xK (hfl b hb)
 refine k7 fun h' hk hn ck=>?_
 have I4:=vag S I3 f3 hfl3 hk hn ck
 have st4:tn 0 ({s₃ with heap:=h'}:Shared).heap:=T.keep _ _ _ st3 fun b _ o e=>hk b o e
 generalize eX:Xe X scope ts rest fp s₃ (upd H1 s₂.heap.objs.size (.lst []))=X' at I4
 have hP:X'.prog=X.prog:=by subst eX;rfl
 have hw':X'.w=X.w:=by subst eX;rfl
 have hK':X'.K=X.K:=by subst eX;rfl
 have hA:X'.A=X.A:=by subst eX;rfl
 have hcalm:X'.calm=true:=by subst eX;exact hc
 have hxe:X'.xe=noE:=by subst eX;rfl
 have henv:X'.env=YA scope s₃.heap.objs.size X.env:=by subst eX;rfl
 have hg':PG X' tg g:=by subst eX;exact hg _ _ _
 have ht':PIfs X' ifs tc:=by subst eX;exact ht _ _ _
 have he':PE X' elt te:=by subst eX;exact he _ _ _
 have f4:∀b∈fp,Ws X' pins (upd H1 s₂.heap.objs.size (.lst [])) b:=fun b hb=>by
  obtain⟨z0,z1,z2,z3,z4,z5⟩:=f3 b hb
  have ok4:=I4.ok
  refine⟨z0,?_,?_,.inl ?_,?_,?_⟩
  ·rw[henv];exact uR (hfl3 b hb)
  ·have:=ok4.exfs b (by subst eX;exact hb)
   exact this
  ·subst eX;exact hb
  ·exact(ok4.exf b (by subst eX;exact hb)).2
  ·subst eX;exact z5
 have stat:∀{H':Hp},(∀b∈fp,H' b=none)->∀b∈fp,Ws X' pins H' b:=fun hn b hb=>⟨hn b hb,(f4 b hb).2⟩
 have loop:∀s4:Shared,s4={s₃ with heap:=h'}->codeAny (model X.prog X.w) X.A (.compLoop (.ListComp elt [⟨tg,iter,ifs,0⟩] scope pos) 0 (.ref it) (.ref s₂.heap.objs.size) (YA scope s₃.heap.objs.size X.env))
   (RR (.ref s₂.heap.objs.size) s₃.heap.objs.size) s4:=by
  rintro s4 rfl
  refine ZaA (fun n s'=>∃i ys σ' H',Inv X' pins σ' H' s'/\tn i s'.heap/\(∀b∈fp,H' b=none)/\W i n ys σ' H') ?_ m0 ⟨0,[],_,_,I4,st4,fun b hb=>(f4 b hb).1,w0⟩
  rintro n s5 ⟨i,ys,σ5,H5,I5,st5,fr5,w5⟩
  rw[←hP,←hw',←hA,←henv,←hxe]
  rcases turn i n ys σ5 H5 w5 with ⟨stop,eD,q⟩ | ⟨go,step⟩
  ·have z:=T.done X' hP hw' hK' hcalm i pins s5 σ5 H5 X'.xe I5 (stat fr5) st5 stop
   rw[←hP,←hw']at z
   refine thn z fun r s6 hz=>?_
   obtain⟨hr,I6⟩:=hz
   subst hr
   subst eX
   exact hRR _ s₃ _ σ5 H5 s6 I3 f3 I6 q
  ·have z:=T.item X' hP hw' hK' hcalm i pins s5 σ5 H5 X'.xe I5 (stat fr5) st5 go
   rw[←hP,←hw']at z
   refine thn z fun r s6 hz=>?_
   obtain⟨u,hr,h6⟩:=hz
   subst hr
   dsimp only
   refine thn h6 fun _ s7 w1_=>w1_.elim fun x z_=>z_.elim fun H7 z_=>z_.elim fun I7 z_=>z_.elim fun r7 z_=>z_.elim fun y7 z_=>z_.elim fun st7 fr7=>?_
   have I7':=I7.pinned (stat fr7) (T.obj _ _ st7)
   refine thn (hg' _ s7 σ5 H7 x u _ I7' r7 (step x H7 y7)) fun _ s8 w1_=>w1_.elim fun σ8 z_=>z_.elim fun H8 z_=>z_.elim fun I8 q8=>?_
   have back:∀{s9:Shared} {σ9:St} {H9:Hp},Inv X' (pins++YI fp s7.heap) σ9 H9 s9->Inv X' pins σ9 H9 s9/\tn (i+1) s9.heap/\∀b∈fp,H9 b=none:=fun {s9 σ9 H9} I9=>by
    refine⟨I9.unpinned,T.keep _ _ _ st7 fun b hb o e=>(I9.pin (b,o) (uY _ (uY _ (vt hb e)))).1,fun b hb=>?_⟩
    obtain⟨o,e,d⟩:=T.obj _ _ st7 b hb
    exact(I9.pin (b,o) (uY _ (uY _ (vt hb e)))).2.1
   refine thn (ht' _ s8 σ8 H8 _ I8 q8) fun ok s9 w1_=>w1_.elim fun H9 z_=>z_.elim fun I9 q9=>?_
   cases ok with
   | false=>
    simp only[ue,if_false]at q9 ⊢
    obtain⟨m',hm,w9⟩:=q9
    obtain⟨a1,a2,a3⟩:=back I9
    exact⟨m',hm,i+1,ys,σ8,H9,a1,a2,a3,w9⟩
   | true=>
    simp only[if_true]at q9 ⊢
    refine thn (he' _ s9 σ8 H9 _ I9 q9) fun v s10 w1_=>w1_.elim fun y z_=>z_.elim fun H10 z_=>z_.elim fun I10 z_=>z_.elim fun r10 z_=>z_.elim fun eD z_=>z_.elim fun hl z_=>z_.elim fun m' z_=>z_.elim fun hm w10=>?_
    refine thn (Wap (X:=X') _ s10 σ8 H10 (.ref s₂.heap.objs.size) [y] (.ref s₂.heap.objs.size) [v] (fun _ H11=>W (i+1) m' (ys++[y]) σ8 H11) I10 rfl (.cons r10 .nil) ⟨_,ys,y,rfl,rfl,eD,hl,w10⟩) fun _ s11 w1_=>w1_.elim fun _ z_=>z_.elim fun H11 z_=>z_.elim fun I11 z_=>z_.elim fun _ w11=>?_
    obtain⟨a1,a2,a3⟩:=back I11
    exact⟨m',hm,i+1,_,σ8,H11,a1,a2,a3,w11⟩
 exact codeAny_compStart_list (loop _ rfl) (T.self X.A 0 _ _ _ st4 (loop _ rfl))
theorem XaK(hc:X.calm=true)(S:qm X scope ts rest)(hi:PI X tg iter wi)
  (hg:∀fp s H,PG (Xe X scope ts rest fp s H) tg g) (ht:∀fp s H,PIfs (Xe X scope ts rest fp s H) ifs tc) (he:∀fp s H,PE (Xe X scope ts rest fp s H) elt te)
  (hs:∀x,foldedSetIterable iter X.env x=pure x:=by intro _;rfl):PE X (.ListComp elt [⟨tg,iter,ifs,0⟩] scope pos) (kau ts.length wi g tc te):=by
 intro pins s σ H Q I h
 rw[eval_ListComp]
 refine wpAny_comprehension_free (use:=none) rfl hs (vI fun y hy hk=>I.ok.has _ (S.free y hy hk)) S.kind S.own (thn (hi pins s σ H _ I h) fun x s₁ h1=>thn h1 fun itv s₂ h2=>?_)
 obtain⟨it,fp,tn,J,H2,e,I2,T,st2,f2,hw⟩:=h2
 subst e
 refine Zad hc S hg ht he I2 T st2 f2 hw (RR:=fun acc C=>compPost (model X.prog X.w) X.A X.xe none (EP X pins σ Q) acc C) fun D s3 H3 σ' H' s' I3 f3 J' q=>?_
 obtain⟨m,hn,_⟩:=J'.loc
 exact⟨m,hn,fun h' hb=>⟨.ref D,H',Y2 I3 f3 J' hb,rfl,q⟩⟩
theorem waG{i:Nat}{x:Str}{pos' spos:Pos}(hc:X.calm=true)(S:qm X scope ts rest)(hi:PI X tg iter wi)
  (hg:∀fp s H,PG (Xe X scope ts rest fp s H) tg g) (ht:∀fp s H,PIfs (Xe X scope ts rest fp s H) ifs tc) (he:∀fp s H,PE (Xe X scope ts rest fp s H) elt te)
  (hN:X.N.Nodup) (hx:X.N[i]?=some x) (hl:Loc X.env.scope x)
  (hsw:swapsWith (.ListComp elt [⟨tg,iter,ifs,0⟩] scope pos) (some (.Name x pos')) spos.line X.env=pure true)
  (hs:∀x,foldedSetIterable iter X.env x=pure x:=by intro _;rfl) (hf:X.fn x=true\/X.env.scope.names.lookup x=some .local:=by first | exact .inl rfl | exact .inr rfl | assumption) :
  PS X (.Assign [.Name x pos'] (.ListComp elt [⟨tg,iter,ifs,0⟩] scope pos) spos) (Za6 (kau ts.length wi g tc te) (Xau i)):=by
 intro pins s σ H D I h
 rw[exec_Assign_Name_used _ _ _ _ hsw]
 refine wpAny_bind (wpAny_standAt (wpAny_bind ?_))
 show wpAny _ X.A (do let _ ←comprehension (.ListComp elt [⟨tg,iter,ifs,0⟩] scope pos) scope X.env _ (newList []) false (eval iter X.env) (some (assign (.Name x pos') X.env))) _ _ s
 refine wpAny_bind (wpAny_mono (wpAny_comprehension_free (use:=some (assign (.Name x pos') X.env)) (Q:=fun _ s'=>SP X pins D .next s') rfl hs (vI fun y hy hk=>I.ok.has _ (S.free y hy hk)) S.kind S.own
  (thn (hi pins s σ H _ I h) fun xv s₁ h1=>thn h1 fun itv s₂ h2=>?_)) (fun _ s' hq=>wpAny_pure (wpAny_pure hq)) fun _ _ e=>e)
 obtain⟨it,fp,tn,J,H2,e,I2,T,st2,f2,hw⟩:=h2
 subst e
 refine Zad hc S hg ht he I2 T st2 f2 (Q:=fun v H1=>Xau i v σ H1 D.nx) hw (RR:=fun acc C=>compPost (model X.prog X.w) X.A X.xe (some (assign (.Name x pos') X.env)) (fun _ s'=>SP X pins D .next s') acc C) fun D' s3 H3 σ' H' s' I3 f3 J' q=>?_
 obtain⟨m,hn,_⟩:=J'.loc
 have IX:Inv X pins σ H' s':=by
  have:=Y2 I3 f3 J' (Heap.SameBut.refl _ _)
  exact this
 obtain⟨o,es,ep,ho,hd,hr⟩:=id hn
 have ho':s'.heap.get? s3.heap.objs.size=some o:=ho
 have hfr:H' s3.heap.objs.size=none:=J'.free
 have hne:s3.heap.objs.size≠X.env.locals:=xT I3.lt
 have hnf:s3.heap.objs.size∉X.fs:=I3.nofs (uJ _)
 have hcl:∀v,o.data≠.cell v:=fun v z=>by rw[hd]at z;cases z
 have IP:Inv X (pins++[(s3.heap.objs.size,o)]) σ H' s':=IX.pins_of fun p hp=>(uQ.mp hp).elim (fun z=>IX.pin p (uY _ z)) fun z=>by
  have e:p=(s3.heap.objs.size,o):=by simpa using z
  subst e
  exact⟨ho',hfr,hne,hnf,hcl⟩
 show wpAny _ X.A (assign (.Name x pos') X.env (.ref D')) _ _ _
 refine wpAny_assign_Name (kab IP hN hx hl (v:=.ref D') (u:=.ref D') rfl (fun s4 I4=>?_) hf)
 have hp4:=(I4.pin (s3.heap.objs.size,o) (uY _ (uY _ uc))).1
 refine⟨m,⟨o,es,ep,hp4,hd,hr⟩,fun h' hb=>⟨_,H',?_,q⟩⟩
 refine Inv.turned (it:=s3.heap.objs.size) (t':=s4.toks) I4.unpinned (fun b o' hbne e=>(hb.2 b hbne).trans e) hfr hne (.inr I3.sz) (fun y c e z=>?_) (fun p hp z=>?_)
 ·obtain⟨v,o2,h2,_⟩:=I3.cell y c e
  exact absurd (uM h2) (by rw[z];exact u7 _)
 ·obtain⟨e,_⟩:=I3.pin p hp
  exact absurd (uM e) (by rw[z];exact u7 _)
end
inductive D where
 | non | bl (b:Bool) | int (i:Int) | str (x:Str) | ref (a:Addr) | ty (n:String) | tup (ds:List D) | lst (ds:List D) | fdc (ks:List Key) (ds:List D)
inductive OD where
 | lst (ds:List D) | dct (kvs:List (Key×D)) | tab (q:Str) | dtt (kvs:List (List Key×D))
noncomputable abbrev HpD:=Addr->Option OD
noncomputable def wc(M:HpD)(a:Addr)(o:OD):HpD:=fun b=>if b=a then some o else M b
noncomputable def js(M:HpD)(a:Addr):HpD:=fun b=>if b=a then none else M b
theorem Xc{M:HpD}{a:Addr}{o:OD}:wc M a o a=some o:=by unfold wc;rw[if_pos rfl]
theorem Xb{M:HpD}{a b:Addr}{o:OD}(h:b≠a):wc M a o b=M b:=by unfold wc;rw[if_neg h]
theorem wC{M:HpD}{a:Addr}:js M a a=none:=by unfold js;rw[if_pos rfl]
theorem Ym{M:HpD}{a b:Addr}(h:b≠a):js M a b=M b:=by unfold js;rw[if_neg h]
theorem qW{M:HpD}{a:Addr}{o u:OD}:wc (wc M a o) a u=wc M a u:=by
 funext b;unfold wc;split<;>rfl
structure KF where
 K:uD
 F:Addr->Prop
def FzL(K:KF)(H:Hp)(M:HpD)(a:Addr)(xs:List V):Prop:=(Rd H a (.lst xs)/\M a=none/\¬K.F a)\/SqL K.K (fun _=>none) a xs
def RdT(H:Hp)(a:Addr)(xs:List V):Prop:=H a=some (.tup xs)\/False
def FzT(K:KF)(H:Hp)(M:HpD)(a:Addr)(xs:List V):Prop:=(RdT H a xs/\M a=none/\¬K.F a)\/False
def FzK(K:KF)(H:Hp)(M:HpD)(a:Addr)(ks:List Key)(xs:List V):Prop:=(∃ob,H a=some (.frz ob (.dK (ks.zip xs))))/\(M a=none/\¬K.F a)/\ks.length=xs.length
mutual
def RepD(K:KF)(H:Hp)(M:HpD):D->V->Prop
 | .non,v=>v=.non
 | .bl b,v=>v=.bl b
 | .int i,v=>v=.int i
 | .str x,v=>v=.str x
 | .ref a,v=>v=.ref a
 | .ty n,v=>v=.ty n
 | .tup ds,v=>∃a xs,v=.ref a/\FzT K H M a xs/\RepDs K H M ds xs
 | .lst ds,v=>∃a xs,v=.ref a/\FzL K H M a xs/\RepDs K H M ds xs
 | .fdc ks ds,v=>∃a xs,v=.ref a/\FzK K H M a ks xs/\RepDs K H M ds xs
def RepDs(K:KF)(H:Hp)(M:HpD):List D->List V->Prop
 | [],xs=>xs=[]
 | d::ds,xs=>∃x r,xs=x::r/\RepD K H M d x/\RepDs K H M ds r
end
def Ybw(K:KF)(H:Hp)(M:HpD)(q:Str)(cv:Value):Prop:=∃c oc vs t,cv=.ref c/\H c=some (.frz oc (.own c))/\M c=none/\¬K.F c/\oc.data=.fields vs/\vs[1]?=some (.str q t)
def TabE(K:KF)(H:Hp)(M:HpD)(q:Str)(o:HO):Prop:=∃ps:Array Value,o=.tbl ps/\TriplesOk ps.toList/\∀pos cv,codeAmong pos ps.toList=some cv->Ybw K H M q cv
def RepO(K:KF)(H:Hp)(M:HpD):OD->HO->Prop
 | .lst ds,o=>∃xs,o=.lst xs/\RepDs K H M ds xs
 | .dct kvs,o=>∃vs:List (Key×V),o=.dK vs/\vs.map (·.1)=kvs.map (·.1)/\RepDs K H M (kvs.map (·.2)) (vs.map (·.2))
 | .tab q,o=>TabE K H M q o
 | .dtt kvs,o=>∃vs:List (List Key×V),o=.dT vs/\vs.map (·.1)=kvs.map (·.1)/\RepDs K H M (kvs.map (·.2)) (vs.map (·.2))
noncomputable abbrev NoT:={o:HO // ∀xs,o≠.tup xs}
structure RepH(K:KF)(H:Hp)(M:HpD):Prop where
 at_:∀a o,M a=some o->∃o',H a=some o'/\RepO K H M o o'
 fb:∀a,K.F a->(∃o:NoT,H a=some o.1)/\M a=none
def Fz(M:HpD)(H:Hp)(M':HpD)(H':Hp):Prop:=∀a o,H a=some o->M a=none->H' a=some o/\M' a=none
section
variable {K:KF} {H H' H2:Hp} {M M' M2:HpD}
theorem Fz.refl:Fz M H M H:=fun _ _ h m=>⟨h,m⟩
theorem Fz.trans(a:Fz M H M' H')(b:Fz M' H' M2 H2):Fz M H M2 H2:=fun c o h m=>b c o (a c o h m).1 (a c o h m).2
theorem Sq0{a:Addr}{xs:List V}(h:SqL K.K (fun _=>none) a xs)(H:Hp):SqL K.K H a xs:=by
 rcases h with (h | ⟨o,h⟩) | h
 ·cases h
 ·cases h
 ·exact .inr h
theorem FzL.sq{a:Addr}{xs:List V}(h:FzL K H M a xs):SqL K.K H a xs:=by
 rcases h with ⟨h,_⟩ | h
 ·exact .inl h
 ·exact Sq0 h H
theorem FzT.at_{a:Addr}{xs:List V}(h:FzT K H M a xs):H a=some (.tup xs):=(h.elim id False.elim).1.elim id False.elim
theorem FzT.no{a:Addr}{xs:List V}(h:FzT K H M a xs):M a=none/\¬K.F a:=(h.elim id False.elim).2
theorem FzT.sq{a:Addr}{xs:List V}(h:FzT K H M a xs):SqT K.K H a xs:=.inl (.inl h.at_)
theorem Rd.fz{a:Addr}{u:HO}(h:Rd H a u)(m:M a=none)(f:Fz M H M' H'):Rd H' a u/\M' a=none:=by
 rcases h with h | ⟨o,h⟩
 ·exact⟨.inl (f _ _ h m).1,(f _ _ h m).2⟩
 ·exact⟨.inr ⟨o,(f _ _ h m).1⟩,(f _ _ h m).2⟩
theorem FzL.mono{a:Addr}{xs:List V}(h:FzL K H M a xs)(f:Fz M H M' H'):FzL K H' M' a xs:=by
 rcases h with ⟨h,m,n⟩ | h
 ·exact .inl ⟨(h.fz m f).1,(h.fz m f).2,n⟩
 ·exact .inr h
theorem FzT.mono{a:Addr}{xs:List V}(h:FzT K H M a xs)(f:Fz M H M' H'):FzT K H' M' a xs:=.inl ⟨.inl (f _ _ h.at_ h.no.1).1,(f _ _ h.at_ h.no.1).2,h.no.2⟩
theorem FzK.mono{a:Addr}{ks:List Key}{xs:List V}(h:FzK K H M a ks xs)(f:Fz M H M' H'):FzK K H' M' a ks xs:=by
 obtain⟨⟨ob,e⟩,⟨m,n⟩,l⟩:=h
 exact⟨⟨ob,(f _ _ e m).1⟩,⟨(f _ _ e m).2,n⟩,l⟩
mutual
theorem RepD.mono(f:Fz M H M' H'):∀{d:D} {v:V},RepD K H M d v->RepD K H' M' d v
 | .non,_,h=>by unfold RepD at h ⊢;exact h
 | .bl _,_,h=>by unfold RepD at h ⊢;exact h
 | .int _,_,h=>by unfold RepD at h ⊢;exact h
 | .str _,_,h=>by unfold RepD at h ⊢;exact h
 | .ref _,_,h=>by unfold RepD at h ⊢;exact h
 | .ty _,_,h=>by unfold RepD at h ⊢;exact h
 | .tup ds,_,h=>by
  unfold RepD at h ⊢
  obtain⟨a,xs,e,h1,h2⟩:=h
  exact⟨a,xs,e,h1.mono f,RepDs.mono f h2⟩
 | .lst ds,_,h=>by
  unfold RepD at h ⊢
  obtain⟨a,xs,e,h1,h2⟩:=h
  exact⟨a,xs,e,h1.mono f,RepDs.mono f h2⟩
 | .fdc ks ds,_,h=>by
  unfold RepD at h ⊢
  obtain⟨a,xs,e,h1,h2⟩:=h
  exact⟨a,xs,e,h1.mono f,RepDs.mono f h2⟩
theorem RepDs.mono(f:Fz M H M' H'):∀{ds:List D} {vs:List V},RepDs K H M ds vs->RepDs K H' M' ds vs
 | [],_,h=>by unfold RepDs at h ⊢;exact h
 | d::ds,_,h=>by
  unfold RepDs at h ⊢
  obtain⟨x,r,e,h1,h2⟩:=h
  exact⟨x,r,e,RepD.mono f h1,RepDs.mono f h2⟩
end
theorem RepDs.length:∀{ds:List D} {vs:List V},RepDs K H M ds vs->ds.length=vs.length
 | [],_,h=>by unfold RepDs at h;subst h;rfl
 | d::ds,_,h=>by
  unfold RepDs at h
  obtain⟨x,r,e,_,h2⟩:=h
  rw[e,uj,uj,RepDs.length h2]
theorem RepDs.get:∀{ds:List D} {vs:List V} {i:Nat} {d:D},RepDs K H M ds vs->ds[i]?=some d->∃v,vs[i]?=some v/\RepD K H M d v
 | [],_,_,_,_,e=>by simp at e
 | d::ds,_,0,d',h,e=>by
  unfold RepDs at h
  obtain⟨x,r,e1,h1,h2⟩:=h
  simp at e;subst e;subst e1
  exact⟨x,rfl,h1⟩
 | d::ds,_,i+1,d',h,e=>by
  unfold RepDs at h
  obtain⟨x,r,e1,h1,h2⟩:=h
  subst e1
  obtain⟨v,q1,q2⟩:=RepDs.get (i:=i) h2 (by simpa using e)
  exact⟨v,by simpa using q1,q2⟩
theorem RepDs.get':∀{ds:List D} {vs:List V} {i:Nat} {v:V},RepDs K H M ds vs->vs[i]?=some v->∃d,ds[i]?=some d/\RepD K H M d v:=fun {ds vs i v} h e=>by
 have hl:=h.length
 have hi:i<vs.length:=(uO.mp e).1
 have:ds[i]?=some (ds[i]'(by lia)):=uB (by lia)
 obtain⟨v',q1,q2⟩:=h.get this
 rw[e]at q1
 cases q1
 exact⟨_,this,q2⟩
theorem RepDs.nil:RepDs K H M [] []:=by unfold RepDs;rfl
theorem RepDs.cons{d:D}{ds:List D}{v:V}{vs:List V}(h1:RepD K H M d v)(h2:RepDs K H M ds vs):RepDs K H M (d::ds) (v::vs):=by
 unfold RepDs;exact⟨v,vs,rfl,h1,h2⟩
theorem RepDs.append:∀{ds es:List D} {vs us:List V},RepDs K H M ds vs->RepDs K H M es us->RepDs K H M (ds++es) (vs++us)
 | [],_,_,_,h,g=>by unfold RepDs at h;rw[h];exact g
 | d::ds,es,_,us,h,g=>by
  unfold RepDs at h
  obtain⟨x,r,e,h1,h2⟩:=h
  rw[e]
  exact .cons h1 (RepDs.append h2 g)
theorem RepDs.take:∀{ds:List D} {vs:List V} (n:Nat),RepDs K H M ds vs->RepDs K H M (ds.take n) (vs.take n)
 | _,_,0,_=>by simp;exact .nil
 | [],_,n+1,h=>by unfold RepDs at h;rw[h];exact .nil
 | d::ds,_,n+1,h=>by
  unfold RepDs at h
  obtain⟨x,r,e,h1,h2⟩:=h
  rw[e]
  exact .cons h1 (RepDs.take n h2)
theorem RepDs.drop:∀{ds:List D} {vs:List V} (n:Nat),RepDs K H M ds vs->RepDs K H M (ds.drop n) (vs.drop n)
 | _,_,0,h=>h
 | [],_,n+1,h=>by unfold RepDs at h;rw[h];exact .nil
 | d::ds,_,n+1,h=>by
  unfold RepDs at h
  obtain⟨x,r,e,h1,h2⟩:=h
  rw[e]
  exact RepDs.drop n h2
theorem RepDs.set:∀{ds:List D} {vs:List V} {d:D} {v:V} (i:Nat),RepDs K H M ds vs->RepD K H M d v->RepDs K H M (ds.set i d) (vs.set i v)
 | [],_,_,_,_,h,_=>by unfold RepDs at h;rw[h];exact .nil
 | d::ds,_,_,_,0,h,g=>by
  unfold RepDs at h
  obtain⟨x,r,e,h1,h2⟩:=h
  rw[e]
  exact .cons g h2
 | d::ds,_,_,_,i+1,h,g=>by
  unfold RepDs at h
  obtain⟨x,r,e,h1,h2⟩:=h
  rw[e]
  exact .cons h1 (RepDs.set i h2 g)
theorem RepH.free{a:Addr}(h:RepH K H M)(e:H a=none):M a=none:=by
 cases q:M a with
 | none=>rfl
 | some o=>
  obtain⟨o',e',_⟩:=h.at_ a o q
  rw[e]at e';cases e'
theorem Wm{p:Addr}{o:HO}(hp:H p=none):Fz M H M (upd H p o):=fun a u e m=>⟨by rw[Yd (jd e hp)];exact e,m⟩
theorem TabE.imp{K2:KF}{q:Str}{o:HO}(h:TabE K H M q o)(i:∀c oc u,H c=some (.frz oc u)->M c=none->¬K.F c->H' c=some (.frz oc u)/\M' c=none/\¬K2.F c):TabE K2 H' M' q o:=by
 obtain⟨ps,e,t,a⟩:=h
 refine⟨ps,e,t,fun pos cv z=>?_⟩
 obtain⟨c,oc,vs,t,e1,e2,e3,e4,e5⟩:=a pos cv z
 obtain⟨k1,k2,k3⟩:=i c oc _ e2 e3 e4
 exact⟨c,oc,vs,t,e1,k1,k2,k3,e5⟩
theorem RepO.mono{o:OD}{u:HO}(f:Fz M H M' H')(h:RepO K H M o u):RepO K H' M' o u:=by
 cases o with
 | lst ds=>
  obtain⟨xs,e,r⟩:=h
  exact⟨xs,e,r.mono f⟩
 | dct kvs=>
  obtain⟨vs,e,k,r⟩:=h
  exact⟨vs,e,k,r.mono f⟩
 | tab q=>exact TabE.imp h fun c oc u e m n=>⟨(f c _ e m).1,(f c _ e m).2,n⟩
 | dtt kvs=>
  obtain⟨vs,e,k,r⟩:=h
  exact⟨vs,e,k,r.mono f⟩
theorem RepH.new{p:Addr}{o:HO}(h:RepH K H M)(hp:H p=none):RepH K (upd H p o) M:=⟨fun a u e=>by
 obtain⟨o',e',r⟩:=h.at_ a u e
 exact⟨o',by rw[Yd (jd e' hp)];exact e',r.mono (Wm hp)⟩,fun a ha=>by
 obtain⟨⟨o',e'⟩,m'⟩:=h.fb a ha
 exact⟨⟨o',by rw[Yd (jd e' hp)];exact e'⟩,m'⟩⟩
theorem RepH.nf{p:Addr}(h:RepH K H M)(hp:H p=none):¬K.F p:=fun z=>by
 obtain⟨⟨o,e⟩,_⟩:=h.fb p z
 rw[hp]at e;cases e
theorem RepH.nfM{p:Addr}{d:OD}(h:RepH K H M)(hp:M p=some d):¬K.F p:=fun z=>by
 rw[(h.fb p z).2]at hp;cases hp
theorem XF{p:Addr}{o:HO}{d:OD}(hp:H p=none)(hm:M p=none):Fz M H (wc M p d) (upd H p o):=fun a u e m=>
 ⟨by rw[Yd (jd e hp)];exact e,by rw[Xb (jd e hp)];exact m⟩
theorem RepH.newM{p:Addr}{o:HO}{d:OD}(h:RepH K H M)(hp:H p=none)(r:RepO K H M d o):RepH K (upd H p o) (wc M p d):=⟨fun a u e=>by
 have hm:=h.free hp
 by_cases q:a=p
 ·subst q
  rw[Xc]at e;cases e
  exact⟨o,Wg,r.mono (XF hp hm)⟩
 ·rw[Xb q]at e
  obtain⟨o',e',r'⟩:=h.at_ a u e
  exact⟨o',by rw[Yd q];exact e',r'.mono (XF hp hm)⟩,fun a ha=>by
 obtain⟨⟨o',e'⟩,m'⟩:=h.fb a ha
 have q:=jd e' hp
 exact⟨⟨o',by rw[Yd q];exact e'⟩,by rw[Xb q];exact m'⟩⟩
theorem wj{p:Addr}{o:HO}{d d':OD}(hm:M p=some d):Fz M H (wc M p d') (upd H p o):=fun a u e m=>by
 have q:a≠p:=fun z=>by rw[z,hm]at m;cases m
 exact⟨by rw[Yd q];exact e,by rw[Xb q];exact m⟩
theorem RepH.write{p:Addr}{o:HO}{d d':OD}(h:RepH K H M)(hm:M p=some d)(r:RepO K H M d' o):RepH K (upd H p o) (wc M p d'):=⟨fun a u e=>by
 by_cases q:a=p
 ·subst q
  rw[Xc]at e;cases e
  exact⟨o,Wg,r.mono (wj hm)⟩
 ·rw[Xb q]at e
  obtain⟨o',e',r'⟩:=h.at_ a u e
  exact⟨o',by rw[Yd q];exact e',r'.mono (wj hm)⟩,fun a ha=>by
 obtain⟨⟨o',e'⟩,m'⟩:=h.fb a ha
 have q:a≠p:=fun z=>by rw[z,hm]at m';cases m'
 exact⟨⟨o',by rw[Yd q];exact e'⟩,by rw[Xb q];exact m'⟩⟩
theorem WI{p:Addr}:Fz M H (js M p) H:=fun a u e m=>⟨e,by unfold js;split<;>first | rfl | exact m⟩
theorem RepH.del{p:Addr}(h:RepH K H M):RepH K H (js M p):=⟨fun a u e=>by
 have q:a≠p:=fun z=>by rw[z,wC]at e;cases e
 rw[Ym q]at e
 obtain⟨o',e',r'⟩:=h.at_ a u e
 exact⟨o',e',r'.mono WI⟩,fun a ha=>⟨(h.fb a ha).1,by unfold js;split<;>first | rfl | exact(h.fb a ha).2⟩⟩
theorem RepD.frz{p:Addr}{ds:List D}(h:RepH K H M)(e:M p=some (.lst ds)):RepD K H (js M p) (.lst ds) (.ref p):=by
 obtain⟨o',e',xs,rfl,r⟩:=h.at_ p _ e
 unfold RepD
 exact⟨p,xs,rfl,.inl ⟨.inl e',wC,h.nfM e⟩,r.mono WI⟩
end
noncomputable abbrev SD:=List (Option D)
noncomputable abbrev KD:=D->HpD->Prop
noncomputable abbrev TDE:=SD->HpD->KD->Prop
noncomputable abbrev TDT:=SD->HpD->(Bool->HpD->Prop)->Prop
noncomputable abbrev TDA:=SD->HpD->(List D->HpD->Prop)->Prop
structure jn where
 nx:SD->HpD->Prop
 rt:KD
 bk:SD->HpD->Prop:=fun _ _=>False
 ct:SD->HpD->Prop:=fun _ _=>False
noncomputable abbrev TSD:=jn->SD->HpD->Prop
structure Rel(K:KF)(σD:SD)(M:HpD)(σ:St)(H:Hp):Prop where
 len:σD.length=σ.length
 st:∀(i:Nat) d,σD[i]?=some (some d)->∃v,σ[i]?=some (some v)/\RepD K H M d v
 hp:RepH K H M
section
variable {K:KF} {H H':Hp} {M M':HpD} {σ:St} {σD:SD}
theorem Rel.mono(r:Rel K σD M σ H)(f:Fz M H M' H')(h:RepH K H' M'):Rel K σD M' σ H':=
 ⟨r.len,fun i d e=>let ⟨v,e1,e2⟩:=r.st i d e;⟨v,e1,e2.mono f⟩,h⟩
theorem Rel.set(r:Rel K σD M σ H){d:D}{v:V}(i:Nat)(h:RepD K H M d v):Rel K (σD.set i (some d)) M (σ.set i (some v)) H:=by
 refine⟨by simp[r.len],fun j e q=>?_,r.hp⟩
 by_cases hj:i=j
 ·subst hj
  have hi:i<σD.length:=by
   have:=(uO.mp q).1
   simpa using this
  rw[yM hi]at q
  cases q
  exact⟨v,by rw[yM (by rw[←r.len];exact hi)],h⟩
 ·rw[yT hj]at q
  obtain⟨u,e1,e2⟩:=r.st j e q
  exact⟨u,by rw[yT hj];exact e1,e2⟩
theorem Rel.pad(r:Rel K σD M σ H)(n:Nat):Rel K (ui n none++σD) M (ui n none++σ) H:=by
 refine⟨by simp[r.len],fun j d q=>?_,r.hp⟩
 by_cases hj:j<n
 ·rw[u8 (by simpa using hj),yF,if_pos hj]at q
  cases q
 ·rw[up (by simpa using hj),xu]at q
  obtain⟨u,e1,e2⟩:=r.st _ d q
  exact⟨u,by rw[up (by simpa using hj),xu];exact e1,e2⟩
end
def PostE(K:KF)(M:HpD)(H:Hp)(QD:KD)(Q:VK):Prop:=∀d M' v H',Fz M H M' H'->RepH K H' M'->RepD K H' M' d v->QD d M'->Q v H'
def Xbz(K:KF)(M:HpD)(H:Hp)(QD:Bool->HpD->Prop)(Q:Bool->Hp->Prop):Prop:=∀b M' H',Fz M H M' H'->RepH K H' M'->QD b M'->Q b H'
def jbw(K:KF)(M:HpD)(H:Hp)(QD:List D->HpD->Prop)(Q:List V->Hp->Prop):Prop:=∀ds M' vs H',Fz M H M' H'->RepH K H' M'->RepDs K H' M' ds vs->QD ds M'->Q vs H'
structure PostS(K:KF)(M:HpD)(H:Hp)(DD:jn)(D':wU):Prop where
 nx:∀σD' M' σ' H',Fz M H M' H'->Rel K σD' M' σ' H'->DD.nx σD' M'->D'.nx σ' H'
 rt:PostE K M H DD.rt D'.rt
 bk:∀σD' M' σ' H',Fz M H M' H'->Rel K σD' M' σ' H'->DD.bk σD' M'->D'.bk σ' H'
 ct:∀σD' M' σ' H',Fz M H M' H'->Rel K σD' M' σ' H'->DD.ct σD' M'->D'.ct σ' H'
def Yg(K:uD)(t:TDE):TE:=fun σ H Q=>∃F σD M QD,Rel ⟨K,F⟩ σD M σ H/\t σD M QD/\PostE ⟨K,F⟩ M H QD Q
def wG(K:uD)(t:TDT):TT:=fun σ H Q=>∃F σD M QD,Rel ⟨K,F⟩ σD M σ H/\t σD M QD/\Xbz ⟨K,F⟩ M H QD Q
def Zai(K:uD)(t:TDA):TA:=fun σ H Q=>∃F σD M QD,Rel ⟨K,F⟩ σD M σ H/\t σD M QD/\jbw ⟨K,F⟩ M H QD Q
def wag(K:uD)(t:TSD):TS:=fun D' σ H=>∃F σD M DD,Rel ⟨K,F⟩ σD M σ H/\t DD σD M/\PostS ⟨K,F⟩ M H DD D'
section
variable {K:KF} {H H':Hp} {M M':HpD}
theorem PostE.mono{QD:KD}{Q:VK}(p:PostE K M H QD Q)(f:Fz M H M' H'):PostE K M' H' QD Q:=fun d M2 v H2 f2 r q h=>p d M2 v H2 (f.trans f2) r q h
theorem PostS.mono{DD:jn}{D':wU}(p:PostS K M H DD D')(f:Fz M H M' H'):PostS K M' H' DD D':=
 ⟨fun a b c d f2 r h=>p.nx a b c d (f.trans f2) r h,p.rt.mono f,fun a b c d f2 r h=>p.bk a b c d (f.trans f2) r h,fun a b c d f2 r h=>p.ct a b c d (f.trans f2) r h⟩
end
theorem PE.wk{X:Cx}{e:Expr}{t t':TE}(h:PE X e t)(i:∀σ H Q,t' σ H Q->t σ H Q):PE X e t':=fun pins s σ H Q I q=>h pins s σ H Q I (i σ H Q q)
theorem PT.wk{X:Cx}{e:Expr}{t t':TT}(h:PT X e t)(i:∀σ H Q,t' σ H Q->t σ H Q):PT X e t':=fun pins s σ H Q I q=>h pins s σ H Q I (i σ H Q q)
theorem PW.wk{X:Cx}{e:Expr}{t t':TT}(h:PW X e t)(i:∀σ H Q,t' σ H Q->t σ H Q):PW X e t':=fun wh pins s σ H Q I q=>h wh pins s σ H Q I (i σ H Q q)
theorem PIfs.wk{X:Cx}{e:List Expr}{t t':TT}(h:PIfs X e t)(i:∀σ H Q,t' σ H Q->t σ H Q):PIfs X e t':=fun pins s σ H Q I q=>h pins s σ H Q I (i σ H Q q)
theorem PA.wk{X:Cx}{e:List Expr}{t t':TA}(h:PA X e t)(i:∀σ H Q,t' σ H Q->t σ H Q):PA X e t':=fun pos pins s σ H Q I q=>h pos pins s σ H Q I (i σ H Q q)
theorem PS.wk{X:Cx}{e:Stmt}{t t':TS}(h:PS X e t)(i:∀D' σ H,t' D' σ H->t D' σ H):PS X e t':=fun pins s σ H D' I q=>h pins s σ H D' I (i D' σ H q)
theorem PSs.wk{X:Cx}{e:List Stmt}{t t':TS}(h:PSs X e t)(i:∀D' σ H,t' D' σ H->t D' σ H):PSs X e t':=fun pins s σ H D' I q=>h pins s σ H D' I (i D' σ H q)
abbrev ED(X:Cx)(e:Expr)(t:TDE):Prop:=PE X e (Yg X.K t)
abbrev TD(X:Cx)(e:Expr)(t:TDT):Prop:=PT X e (wG X.K t)
abbrev WD(X:Cx)(e:Expr)(t:TDT):Prop:=PW X e (wG X.K t)
abbrev FD(X:Cx)(e:List Expr)(t:TDT):Prop:=PIfs X e (wG X.K t)
abbrev AD(X:Cx)(e:List Expr)(t:TDA):Prop:=PA X e (Zai X.K t)
abbrev StD(X:Cx)(st:Stmt)(t:TSD):Prop:=PS X st (wag X.K t)
abbrev SsD(X:Cx)(st:List Stmt)(t:TSD):Prop:=PSs X st (wag X.K t)
section
variable {K:uD} {F:Addr->Prop} {σ:St} {H:Hp} {σD:SD} {M:HpD}
theorem lE{ta:TDE}{QD:KD}{R:VK}(rel:Rel ⟨K,F⟩ σD M σ H)(h:ta σD M QD)(k:∀d M1 v H1,Fz M H M1 H1->Rel ⟨K,F⟩ σD M1 σ H1->RepD ⟨K,F⟩ H1 M1 d v->QD d M1->R v H1):Yg K ta σ H R:=
 ⟨F,σD,M,QD,rel,h,fun d M1 v H1 f rh rd q=>k d M1 v H1 f (rel.mono f rh) rd q⟩
theorem lT{ta:TDT}{QD:Bool->HpD->Prop}{R:Bool->Hp->Prop}(rel:Rel ⟨K,F⟩ σD M σ H)(h:ta σD M QD)(k:∀b M1 H1,Fz M H M1 H1->Rel ⟨K,F⟩ σD M1 σ H1->QD b M1->R b H1):wG K ta σ H R:=
 ⟨F,σD,M,QD,rel,h,fun b M1 H1 f rh q=>k b M1 H1 f (rel.mono f rh) q⟩
theorem lA{ta:TDA}{QD:List D->HpD->Prop}{R:List V->Hp->Prop}(rel:Rel ⟨K,F⟩ σD M σ H)(h:ta σD M QD)(k:∀d M1 v H1,Fz M H M1 H1->Rel ⟨K,F⟩ σD M1 σ H1->RepDs ⟨K,F⟩ H1 M1 d v->QD d M1->R v H1):Zai K ta σ H R:=
 ⟨F,σD,M,QD,rel,h,fun d M1 v H1 f rh rd q=>k d M1 v H1 f (rel.mono f rh) rd q⟩
end
@[irreducible] def Ya(i:Nat):TDE:=fun σ M Q=>∃d,σ[i]?=some (some d)/\Q d M
@[irreducible] def tCD(d:D):TDE:=fun _ M Q=>Q d M
theorem YC{i:Nat}{σ:SD}{M:HpD}{Q:KD}{d:D}(h:σ[i]?=some (some d))(q:Q d M):Ya i σ M Q:=by unfold Ya;exact⟨d,h,q⟩
theorem X9{σ:SD}{M:HpD}{Q:KD}{d:D}(q:Q d M):tCD d σ M Q:=by unfold tCD;exact q
section
variable {X:Cx} {pos:Pos}
theorem kbt(i:Nat){x:Str}(hN:X.N[i]?=some x)(hv:Vis X.env.scope x)(hd:(x==("__debug__":Str))=false:=by decide)(hcd:(x==("__classdict__":Str))=false:=by decide):ED X (.Name x pos) (Ya i):=by
 refine(wbm hN hv hd hcd).wk fun σ H Q w1_=>w1_.elim fun F z_=>z_.elim fun σD z_=>z_.elim fun M z_=>z_.elim fun QD z_=>z_.elim fun rel z_=>z_.elim fun h p=>?_
 unfold Ya at h
 obtain⟨d,e,q⟩:=h
 obtain⟨v,e1,e2⟩:=rel.st i d e
 exact⟨v,e1,p d M v H .refl rel.hp e2 q⟩
theorem WaS{e:Expr}{v:V}{d:D}(h:PE X e (tC v))(r:∀F H M,RepD ⟨X.K,F⟩ H M d v):ED X e (tCD d):=by
 refine h.wk fun σ H Q w1_=>w1_.elim fun F z_=>z_.elim fun σD z_=>z_.elim fun M z_=>z_.elim fun QD z_=>z_.elim fun rel z_=>z_.elim fun h p=>?_
 unfold tCD at h
 exact p d M v H .refl rel.hp (r F H M) h
theorem Yb{i j}:ED X (.Constant (.int i) j pos) (tCD (.int i)):=WaS jbq fun _ _ _=>by unfold RepD;rfl
theorem qC{b j}:ED X (.Constant (.bool b) j pos) (tCD (.bl b)):=WaS vby fun _ _ _=>by unfold RepD;rfl
theorem kR{x j}:ED X (.Constant (.str x) j pos) (tCD (.str x)):=WaS Zbt fun _ _ _=>by unfold RepD;rfl
theorem Xbj{x:Str}{n:String}(hg:Gl X x)(hm:X.mg x=none)(hv:bootBuiltins x=some (.type n))(hn:x≠"__name__":=by decide)(hd:(x==("__debug__":Str))=false:=by decide):ED X (.Name x pos) (tCD (.ty n)):=
 WaS (Wbg (v:=.ty n) hg hm hv rfl hn hd) fun _ _ _=>by unfold RepD;rfl
end
noncomputable abbrev RD2:=D->D->HpD->KD->Prop
def Yk(K:uD)(r:RD2):R2:=fun x y H Q=>∃F d e M QD,RepD ⟨K,F⟩ H M d x/\RepD ⟨K,F⟩ H M e y/\RepH ⟨K,F⟩ H M/\r d e M QD/\PostE ⟨K,F⟩ M H QD Q
@[irreducible] def Wb(r:RD2)(ta tb:TDE):TDE:=fun σ M Q=>ta σ M fun x M1=>tb σ M1 fun y M2=>r x y M2 Q
theorem W5{r:RD2}{ta tb:TDE}{σ:SD}{M:HpD}{Q:KD}(h:ta σ M fun x M1=>tb σ M1 fun y M2=>r x y M2 Q):Wb r ta tb σ M Q:=by unfold Wb;exact h
theorem jal{K:uD}{r:RD2}{ta tb:TDE}{σ:St}{H:Hp}{Q:VK}(h:Yg K (Wb r ta tb) σ H Q):tOp (Yk K r) (Yg K ta) (Yg K tb) σ H Q:=by
 obtain⟨F,σD,M,QD,rel,h,p⟩:=h
 unfold Wb at h
 refine lE rel h fun d M1 v H1 f1 rel1 r1 h1=>?_
 refine lE rel1 h1 fun e M2 u H2 f2 rel2 r2 h2=>?_
 exact⟨F,d,e,M2,QD,r1.mono f2,r2,rel2.hp,h2,p.mono (f1.trans f2)⟩
theorem OpR.wk{X:Cx}{f:Value->Value->Sem Value}{r r':R2}(h:OpR X f r)(i:∀x y H Q,r' x y H Q->r x y H Q):OpR X f r':=fun pins s σ H x y v u Q I rx ry q=>h pins s σ H x y v u Q I rx ry (i _ _ _ _ q)
@[irreducible] def rID(C:Int->Int->Prop)(g:Int->Int->D):RD2:=fun x y M Q=>∃i j,x=.int i/\y=.int j/\C i j/\Q (g i j) M
theorem kag{C:Int->Int->Prop}{g:Int->Int->D}{i j:Int}{M:HpD}{Q:KD}(c:C i j)(q:Q (g i j) M):rID C g (.int i) (.int j) M Q:=by unfold rID;exact⟨i,j,rfl,rfl,c,q⟩
@[irreducible] def rIN(g:Int->Int->D):RD2:=fun x y M Q=>∃i j,x=.int i/\y=.int j/\Q (g i j) M
theorem kae{g:Int->Int->D}{i j:Int}{M:HpD}{Q:KD}(q:Q (g i j) M):rIN g (.int i) (.int j) M Q:=by unfold rIN;exact⟨i,j,rfl,rfl,q⟩
section
variable {X:Cx} {a b:Expr} {ta tb:TDE} {pos:Pos}
theorem Wd{op:Operator}{r:RD2}(ho:OpR X (binaryOp op) (Yk X.K r))(ha:ED X a ta)(hb:ED X b tb):ED X (.BinOp a op b pos) (Wb r ta tb):=(Ybz ho ha hb).wk fun _ _ _ h=>jal h
theorem X5{f:Value->Value->Sem Value}{C:Int->Int->Prop}{g:Int->Int->V}{gD:Int->Int->D}(h:OpR X f (rI C g))(hg:∀i j F H M,RepD ⟨X.K,F⟩ H M (gD i j) (g i j)):OpR X f (Yk X.K (rID C gD)):=by
 refine h.wk fun x y H Q w1_=>w1_.elim fun F z_=>z_.elim fun d z_=>z_.elim fun e z_=>z_.elim fun M z_=>z_.elim fun QD z_=>z_.elim fun r1 z_=>z_.elim fun r2 z_=>z_.elim fun rh z_=>z_.elim fun hq p=>?_
 unfold rID at hq
 obtain⟨i,j,rfl,rfl,c,q⟩:=hq
 unfold RepD at r1 r2
 exact⟨i,j,r1,r2,c,p _ M _ H .refl rh (hg i j F H M) q⟩
theorem qK{f:Value->Value->Sem Value}{g:Int->Int->V}{gD:Int->Int->D}(h:OpR X f (rI0 g))(hg:∀i j F H M,RepD ⟨X.K,F⟩ H M (gD i j) (g i j)):OpR X f (Yk X.K (rIN gD)):=by
 refine h.wk fun x y H Q w1_=>w1_.elim fun F z_=>z_.elim fun d z_=>z_.elim fun e z_=>z_.elim fun M z_=>z_.elim fun QD z_=>z_.elim fun r1 z_=>z_.elim fun r2 z_=>z_.elim fun rh z_=>z_.elim fun hq p=>?_
 unfold rIN at hq
 obtain⟨i,j,rfl,rfl,q⟩:=hq
 unfold RepD at r1 r2
 exact⟨i,j,r1,r2,p _ M _ H .refl rh (hg i j F H M) q⟩
theorem ji:OpR X (binaryOp .Add) (Yk X.K (rIN fun i j=>.int (i+j))):=qK Xbn fun _ _ _ _ _=>by unfold RepD;rfl
theorem WY:OpR X (binaryOp .Sub) (Yk X.K (rIN fun i j=>.int (i - j))):=qK jbp fun _ _ _ _ _=>by unfold RepD;rfl
theorem YN:OpR X (binaryOp .Mult) (Yk X.K (rID CMul fun i j=>.int (i*j))):=X5 Xbq fun _ _ _ _ _=>by unfold RepD;rfl
theorem Zaj:OpR X (binaryOp .FloorDiv) (Yk X.K (rID Wa8 fun i j=>.int (i / j))):=X5 qbg fun _ _ _ _ _=>by unfold RepD;rfl
theorem qD:OpR X (binaryOp .Mod) (Yk X.K (rID (fun _ j=>0<j) fun i j=>.int (i % j))):=X5 jbn fun _ _ _ _ _=>by unfold RepD;rfl
theorem XZ:OpR X (binaryOp .Pow) (Yk X.K (rID Ya6 fun i j=>.int (i^j.toNat))):=X5 Zbv fun _ _ _ _ _=>by unfold RepD;rfl
theorem jat:OpR X (compareOp .Lt) (Yk X.K (rIN fun i j=>.bl (decide (i<j)))):=qK wbw fun _ _ _ _ _=>by unfold RepD;rfl
theorem X4:OpR X (compareOp .LtE) (Yk X.K (rIN fun i j=>.bl (decide (i<=j)))):=qK Wby fun _ _ _ _ _=>by unfold RepD;rfl
theorem WP:OpR X (compareOp .Gt) (Yk X.K (rIN fun i j=>.bl (decide (j<i)))):=qK Xby fun _ _ _ _ _=>by unfold RepD;rfl
theorem wbv:OpR X (compareOp .GtE) (Yk X.K (rIN fun i j=>.bl (decide (j<=i)))):=qK Ybx fun _ _ _ _ _=>by unfold RepD;rfl
theorem kaF{i j:Int}:decide (V.int i=V.int j)=decide (i=j):=by
 by_cases h:i=j
 ·subst h;simp
 ·have:V.int i≠V.int j:=fun e=>h (by injection e)
  simp[h,this]
theorem WaN{i j:Bool}:decide (V.bl i=V.bl j)=decide (i=j):=by cases i<;>cases j<;>rfl
theorem Wax{i j:Str}:decide (V.str i=V.str j)=decide (i=j):=by
 by_cases h:i=j
 ·subst h;simp
 ·have:V.str i≠V.str j:=fun e=>h (by injection e)
  simp[h,this]
theorem Xw{op:CmpOp}{r:RD2}(ho:OpR X (compareOp op) (Yk X.K r))(ha:ED X a ta)(hb:ED X b tb)(hm:behindInMarks op b=false:=by first | exact wa0 _ | rfl):ED X (.Compare a [op] [b] pos) (Wb r ta tb):=
 (kbk ho ha hb hm).wk fun _ _ _ h=>jal h
@[irreducible] def Xd(t:TDE):TDT:=fun σ M Q=>t σ M fun x M'=>∃k,x=.bl k/\Q k M'
theorem WL{t:TDE}{σ:SD}{M:HpD}{Q:Bool->HpD->Prop}(h:t σ M fun x M'=>∃k,x=.bl k/\Q k M'):Xd t σ M Q:=by unfold Xd;exact h
theorem kf{op:CmpOp}{r:RD2}(ho:OpR X (compareOp op) (Yk X.K r))(ha:ED X a ta)(hb:ED X b tb)(hm:behindInMarks op b=false:=by first | exact wa0 _ | rfl):TD X (.Compare a [op] [b] pos) (Xd (Wb r ta tb)):=by
 refine(Xbg ho ha hb hm).wk fun σ H Q h=>?_
 obtain⟨F,σD,M,QD,rel,h,p⟩:=h
 unfold Xd Wb at h
 show(tOp (Yk X.K r) (Yg X.K ta) (Yg X.K tb)) σ H fun x H'=>∃k,x=.bl k/\Q k H'
 refine lE rel h fun d M1 v H1 f1 rel1 r1 h1=>?_
 refine lE rel1 h1 fun e M2 u H2 f2 rel2 r2 h2=>?_
 exact⟨F,d,e,M2,_,r1.mono f2,r2,rel2.hp,h2,fun x M3 v3 H3 f3 rh3 r3 w1_=>w1_.elim fun k z_=>z_.elim fun e3 q3=>⟨k,by subst e3;unfold RepD at r3;exact r3,p k M3 H3 ((f1.trans f2).trans f3) rh3 q3⟩⟩
@[irreducible] def ZQ:D->HpD->Bool->Prop:=fun d M k=>match d with
 | .non=>k=false
 | .bl b=>k=b
 | .int i=>k=(i != 0)
 | .str y=>y.length<=sizeLine/\k=((y.length:Int) != 0)
 | .lst ds=>k = !ds.isEmpty
 | .tup ds=>k = !ds.isEmpty
 | .ref p=>∃ds,M p=some (.lst ds)/\k = !ds.isEmpty
 | _=>False
@[irreducible] def jx(t:TDE):TDT:=fun σ M Q=>t σ M fun x M'=>∃k,ZQ x M' k/\Q k M'
theorem qae{t:TDE}{σ:SD}{M:HpD}{Q:Bool->HpD->Prop}(h:t σ M fun x M'=>∃k,ZQ x M' k/\Q k M'):jx t σ M Q:=by unfold jx;exact h
theorem waE{K:KF}{H:Hp}{M:HpD}{ds:List D}{xs:List V}(r:RepDs K H M ds xs):(!ds.isEmpty) = !xs.isEmpty:=by
 have:=r.length
 cases ds<;>cases xs<;>simp_all
theorem vN{e:Expr}{t:TDE}(h:ED X e t)(he:∀whole,isTrue e X.env whole=(do let v ←whole;standAt e.pos;holding [v] (truthy v)):=by intro _;rfl):TD X e (jx t):=by
 refine(jba h he).wk fun σ H Q h=>?_
 obtain⟨F,σD,M,QD,rel,h,p⟩:=h
 unfold jx at h
 refine lE rel h fun d M1 v H1 f1 rel1 r1 h1=>?_
 obtain⟨k,tr,q⟩:=h1
 refine⟨k,?_,p k M1 H1 f1 rel1.hp q⟩
 unfold ZQ at tr
 cases d with
 | non=>unfold RepD at r1;subst r1;exact tr
 | bl b=>unfold RepD at r1;subst r1;exact tr
 | int b=>unfold RepD at r1;subst r1;exact tr
 | str b=>unfold RepD at r1;subst r1;exact tr
 | ref a=>
  unfold RepD at r1;subst r1
  obtain⟨ds,e1,e2⟩:=tr
  obtain⟨o',e',xs,rfl,r⟩:=rel1.hp.at_ a _ e1
  exact .inl ⟨xs,.inl (.inl e'),by rw[e2];exact waE r⟩
 | ty n=>exact False.elim tr
 | fdc ks ds=>exact False.elim tr
 | tup ds=>
  unfold RepD at r1
  obtain⟨a,xs,rfl,h1,h2⟩:=r1
  exact .inr (.inl ⟨xs,h1.sq,by rw[show k=_ from tr];exact waE h2⟩)
 | lst ds=>
  unfold RepD at r1
  obtain⟨a,xs,rfl,h1,h2⟩:=r1
  exact .inl ⟨xs,h1.sq,by rw[show k=_ from tr];exact waE h2⟩
@[irreducible] def Wz(t u:TDT):TDT:=fun σ M Q=>t σ M fun c M1=>if c=true then u σ M1 Q else Q false M1
@[irreducible] def kD(t u:TDT):TDT:=fun σ M Q=>t σ M fun c M1=>if c=true then Q true M1 else u σ M1 Q
@[irreducible] def vG(t:TDT):TDT:=fun σ M Q=>t σ M fun c M1=>Q (!c) M1
theorem Z1{t u:TDT}{σ:SD}{M:HpD}{Q:Bool->HpD->Prop}(h:t σ M fun c M1=>if c=true then u σ M1 Q else Q false M1):Wz t u σ M Q:=by unfold Wz;exact h
theorem Ybe{t u:TDT}{σ:SD}{M:HpD}{Q:Bool->HpD->Prop}(h:t σ M fun c M1=>if c=true then Q true M1 else u σ M1 Q):kD t u σ M Q:=by unfold kD;exact h
theorem qa3{t:TDT}{σ:SD}{M:HpD}{Q:Bool->HpD->Prop}(h:t σ M fun c M1=>Q (!c) M1):vG t σ M Q:=by unfold vG;exact h
variable {rest:List Expr} {tA tB':TDT}
theorem Zal(ha:TD X a tA):WD X (.BoolOp .And [a] pos) tA:=qbl ha
theorem qM(ha:TD X a tA):WD X (.BoolOp .Or [a] pos) tA:=wbq ha
theorem qaf(ha:TD X a tA)(hb:WD X (.BoolOp .And (b::rest) pos) tB'):WD X (.BoolOp .And (a::b::rest) pos) (Wz tA tB'):=by
 refine(Zbs ha hb).wk fun σ H Q h=>?_
 obtain⟨F,σD,M,QD,rel,h,p⟩:=h
 unfold Wz at h
 refine lT rel h fun c M1 H1 f1 rel1 h1=>?_
 cases c with
 | true=>simp only[if_true]at h1 ⊢;exact lT rel1 h1 fun k M2 H2 f2 rel2 h2=>p k M2 H2 (f1.trans f2) rel2.hp h2
 | false=>simp only[ue,if_false]at h1 ⊢;exact p _ M1 H1 f1 rel1.hp h1
theorem vJ(ha:TD X a tA)(hb:WD X (.BoolOp .Or (b::rest) pos) tB'):WD X (.BoolOp .Or (a::b::rest) pos) (kD tA tB'):=by
 refine(jbx ha hb).wk fun σ H Q h=>?_
 obtain⟨F,σD,M,QD,rel,h,p⟩:=h
 unfold kD at h
 refine lT rel h fun c M1 H1 f1 rel1 h1=>?_
 cases c with
 | true=>simp only[if_true]at h1 ⊢;exact p _ M1 H1 f1 rel1.hp h1
 | false=>simp only[ue,if_false]at h1 ⊢;exact lT rel1 h1 fun k M2 H2 f2 rel2 h2=>p k M2 H2 (f1.trans f2) rel2.hp h2
theorem XQ(h:WD X a tA):TD X a tA:=h.pt
theorem Xad(ha:TD X a tA):TD X (.UnaryOp .Not a pos) (vG tA):=by
 refine(Wbr ha).wk fun σ H Q h=>?_
 obtain⟨F,σD,M,QD,rel,h,p⟩:=h
 unfold vG at h
 exact lT rel h fun c M1 H1 f1 rel1 h1=>p _ M1 H1 f1 rel1.hp h1
@[irreducible] def jy(ta tb:TDE):TDE:=fun σ M Q=>ta σ M fun x M1=>∃c,x=.bl c/\if c=true then tb σ M1 Q else Q (.bl false) M1
theorem vaJ{ta tb:TDE}{σ:SD}{M:HpD}{Q:KD}(h:ta σ M fun x M1=>∃c,x=.bl c/\if c=true then tb σ M1 Q else Q (.bl false) M1):jy ta tb σ M Q:=by unfold jy;exact h
theorem jac{op}{t:TDE}(h:ED X a t):ED X (.BoolOp op [a] pos) t:=Zbm h
theorem WS(ha:ED X a ta)(hb:ED X (.BoolOp .And (b::rest) pos) tb):ED X (.BoolOp .And (a::b::rest) pos) (jy ta tb):=by
 refine(Xbo ha hb).wk fun σ H Q h=>?_
 obtain⟨F,σD,M,QD,rel,h,p⟩:=h
 unfold jy at h
 refine lE rel h fun d M1 v H1 f1 rel1 r1 h1=>?_
 obtain⟨c,rfl,h1⟩:=h1
 unfold RepD at r1
 refine⟨c,r1,?_⟩
 cases c with
 | true=>simp only[if_true]at h1 ⊢;exact lE rel1 h1 fun k M2 v2 H2 f2 rel2 r2 h2=>p k M2 v2 H2 (f1.trans f2) rel2.hp r2 h2
 | false=>simp only[ue,if_false]at h1 ⊢;exact p _ M1 _ H1 f1 rel1.hp (by unfold RepD;rfl) h1
end
@[irreducible] def Xa:TDA:=fun _ M Q=>Q [] M
@[irreducible] def Za(ta:TDE)(tr:TDA):TDA:=fun σ M Q=>ta σ M fun x M1=>tr σ M1 fun xs M2=>Q (x::xs) M2
theorem WZ{σ:SD}{M:HpD}{Q:List D->HpD->Prop}(h:Q [] M):Xa σ M Q:=by unfold Xa;exact h
theorem vam{ta:TDE}{tr:TDA}{σ:SD}{M:HpD}{Q:List D->HpD->Prop}(h:ta σ M fun x M1=>tr σ M1 fun xs M2=>Q (x::xs) M2):Za ta tr σ M Q:=by unfold Za;exact h
@[irreducible] def newL(ds:List D)(M:HpD)(Q:KD):Prop:=ds.length<=sizeLine/\(Q (.lst ds) M\/∀p,M p=none->Q (.ref p) (wc M p (.lst ds)))
theorem Xg{ds:List D}{M:HpD}{Q:KD}(h:ds.length<=sizeLine)(q:Q (.lst ds) M):newL ds M Q:=by unfold newL;exact⟨h,.inl q⟩
theorem newM{ds:List D}{M:HpD}{Q:KD}(h:ds.length<=sizeLine)(q:∀p,M p=none->Q (.ref p) (wc M p (.lst ds))):newL ds M Q:=by unfold newL;exact⟨h,.inr q⟩
section
variable {K:KF} {H:Hp} {M:HpD}
theorem newL.post{ds:List D}{QD:KD}{Q:VK}{xs:List V}(h:newL ds M QD)(p:PostE K M H QD Q)(rh:RepH K H M)(r:RepDs K H M ds xs):xs.length<=sizeLine/\∀l,H l=none->Q (.ref l) (upd H l (.lst xs)):=by
 unfold newL at h
 obtain⟨hl,h⟩:=h
 refine⟨by rw[←r.length];exact hl,fun l e=>?_⟩
 rcases h with h | h
 ·exact p _ M _ _ (Wm e) (rh.new e) (by unfold RepD;exact⟨l,xs,rfl,.inl ⟨.inl Wg,rh.free e,rh.nf e⟩,r.mono (Wm e)⟩) h
 ·exact p _ (wc M l (.lst ds)) _ _ (XF e (rh.free e)) (rh.newM e ⟨xs,rfl,r⟩) (by unfold RepD;rfl) (h l (rh.free e))
end
@[irreducible] def jf(t:TDA):TDE:=fun σ M Q=>t σ M fun ds M1=>ds.length<=sizeLine/\Q (.tup ds) M1
@[irreducible] def jg(t:TDA):TDE:=fun σ M Q=>t σ M fun ds M1=>newL ds M1 Q
theorem Xax{t:TDA}{σ:SD}{M:HpD}{Q:KD}(h:t σ M fun ds M1=>ds.length<=sizeLine/\Q (.tup ds) M1):jf t σ M Q:=by unfold jf;exact h
theorem vaz{t:TDA}{σ:SD}{M:HpD}{Q:KD}(h:t σ M fun ds M1=>newL ds M1 Q):jg t σ M Q:=by unfold jg;exact h
section
variable {X:Cx} {e:Expr} {es:List Expr} {te:TDE} {t:TDA} {pos:Pos}
theorem Xo:AD X [] Xa:=by
 refine pa_nil.wk fun σ H Q w1_=>w1_.elim fun F z_=>z_.elim fun σD z_=>z_.elim fun M z_=>z_.elim fun QD z_=>z_.elim fun rel z_=>z_.elim fun h p=>?_
 unfold Xa at h
 exact p _ M _ H .refl rel.hp .nil h
theorem vk(ha:ED X e te)(hr:AD X es t)(hs:starEach (e::es) X.env=(false,eval e X.env)::starEach es X.env:=by rfl):AD X (e::es) (Za te t):=by
 refine(WB ha hr hs).wk fun σ H Q w1_=>w1_.elim fun F z_=>z_.elim fun σD z_=>z_.elim fun M z_=>z_.elim fun QD z_=>z_.elim fun rel z_=>z_.elim fun h p=>?_
 unfold Za at h
 refine lE rel h fun d M1 v H1 f1 rel1 r1 h1=>?_
 exact lA rel1 h1 fun ds M2 vs H2 f2 rel2 r2 h2=>p _ M2 _ H2 (f1.trans f2) rel2.hp (.cons (r1.mono f2) r2) h2
theorem Xi{x1}(h:AD X es t):ED X (.Tuple es x1 pos) (jf t):=by
 refine(jbv h).wk fun σ H Q w1_=>w1_.elim fun F z_=>z_.elim fun σD z_=>z_.elim fun M z_=>z_.elim fun QD z_=>z_.elim fun rel z_=>z_.elim fun h p=>?_
 unfold jf at h
 refine lA rel h fun ds M1 vs H1 f1 rel1 r1 h1=>?_
 refine⟨by rw[←r1.length];exact h1.1,fun l e=>?_⟩
 exact p _ M1 _ _ (f1.trans (Wm e)) (rel1.hp.new e) (by unfold RepD;exact⟨l,vs,rfl,.inl ⟨.inl Wg,rel1.hp.free e,rel1.hp.nf e⟩,r1.mono (Wm e)⟩) h1.2
theorem Yj(h:AD X es t):ED X (.List es pos) (jg t):=by
 refine(vbp h).wk fun σ H Q w1_=>w1_.elim fun F z_=>z_.elim fun σD z_=>z_.elim fun M z_=>z_.elim fun QD z_=>z_.elim fun rel z_=>z_.elim fun h p=>?_
 unfold jg at h
 exact lA rel h fun ds M1 vs H1 f1 rel1 r1 h1=>h1.post (p.mono f1) rel1.hp r1
end
noncomputable def kn:D->HpD->Option (List D)
 | .lst ds,_=>some ds
 | .tup ds,_=>some ds
 | .ref p,M=>match M p with | some (.lst ds)=>some ds | _=>none
 | _,_=>none
theorem ke{p:Addr}{M:HpD}{ds:List D}(h:M p=some (.lst ds)):kn (.ref p) M=some ds:=by simp only[kn,h]
theorem WO{K:KF}{H:Hp}{M:HpD}{d:D}{v:V}{ds:List D}(rh:RepH K H M)(r:RepD K H M d v)(e:kn d M=some ds):∃p xs,v=.ref p/\(SqL K.K H p xs\/SqT K.K H p xs)/\RepDs K H M ds xs:=by
 cases d with
 | lst ds'=>
  cases e
  unfold RepD at r
  obtain⟨a,xs,rfl,h1,h2⟩:=r
  exact⟨a,xs,rfl,.inl h1.sq,h2⟩
 | tup ds'=>
  cases e
  unfold RepD at r
  obtain⟨a,xs,rfl,h1,h2⟩:=r
  exact⟨a,xs,rfl,.inr h1.sq,h2⟩
 | ref p=>
  cases q:M p with
  | none=>simp only[kn,q]at e;cases e
  | some o=>
   cases o with
   | lst es=>
    simp only[kn,q]at e;cases e
    obtain⟨o',e',xs,rfl,h2⟩:=rh.at_ p _ q
    unfold RepD at r
    exact⟨p,xs,r,.inl (.inl (.inl e')),h2⟩
   | dct kvs=>simp only[kn,q]at e;cases e
   | tab _=>simp only[kn,q]at e;cases e
   | dtt _=>simp only[kn,q]at e;cases e
 | _=>cases e
theorem wbh{K:KF}{H:Hp}{M:HpD}{ds:List D}{xs:List V}{i:Int}{d:D}(r:RepDs K H M ds xs)(e:atI ds i=some d):∃v,atI xs i=some v/\RepD K H M d v:=by
 unfold atI at e ⊢
 rw[←r.length]
 cases q:ixN ds.length i with
 | none=>rw[q]at e;cases e
 | some j=>
  rw[q]at e
  exact r.get e
@[irreducible] def Zh:RD2:=fun x y M Q=>∃ds i d,y=.int i/\kn x M=some ds/\atI ds i=some d/\Q d M
theorem vq{x:D}{i:Int}{M:HpD}{Q:KD}{ds:List D}{d:D}(h:kn x M=some ds)(e:atI ds i=some d)(q:Q d M):Zh x (.int i) M Q:=by unfold Zh;exact⟨ds,i,d,rfl,h,e,q⟩
theorem IxR.wk{X:Cx}{r r':R2}(h:IxR X r)(i:∀x y H Q,r' x y H Q->r x y H Q):IxR X r':=fun va sl pins s σ H x y v u Q I rx ry q=>h va sl pins s σ H x y v u Q I rx ry (i _ _ _ _ q)
section
variable {X:Cx} {a b:Expr} {ta tb:TDE} {pos:Pos}
theorem Wbx:IxR X (Yk X.K Zh):=by
 refine(ix_list.or qbu).wk fun x y H Q w1_=>w1_.elim fun F z_=>z_.elim fun d z_=>z_.elim fun e z_=>z_.elim fun M z_=>z_.elim fun QD z_=>z_.elim fun r1 z_=>z_.elim fun r2 z_=>z_.elim fun rh z_=>z_.elim fun hq p=>?_
 unfold Zh at hq
 obtain⟨ds,i,z,rfl,e1,e2,q⟩:=hq
 unfold RepD at r2
 obtain⟨a,xs,rfl,hs,r⟩:=WO rh r1 e1
 obtain⟨v,e3,r3⟩:=wbh r e2
 rcases hs with hs | hs
 ·exact .inl ⟨a,xs,i,v,rfl,r2,hs,e3,p _ M _ H .refl rh r3 q⟩
 ·exact .inr ⟨a,xs,i,v,rfl,r2,hs,e3,p _ M _ H .refl rh r3 q⟩
theorem Yi(ha:ED X a ta)(hb:ED X b tb)(hs:Yan b:=by exact fun _ _=>rfl):ED X (.Subscript a b pos) (Wb Zh ta tb):=(vbd Wbx ha hb hs).wk fun _ _ _ h=>jal h
end
noncomputable abbrev TDO:=SD->HpD->(Option Int->HpD->Prop)->Prop
def wau(K:uD)(t:TDO):TO:=fun σ H Q=>∃F σD M QD,Rel ⟨K,F⟩ σD M σ H/\t σD M QD/\∀b M' H',Fz M H M' H'->RepH ⟨K,F⟩ H' M'->QD b M'->Q b H'
@[irreducible] def jA:TDO:=fun _ M Q=>Q none M
@[irreducible] def wH(t:TDE):TDO:=fun σ M Q=>t σ M fun x M1=>∃i,x=.int i/\Q (some i) M1
theorem Z2{σ:SD}{M:HpD}{Q:Option Int->HpD->Prop}(h:Q none M):jA σ M Q:=by unfold jA;exact h
theorem Yai{t:TDE}{σ:SD}{M:HpD}{Q:Option Int->HpD->Prop}(h:t σ M fun x M1=>∃i,x=.int i/\Q (some i) M1):wH t σ M Q:=by unfold wH;exact h
theorem PO.wk{X:Cx}{e:Option Expr}{t t':TO}(h:PO X e t)(i:∀σ H Q,t' σ H Q->t σ H Q):PO X e t':=fun pins s σ H Q I q=>h pins s σ H Q I (i σ H Q q)
noncomputable def ZU(ds:List D)(lo hi:Option Int):List D:=(ds.drop (HT.sIx ds.length 0 lo)).take (HT.sIx ds.length ds.length hi - HT.sIx ds.length 0 lo)
noncomputable def Zd:D->HpD->Option (List D)
 | .lst ds,_=>some ds
 | .ref p,M=>match M p with | some (.lst ds)=>some ds | _=>none
 | _,_=>none
theorem vw{p:Addr}{M:HpD}{ds:List D}(h:M p=some (.lst ds)):Zd (.ref p) M=some ds:=by simp only[Zd,h]
theorem Zm{K:KF}{H:Hp}{M:HpD}{d:D}{v:V}{ds:List D}(rh:RepH K H M)(r:RepD K H M d v)(e:Zd d M=some ds):∃p xs,v=.ref p/\SqL K.K H p xs/\RepDs K H M ds xs:=by
 cases d with
 | lst ds'=>
  cases e
  unfold RepD at r
  obtain⟨a,xs,rfl,h1,h2⟩:=r
  exact⟨a,xs,rfl,h1.sq,h2⟩
 | ref p=>
  cases q:M p with
  | none=>simp only[Zd,q]at e;cases e
  | some o=>
   cases o with
   | lst es=>
    simp only[Zd,q]at e;cases e
    obtain⟨o',e',xs,rfl,h2⟩:=rh.at_ p _ q
    unfold RepD at r
    exact⟨p,xs,r,.inl (.inl e'),h2⟩
   | dct kvs=>simp only[Zd,q]at e;cases e
   | tab _=>simp only[Zd,q]at e;cases e
   | dtt _=>simp only[Zd,q]at e;cases e
 | _=>cases e
@[irreducible] def Y1(te:TDE)(tl th:TDO):TDE:=fun σ M Q=>te σ M fun x M1=>tl σ M1 fun l M2=>th σ M2 fun u M3=>∃ds,Zd x M3=some ds/\newL (ZU ds l u) M3 Q
theorem qaU{te:TDE}{tl th:TDO}{σ:SD}{M:HpD}{Q:KD}(h:te σ M fun x M1=>tl σ M1 fun l M2=>th σ M2 fun u M3=>∃ds,Zd x M3=some ds/\newL (ZU ds l u) M3 Q):Y1 te tl th σ M Q:=by unfold Y1;exact h
section
variable {X:Cx} {e:Expr} {te:TDE} {lo hi:Option Expr} {tl th:TDO} {pos p2:Pos}
theorem kaa:PO X none (wau X.K jA):=by
 refine po_none.wk fun σ H Q w1_=>w1_.elim fun F z_=>z_.elim fun σD z_=>z_.elim fun M z_=>z_.elim fun QD z_=>z_.elim fun rel z_=>z_.elim fun h p=>?_
 unfold jA at h
 exact p _ M H .refl rel.hp h
theorem qaa(h:ED X e te):PO X (some e) (wau X.K (wH te)):=by
 refine(Wbl h).wk fun σ H Q w1_=>w1_.elim fun F z_=>z_.elim fun σD z_=>z_.elim fun M z_=>z_.elim fun QD z_=>z_.elim fun rel z_=>z_.elim fun h p=>?_
 unfold wH at h
 refine lE rel h fun d M1 v H1 f1 rel1 r1 h1=>?_
 obtain⟨i,rfl,q⟩:=h1
 unfold RepD at r1
 exact⟨i,r1,p _ M1 H1 f1 rel1.hp q⟩
theorem RepDs.cut{K:KF}{H:Hp}{M:HpD}{ds:List D}{xs:List V}(r:RepDs K H M ds xs)(l u:Option Int):RepDs K H M (ZU ds l u) (Wan xs l u):=by
 unfold ZU Wan
 rw[r.length]
 exact(r.drop _).take _
theorem j8(he:ED X e te)(hl:PO X lo (wau X.K tl))(hu:PO X hi (wau X.K th)):ED X (.Subscript e (.Slice lo hi none p2) pos) (Y1 te tl th):=by
 refine(qa6 wbf he hl hu).wk fun σ H Q w1_=>w1_.elim fun F z_=>z_.elim fun σD z_=>z_.elim fun M z_=>z_.elim fun QD z_=>z_.elim fun rel z_=>z_.elim fun h p=>?_
 unfold Y1 at h
 refine lE rel h fun d M1 v H1 f1 rel1 r1 h1=>?_
 refine⟨F,σD,M1,_,rel1,h1,fun l M2 H2 f2 rh2 h2=>?_⟩
 have rel2:=rel1.mono f2 rh2
 refine⟨F,σD,M2,_,rel2,h2,fun u M3 H3 f3 rh3 h3=>?_⟩
 obtain⟨ds,e1,h3⟩:=h3
 have r3:=(r1.mono f2).mono f3
 have pp:=p.mono ((f1.trans f2).trans f3)
 obtain⟨a,xs,rfl,hs,r⟩:=Zm rh3 r3 e1
 exact⟨a,xs,rfl,hs,(h3.post pp rh3 (r.cut l u)).2⟩
end
noncomputable abbrev SpD:=List D->HpD->KD->Prop
def YH(K:uD)(sp:SpD):Sp:=fun vs H Q _=>∃F ds M QD,RepDs ⟨K,F⟩ H M ds vs/\RepH ⟨K,F⟩ H M/\sp ds M QD/\PostE ⟨K,F⟩ M H QD Q
def Cal(P:Program)(w:World)(K:uD)(mg:Str->Option Value)(base:Heap)(x:Str)(k:Nat)(sp:SpD):Prop:=
 ∃(f:Addr) (fd:FuncData) (ps:List Str),ZE P w K mg base CX0 k f fd ps (YH K sp)/\mg x=some (.ref f)/\yD K (.ref f)=true/\Binds K fd ps []
@[irreducible] def Wa(sp:SpD)(t:TDA):TDE:=fun σ M Q=>t σ M fun ds M1=>sp ds M1 Q
theorem jaj{sp:SpD}{t:TDA}{σ:SD}{M:HpD}{Q:KD}(h:t σ M fun ds M1=>sp ds M1 Q):Wa sp t σ M Q:=by unfold Wa;exact h
section
variable {X:Cx} {x:Str} {e:Expr} {es:List Expr} {t:TDA} {p pos:Pos} {sp:SpD} {k:Nat}
theorem qaX{K:uD}{σ:St}{H:Hp}{Q:VK}(h:Yg K (Wa sp t) σ H Q):jaS (YH K sp) [] E0 (Zai K t) σ H Q:=by
 obtain⟨F,σD,M,QD,rel,h,p⟩:=h
 unfold Wa at h
 refine lA rel h fun ds M1 vs H1 f1 rel1 r1 h1=>?_
 rw[List.append_nil]
 exact⟨F,ds,M1,QD,r1,rel1.hp,h1,p.mono f1⟩
theorem kbj(hc:Cal X.prog X.w X.K X.mg X.base x k sp)(hr:Room k X.A)(hg:Gl X x)(ha:AD X (e::es) t)(hdb:(x==("__debug__":Str))=false:=by decide)
  (he:starEach (e::es) X.env=(false,eval e X.env)::starEach es X.env:=by rfl) (hpl:(backTo pos (starEach es X.env)).any (·.1)=false:=by rfl):ED X (.Call (.Name x p) (e::es) [] pos) (Wa sp t):=by
 obtain⟨f,fd,ps,F,hm,hk,hb⟩:=hc
 exact(vbf F hr hg hm hk hb .nil wbd ha hdb he hpl).wk fun _ _ _ h=>qaX h
theorem Wa7(hc:Cal X.prog X.w X.K X.mg X.base x k sp)(hr:Room k X.A)(hg:Gl X x)(hdb:(x==("__debug__":Str))=false:=by decide):ED X (.Call (.Name x p) [] [] pos) (Wa sp Xa):=by
 obtain⟨f,fd,ps,F,hm,hk,hb⟩:=hc
 refine(ja9 F hr hg hm hk hb .nil wbd hdb).wk fun σ H Q h=>?_
 obtain⟨F,σD,M,QD,rel,h,p⟩:=h
 unfold Wa Xa at h
 exact⟨F,[],M,QD,.nil,rel.hp,h,p⟩
noncomputable abbrev RDn:=List D->HpD->KD->Prop
def wt(K:uD)(r:RDn):List V->Hp->VK->Prop:=fun vs H Q=>∃F ds M QD,RepDs ⟨K,F⟩ H M ds vs/\RepH ⟨K,F⟩ H M/\r ds M QD/\PostE ⟨K,F⟩ M H QD Q
theorem CallR.wk{f:Value}{r r':List V->Hp->VK->Prop}(h:CallR X f r)(i:∀x H Q,r' x H Q->r x H Q):CallR X f r':=fun pins s σ H xs us Q I rx q=>h pins s σ H xs us Q I rx (i _ _ _ q)
theorem vaK{K:uD}{r:RDn}{σ:St}{H:Hp}{Q:VK}(h:Yg K (Wa r t) σ H Q):tCB (wt K r) (Zai K t) σ H Q:=by
 obtain⟨F,σD,M,QD,rel,h,p⟩:=h
 unfold Wa at h
 refine lA rel h fun ds M1 vs H1 f1 rel1 r1 h1=>?_
 exact⟨F,ds,M1,QD,r1,rel1.hp,h1,p.mono f1⟩
theorem je{id:String}{r:RDn}(hc:CallR X (.builtin id) (wt X.K r))(hg:Gl X x)(hm:X.mg x=none)(hv:bootBuiltins x=some (.builtin id))(ha:AD X (e::es) t)(hn:x≠"__name__":=by decide)(hdb:(x==("__debug__":Str))=false:=by decide)
  (he:starEach (e::es) X.env=(false,eval e X.env)::starEach es X.env:=by rfl) (hpl:(backTo pos (starEach es X.env)).any (·.1)=false:=by rfl):ED X (.Call (.Name x p) (e::es) [] pos) (Wa r t):=
 (Wba hc hg hm hv ha hn hdb he hpl).wk fun _ _ _ h=>vaK h
theorem jk{T:String}{r:RDn}(hc:CallR X (.type T) (wt X.K r))(hg:Gl X x)(hm:X.mg x=none)(hv:bootBuiltins x=some (.type T))(ha:AD X (e::es) t)(hn:x≠"__name__":=by decide)(hdb:(x==("__debug__":Str))=false:=by decide)
  (he:starEach (e::es) X.env=(false,eval e X.env)::starEach es X.env:=by rfl) (hpl:(backTo pos (starEach es X.env)).any (·.1)=false:=by rfl):ED X (.Call (.Name x p) (e::es) [] pos) (Wa r t):=
 (jaX hc hg hm hv ha hn hdb he hpl).wk fun _ _ _ h=>vaK h
theorem jE{K:KF}{H:Hp}{M:HpD}{d:D}{vs:List V}(r:RepDs K H M [d] vs):∃v,vs=[v]/\RepD K H M d v:=by
 unfold RepDs at r
 obtain⟨x,r',e,h1,h2⟩:=r
 unfold RepDs at h2
 subst h2 e
 exact⟨x,rfl,h1⟩
theorem jak{K:KF}{H:Hp}{M:HpD}{d e:D}{vs:List V}(r:RepDs K H M [d,e] vs):∃v u,vs=[v,u]/\RepD K H M d v/\RepD K H M e u:=by
 unfold RepDs at r
 obtain⟨x,r',e,h1,h2⟩:=r
 obtain⟨u,e2,h3⟩:=jE h2
 subst e2 e
 exact⟨x,u,rfl,h1,h3⟩
@[irreducible] def Zl:RDn:=fun xs M Q=>∃d ds,xs=[d]/\kn d M=some ds/\Q (.int ds.length) M
theorem jr{d:D}{ds:List D}{M:HpD}{Q:KD}(h:kn d M=some ds)(q:Q (.int ds.length) M):Zl [d] M Q:=by unfold Zl;exact⟨d,ds,rfl,h,q⟩
theorem Yn:CallR X (.builtin "len") (wt X.K Zl):=by
 refine call_len_seq.wk fun xs H Q w1_=>w1_.elim fun F z_=>z_.elim fun ds z_=>z_.elim fun M z_=>z_.elim fun QD z_=>z_.elim fun r z_=>z_.elim fun rh z_=>z_.elim fun hq p=>?_
 unfold Zl at hq
 obtain⟨d,es,rfl,e1,q⟩:=hq
 obtain⟨v,rfl,r1⟩:=jE r
 obtain⟨a,ys,rfl,hs,r2⟩:=WO rh r1 e1
 exact⟨a,ys,rfl,hs,p _ M _ H .refl rh (by unfold RepD;rw[r2.length]) q⟩
@[irreducible] def qz:RDn:=fun xs M Q=>∃d ds,xs=[d]/\kn d M=some ds/\newL ds M Q
theorem ZL{d:D}{ds:List D}{M:HpD}{Q:KD}(h:kn d M=some ds)(q:newL ds M Q):qz [d] M Q:=by unfold qz;exact⟨d,ds,rfl,h,q⟩
theorem YL:CallR X (.type "list") (wt X.K qz):=by
 refine call_list_of.wk fun xs H Q w1_=>w1_.elim fun F z_=>z_.elim fun ds z_=>z_.elim fun M z_=>z_.elim fun QD z_=>z_.elim fun r z_=>z_.elim fun rh z_=>z_.elim fun hq p=>?_
 unfold qz at hq
 obtain⟨d,es,rfl,e1,q⟩:=hq
 obtain⟨v,rfl,r1⟩:=jE r
 obtain⟨a,ys,rfl,hs,r2⟩:=WO rh r1 e1
 exact⟨a,ys,rfl,hs,(q.post p rh r2).2⟩
@[irreducible] def X6:RDn:=fun xs M Q=>∃i j,xs=[.int i,.int j]/\Q (.int (max i j)) M
@[irreducible] def X3:RDn:=fun xs M Q=>∃i j,xs=[.int i,.int j]/\Q (.int (min i j)) M
theorem XaJ{i j:Int}{M:HpD}{Q:KD}(q:Q (.int (max i j)) M):X6 [.int i,.int j] M Q:=by unfold X6;exact⟨i,j,rfl,q⟩
theorem jaM{i j:Int}{M:HpD}{Q:KD}(q:Q (.int (min i j)) M):X3 [.int i,.int j] M Q:=by unfold X3;exact⟨i,j,rfl,q⟩
theorem Wbf(hc:X.calm=true:=by rfl):CallR X (.builtin "max") (wt X.K X6):=by
 refine(va4 hc).wk fun xs H Q w1_=>w1_.elim fun F z_=>z_.elim fun ds z_=>z_.elim fun M z_=>z_.elim fun QD z_=>z_.elim fun r z_=>z_.elim fun rh z_=>z_.elim fun hq p=>?_
 unfold X6 at hq
 obtain⟨i,j,rfl,q⟩:=hq
 obtain⟨v,u,rfl,r1,r2⟩:=jak r
 unfold RepD at r1 r2
 subst r1 r2
 rw[←show(if j > i then j else i)=max i j by split<;>lia]at q
 exact⟨i,j,rfl,p _ M _ H .refl rh (by unfold RepD;rfl) q⟩
theorem kbf(hc:X.calm=true:=by rfl):CallR X (.builtin "min") (wt X.K X3):=by
 refine(vaZ hc).wk fun xs H Q w1_=>w1_.elim fun F z_=>z_.elim fun ds z_=>z_.elim fun M z_=>z_.elim fun QD z_=>z_.elim fun r z_=>z_.elim fun rh z_=>z_.elim fun hq p=>?_
 unfold X3 at hq
 obtain⟨i,j,rfl,q⟩:=hq
 obtain⟨v,u,rfl,r1,r2⟩:=jak r
 unfold RepD at r1 r2
 subst r1 r2
 rw[←show(if j<i then j else i)=min i j by split<;>lia]at q
 exact⟨i,j,rfl,p _ M _ H .refl rh (by unfold RepD;rfl) q⟩
end
section
variable {K:uD} {F:Addr->Prop} {σ:St} {H:Hp} {σD:SD} {M:HpD}
theorem lS{ta:TSD}{DD:jn}{D':wU}(rel:Rel ⟨K,F⟩ σD M σ H)(h:ta DD σD M)(p:PostS ⟨K,F⟩ M H DD D'):wag K ta D' σ H:=⟨F,σD,M,DD,rel,h,p⟩
end
noncomputable abbrev TDG:=D->SD->HpD->(SD->HpD->Prop)->Prop
noncomputable abbrev wP:=List D->SD->HpD->(SD->HpD->Prop)->Prop
def PostG(K:KF)(M:HpD)(H:Hp)(QD:SD->HpD->Prop)(Q:St->Hp->Prop):Prop:=∀σD' M' σ' H',Fz M H M' H'->Rel K σD' M' σ' H'->QD σD' M'->Q σ' H'
theorem PostG.mono{K:KF}{H H':Hp}{M M':HpD}{QD:SD->HpD->Prop}{Q:St->Hp->Prop}(p:PostG K M H QD Q)(f:Fz M H M' H'):PostG K M' H' QD Q:=fun a b c d f2 r h=>p a b c d (f.trans f2) r h
def ZH(K:uD)(t:TDG):TG:=fun v σ H Q=>∃F d σD M QD,Rel ⟨K,F⟩ σD M σ H/\RepD ⟨K,F⟩ H M d v/\t d σD M QD/\PostG ⟨K,F⟩ M H QD Q
def kbm(K:uD)(t:wP):TGs:=fun v σ H Q=>∃F d σD M QD,Rel ⟨K,F⟩ σD M σ H/\RepDs ⟨K,F⟩ H M d v/\t d σD M QD/\PostG ⟨K,F⟩ M H QD Q
theorem PG.wk{X:Cx}{e:Expr}{t t':TG}(h:PG X e t)(i:∀v σ H Q,t' v σ H Q->t v σ H Q):PG X e t':=fun pins s σ H v u Q I r q=>h pins s σ H v u Q I r (i v σ H Q q)
theorem PGs.wk{X:Cx}{e:List Expr}{t t':TGs}(h:PGs X e t)(i:∀v σ H Q,t' v σ H Q->t v σ H Q):PGs X e t':=fun pins s σ H v u Q I r q=>h pins s σ H v u Q I r (i v σ H Q q)
abbrev GD(X:Cx)(e:Expr)(t:TDG):Prop:=PG X e (ZH X.K t)
abbrev GsD(X:Cx)(e:List Expr)(t:wP):Prop:=PGs X e (kbm X.K t)
@[irreducible] def Zb(i:Nat):TDG:=fun d σ M Q=>Q (σ.set i (some d)) M
@[irreducible] def Xj:wP:=fun ds σ M Q=>ds=[]/\Q σ M
@[irreducible] def qc(t:TDG)(u:wP):wP:=fun ds σ M Q=>∃d r,ds=d::r/\t d σ M fun σ' M'=>u r σ' M' Q
@[irreducible] def jl(n:Nat)(t:wP):TDG:=fun d σ M Q=>∃ds,d=.tup ds/\ds.length=n/\t ds σ M Q
theorem jj{i:Nat}{d:D}{σ:SD}{M:HpD}{Q:SD->HpD->Prop}(h:Q (σ.set i (some d)) M):Zb i d σ M Q:=by unfold Zb;exact h
theorem Xal{σ:SD}{M:HpD}{Q:SD->HpD->Prop}(h:Q σ M):Xj [] σ M Q:=by unfold Xj;exact⟨rfl,h⟩
theorem kE{t:TDG}{u:wP}{d:D}{r:List D}{σ:SD}{M:HpD}{Q:SD->HpD->Prop}(h:t d σ M fun σ' M'=>u r σ' M' Q):qc t u (d::r) σ M Q:=by unfold qc;exact⟨d,r,rfl,h⟩
theorem qak{n:Nat}{t:wP}{ds:List D}{σ:SD}{M:HpD}{Q:SD->HpD->Prop}(hn:ds.length=n)(h:t ds σ M Q):jl n t (.tup ds) σ M Q:=by unfold jl;exact⟨ds,rfl,hn,h⟩
section
variable {X:Cx} {pos:Pos}
theorem Wbh(i:Nat){x:Str}(hN:X.N.Nodup)(hi:X.N[i]?=some x)(hx:Loc X.env.scope x)(hf:X.fn x=true\/X.env.scope.names.lookup x=some .local:=by first | exact .inl rfl | exact .inr rfl | assumption):GD X (.Name x pos) (Zb i):=by
 refine(Ybj hN hi hx hf).wk fun v σ H Q w1_=>w1_.elim fun F z_=>z_.elim fun d z_=>z_.elim fun σD z_=>z_.elim fun M z_=>z_.elim fun QD z_=>z_.elim fun rel z_=>z_.elim fun r z_=>z_.elim fun h p=>?_
 unfold Zb at h
 exact p _ M _ H .refl (rel.set i r) h
theorem Wad:GsD X [] Xj:=by
 refine pgs_nil.wk fun v σ H Q w1_=>w1_.elim fun F z_=>z_.elim fun d z_=>z_.elim fun σD z_=>z_.elim fun M z_=>z_.elim fun QD z_=>z_.elim fun rel z_=>z_.elim fun r z_=>z_.elim fun h p=>?_
 unfold Xj at h
 obtain⟨rfl,h⟩:=h
 unfold RepDs at r
 exact⟨r,p _ M _ H .refl rel h⟩
theorem Yp{e:Expr}{es:List Expr}{t:TDG}{u:wP}(h1:GD X e t)(h2:GsD X es u)
  (hs:(assignEach (e::es) X.env).map (·.2)=assign e X.env::(assignEach es X.env).map (·.2):=by rfl):GsD X (e::es) (qc t u):=by
 refine(wa5 h1 h2 hs).wk fun v σ H Q w1_=>w1_.elim fun F z_=>z_.elim fun d z_=>z_.elim fun σD z_=>z_.elim fun M z_=>z_.elim fun QD z_=>z_.elim fun rel z_=>z_.elim fun r z_=>z_.elim fun h p=>?_
 unfold qc at h
 obtain⟨d0,ds,rfl,h⟩:=h
 unfold RepDs at r
 obtain⟨x,vr,rfl,r1,r2⟩:=r
 refine⟨x,vr,rfl,F,d0,σD,M,_,rel,r1,h,fun σ1 M1 σ1' H1 f1 rel1 h1=>?_⟩
 exact⟨F,ds,σ1,M1,QD,rel1,r2.mono f1,h1,p.mono f1⟩
theorem qo{es:List Expr}{k:Nat}{t:wP}{n:Nat}(h:GsD X es t)(hc:X.calm=true:=by rfl)
  (hn:(assignEach es X.env).length=n:=by rfl) (hst:(assignEach es X.env).findIdx? (·.1)=none:=by rfl):GD X (.Tuple es k pos) (jl n t):=by
 refine(kbu hc h hn hst).wk fun v σ H Q w1_=>w1_.elim fun F z_=>z_.elim fun d z_=>z_.elim fun σD z_=>z_.elim fun M z_=>z_.elim fun QD z_=>z_.elim fun rel z_=>z_.elim fun r z_=>z_.elim fun h p=>?_
 unfold jl at h
 obtain⟨ds,rfl,hl,h⟩:=h
 unfold RepD at r
 obtain⟨a,xs,rfl,hz,hr⟩:=r
 exact⟨a,xs,rfl,hz.sq,by rw[←hr.length];exact hl,F,ds,σD,M,QD,rel,hr,h,p⟩
@[irreducible] def kz(to ti:TDE):TDG:=fun v σ M Q=>to σ M fun o M1=>ti σ M1 fun i M2=>∃p ds k j,o=.ref p/\i=.int k/\M2 p=some (.lst ds)/\ixN ds.length k=some j/\Q σ (wc M2 p (.lst (ds.set j v)))
theorem Xai{to ti:TDE}{v:D}{σ:SD}{M:HpD}{Q:SD->HpD->Prop}(h:to σ M fun o M1=>ti σ M1 fun i M2=>∃p ds k j,o=.ref p/\i=.int k/\M2 p=some (.lst ds)/\ixN ds.length k=some j/\Q σ (wc M2 p (.lst (ds.set j v)))):kz to ti v σ M Q:=by unfold kz;exact h
theorem ZM{o i:Expr}{to ti:TDE}(ho:ED X o to)(hi:ED X i ti)
  (ha:∀v,assign (.Subscript o i pos) X.env v=(do
   let ov ←holding [v] (eval o X.env)
   let iv ←holding [v,ov] (eval i X.env)
   standAt pos
   holding [v,ov,iv] (setItem ov iv v)
   release [v,ov,iv] []):=by intro _;rfl):GD X (.Subscript o i pos) (kz to ti):=by
 refine(Ybr ho hi ka5 ha).wk fun v σ H Q w1_=>w1_.elim fun F z_=>z_.elim fun d z_=>z_.elim fun σD z_=>z_.elim fun M z_=>z_.elim fun QD z_=>z_.elim fun rel z_=>z_.elim fun r z_=>z_.elim fun h p=>?_
 unfold kz at h
 refine lE rel h fun od M1 ov H1 f1 rel1 r1 h1=>?_
 refine lE rel1 h1 fun id M2 iv H2 f2 rel2 r2 h2=>?_
 obtain⟨a,ds,k,j,rfl,rfl,e1,e2,q⟩:=h2
 unfold RepD at r1 r2
 obtain⟨o',e',xs,rfl,hr⟩:=rel2.hp.at_ a _ e1
 have rv:=r.mono (f1.trans f2)
 have r3:RepO ⟨X.K,F⟩ H2 M2 (.lst (ds.set j d)) (.lst (xs.set j v)):=⟨_,rfl,hr.set j rv⟩
 exact⟨a,xs,k,j,r1,r2,e',by rw[←hr.length];exact e2,p _ _ _ _ ((f1.trans f2).trans (wj e1)) (rel2.mono (wj e1) (rel2.hp.write e1 r3)) q⟩
end
@[irreducible] def vd:TSD:=fun DD σ M=>DD.nx σ M
@[irreducible] def Zc(t u:TSD):TSD:=fun DD σ M=>t {DD with nx:=u DD} σ M
@[irreducible] def kh(te:TDE):TSD:=fun DD σ M=>te σ M fun _ M1=>DD.nx σ M1
@[irreducible] def Zf(te:TDE):TSD:=fun DD σ M=>te σ M fun d M1=>DD.rt d M1\/∃a ds,d=.ref a/\M1 a=some (.lst ds)/\DD.rt (.lst ds) (js M1 a)
@[irreducible] def we(c:TDT)(t u:TSD):TSD:=fun DD σ M=>c σ M fun b M1=>if b=true then t DD σ M1 else u DD σ M1
@[irreducible] def jc(te:TDE)(g:TDG):TSD:=fun DD σ M=>te σ M fun d M1=>g d σ M1 DD.nx
section
variable {DD:jn} {σ:SD} {M:HpD}
theorem Zo(h:DD.nx σ M):vd DD σ M:=by unfold vd;exact h
theorem vS{t u:TSD}(h:t {DD with nx:=u DD} σ M):Zc t u DD σ M:=by unfold Zc;exact h
theorem qam{te:TDE}(h:te σ M fun _ M1=>DD.nx σ M1):kh te DD σ M:=by unfold kh;exact h
theorem Yae{te:TDE}(h:te σ M fun d M1=>DD.rt d M1\/∃a ds,d=.ref a/\M1 a=some (.lst ds)/\DD.rt (.lst ds) (js M1 a)):Zf te DD σ M:=by unfold Zf;exact h
theorem WH{c:TDT}{t u:TSD}(h:c σ M fun b M1=>if b=true then t DD σ M1 else u DD σ M1):we c t u DD σ M:=by unfold we;exact h
theorem YaF{te:TDE}{g:TDG}(h:te σ M fun d M1=>g d σ M1 DD.nx):jc te g DD σ M:=by unfold jc;exact h
end
section
variable {X:Cx} {pos:Pos} {st:Stmt} {rest:List Stmt} {t u:TSD} {e:Expr} {te:TDE}
theorem Wh:SsD X [] vd:=by
 refine pss_nil.wk fun D' σ H w1_=>w1_.elim fun F z_=>z_.elim fun σD z_=>z_.elim fun M z_=>z_.elim fun DD z_=>z_.elim fun rel z_=>z_.elim fun h p=>?_
 unfold vd at h
 exact p.nx _ M _ H .refl rel h
theorem jb(h1:StD X st t)(h2:SsD X rest u):SsD X (st::rest) (Zc t u):=by
 refine(va9 h1 h2).wk fun D' σ H w1_=>w1_.elim fun F z_=>z_.elim fun σD z_=>z_.elim fun M z_=>z_.elim fun DD z_=>z_.elim fun rel z_=>z_.elim fun h p=>?_
 unfold Zc at h
 exact lS rel h ⟨fun σD' M' σ' H' f rel' q=>lS rel' q (p.mono f),p.rt,p.bk,p.ct⟩
theorem kc(h1:StD X st t):SsD X [st] t:=vbg h1
theorem Xr(he:ED X e te)(hs:swapsWith e none pos.line X.env=pure false:=by rfl):StD X (.Expr e pos) (kh te):=by
 refine(jbh he hs).wk fun D' σ H w1_=>w1_.elim fun F z_=>z_.elim fun σD z_=>z_.elim fun M z_=>z_.elim fun DD z_=>z_.elim fun rel z_=>z_.elim fun h p=>?_
 unfold kh at h
 exact lE rel h fun d M1 v H1 f1 rel1 r1 h1=>p.nx _ M1 _ H1 f1 rel1 h1
theorem ve(he:ED X e te):StD X (.Return (some e) pos) (Zf te):=by
 refine(vbu he).wk fun D' σ H w1_=>w1_.elim fun F z_=>z_.elim fun σD z_=>z_.elim fun M z_=>z_.elim fun DD z_=>z_.elim fun rel z_=>z_.elim fun h p=>?_
 unfold Zf at h
 refine lE rel h fun d M1 v H1 f1 rel1 r1 h1=>?_
 rcases h1 with h1 | ⟨a,ds,rfl,e1,h1⟩
 ·exact p.rt d M1 v H1 f1 rel1.hp r1 h1
 ·unfold RepD at r1
  subst r1
  exact p.rt _ _ _ H1 (f1.trans WI) rel1.hp.del (.frz rel1.hp e1) h1
theorem Zj{c:Expr}{a b:List Stmt}{tc:TDT}(hc:TD X c tc)(ha:SsD X a t)(hb:SsD X b u):StD X (.If c a b pos) (we tc t u):=by
 refine(qby hc ha hb).wk fun D' σ H w1_=>w1_.elim fun F z_=>z_.elim fun σD z_=>z_.elim fun M z_=>z_.elim fun DD z_=>z_.elim fun rel z_=>z_.elim fun h p=>?_
 unfold we at h
 refine lT rel h fun b M1 H1 f1 rel1 h1=>?_
 cases b with
 | true=>simp only[if_true]at h1 ⊢;exact lS rel1 h1 (p.mono f1)
 | false=>simp only[ue,if_false]at h1 ⊢;exact lS rel1 h1 (p.mono f1)
theorem PostS.g{K:KF}{M:HpD}{H:Hp}{DD:jn}{D':wU}(p:PostS K M H DD D'):PostG K M H DD.nx D'.nx:=fun a b c d f r h=>p.nx a b c d f r h
theorem WE{tg:Expr}{g:TDG}(he:ED X e te)(hg:GD X tg g)(hs:swapsWithSole [tg] e pos.line X.env=pure false:=by rfl)(hw:swappedStores [tg] e X.env=pure none:=by rfl)
  (h1:(assignEach [tg] X.env).map (·.2)=[assign tg X.env]:=by rfl):StD X (.Assign [tg] e pos) (jc te g):=by
 refine(kbn he hg hs hw h1).wk fun D' σ H w1_=>w1_.elim fun F z_=>z_.elim fun σD z_=>z_.elim fun M z_=>z_.elim fun DD z_=>z_.elim fun rel z_=>z_.elim fun h p=>?_
 unfold jc at h
 exact lE rel h fun d M1 v H1 f1 rel1 r1 h1=>⟨F,d,σD,M1,DD.nx,rel1,r1,h1,(p.mono f1).g⟩
theorem qbv(i:Nat){x:Str}{pos':Pos}(hN:X.N.Nodup)(hi:X.N[i]?=some x)(hx:Loc X.env.scope x)(he:ED X e te)(hs:swapsWith e (some (.Name x pos')) pos.line X.env=pure false:=by rfl)(hf:X.fn x=true\/X.env.scope.names.lookup x=some .local:=by first | exact .inl rfl | exact .inr rfl | assumption) :
  StD X (.Assign [.Name x pos'] e pos) (jc te (Zb i)):=by
 refine(vbq hN hi hx he hs hf).wk fun D' σ H w1_=>w1_.elim fun F z_=>z_.elim fun σD z_=>z_.elim fun M z_=>z_.elim fun DD z_=>z_.elim fun rel z_=>z_.elim fun h p=>?_
 unfold jc at h
 refine lE rel h fun d M1 v H1 f1 rel1 r1 h1=>?_
 unfold Zb at h1
 exact(p.mono f1).nx _ M1 _ H1 .refl (rel1.set i r1) h1
end
noncomputable abbrev TDI:=SD->HpD->(List D->HpD->Prop)->Prop
def jaO(K:uD)(F:Addr->Prop)(J:It)(ds:List D)(M:HpD)(H:Hp):Prop:=
 ∀F' i M' H',(∀a,F' a->F a\/H a=none)->Fz M H M' H'->RepH ⟨K,F'⟩ H' M'->(∀d,ds[i]?=some d->J.go i H'/\∀x H3,J.yld i H' x H3->Fz M' H' M' H3/\RepH ⟨K,F'⟩ H3 M'/\RepD ⟨K,F'⟩ H3 M' d x)/\(ds.length<=i->J.stop i H')
def kbe(K:uD)(t:TDI):TI:=fun σ H R=>∃F σD M RD,Rel ⟨K,F⟩ σD M σ H/\t σD M RD/\∀ds M' H' J,Fz M H M' H'->RepH ⟨K,F⟩ H' M'->jaO K F J ds M' H'->RD ds M'->R J H'
theorem FzL.more{K:uD}{F F':Addr->Prop}{H:Hp}{M:HpD}{a:Addr}{xs:List V}(h:FzL ⟨K,F⟩ H M a xs)(hf:∀a,F' a->F a\/H a=none):FzL ⟨K,F'⟩ H M a xs:=by
 rcases h with ⟨h,m,n⟩ | h
 ·refine .inl ⟨h,m,fun z=>?_⟩
  rcases hf a z with q | q
  ·exact n q
  ·rcases h with h | ⟨o,h⟩<;>rw[q]at h<;>cases h
 ·exact .inr h
theorem FzT.more{K:uD}{F F':Addr->Prop}{H:Hp}{M:HpD}{a:Addr}{xs:List V}(h:FzT ⟨K,F⟩ H M a xs)(hf:∀a,F' a->F a\/H a=none):FzT ⟨K,F'⟩ H M a xs:=
 .inl ⟨.inl h.at_,h.no.1,fun z=>(hf a z).elim h.no.2 fun q=>by rw[h.at_]at q;cases q⟩
theorem FzK.more{K:uD}{F F':Addr->Prop}{H:Hp}{M:HpD}{a:Addr}{ks:List Key}{xs:List V}(h:FzK ⟨K,F⟩ H M a ks xs)(hf:∀a,F' a->F a\/H a=none):FzK ⟨K,F'⟩ H M a ks xs:=by
 obtain⟨⟨ob,e⟩,⟨m,n⟩,l⟩:=h
 exact⟨⟨ob,e⟩,⟨m,fun z=>(hf a z).elim n fun q=>by rw[e]at q;cases q⟩,l⟩
mutual
theorem RepD.more{K:uD}{F F':Addr->Prop}{H:Hp}{M:HpD}(hf:∀a,F' a->F a\/H a=none):∀{d:D} {v:V},RepD ⟨K,F⟩ H M d v->RepD ⟨K,F'⟩ H M d v
 | .non,_,h=>by unfold RepD at h ⊢;exact h
 | .bl _,_,h=>by unfold RepD at h ⊢;exact h
 | .int _,_,h=>by unfold RepD at h ⊢;exact h
 | .str _,_,h=>by unfold RepD at h ⊢;exact h
 | .ref _,_,h=>by unfold RepD at h ⊢;exact h
 | .ty _,_,h=>by unfold RepD at h ⊢;exact h
 | .tup ds,_,h=>by
  unfold RepD at h ⊢
  obtain⟨a,xs,e,h1,h2⟩:=h
  exact⟨a,xs,e,h1.more hf,RepDs.more hf h2⟩
 | .lst ds,_,h=>by
  unfold RepD at h ⊢
  obtain⟨a,xs,e,h1,h2⟩:=h
  exact⟨a,xs,e,h1.more hf,RepDs.more hf h2⟩
 | .fdc ks ds,_,h=>by
  unfold RepD at h ⊢
  obtain⟨a,xs,e,h1,h2⟩:=h
  exact⟨a,xs,e,h1.more hf,RepDs.more hf h2⟩
theorem RepDs.more{K:uD}{F F':Addr->Prop}{H:Hp}{M:HpD}(hf:∀a,F' a->F a\/H a=none):∀{ds:List D} {vs:List V},RepDs ⟨K,F⟩ H M ds vs->RepDs ⟨K,F'⟩ H M ds vs
 | [],_,h=>by unfold RepDs at h ⊢;exact h
 | d::ds,_,h=>by
  unfold RepDs at h ⊢
  obtain⟨x,r,e,h1,h2⟩:=h
  exact⟨x,r,e,RepD.more hf h1,RepDs.more hf h2⟩
end
theorem FzL.past{K:KF}{H:Hp}{M:HpD}{a p:Addr}{o:HO}{xs:List V}(h:FzL K H M a xs)(hp:K.F p):FzL K (upd H p o) M a xs:=by
 rcases h with ⟨h,m,n⟩ | h
 ·have q:a≠p:=fun z=>n (z▸hp)
  refine .inl ⟨?_,m,n⟩
  rcases h with h | ⟨u,h⟩
  ·exact .inl (by rw[Yd q];exact h)
  ·exact .inr ⟨u,by rw[Yd q];exact h⟩
 ·exact .inr h
theorem FzT.past{K:KF}{H:Hp}{M:HpD}{a p:Addr}{o:HO}{xs:List V}(h:FzT K H M a xs)(hp:K.F p):FzT K (upd H p o) M a xs:=
 .inl ⟨.inl (by rw[Yd (fun(z:a=p)=>h.no.2 (by rw[z];exact hp))];exact h.at_),h.no.1,h.no.2⟩
theorem FzK.past{K:KF}{H:Hp}{M:HpD}{a p:Addr}{o:HO}{ks:List Key}{xs:List V}(h:FzK K H M a ks xs)(hp:K.F p):FzK K (upd H p o) M a ks xs:=by
 obtain⟨⟨ob,e⟩,⟨m,n⟩,l⟩:=h
 exact⟨⟨ob,by rw[Yd (fun(z:a=p)=>n (by rw[z];exact hp))];exact e⟩,⟨m,n⟩,l⟩
mutual
theorem RepD.past{K:KF}{H:Hp}{M:HpD}{p:Addr}{o:HO}(hp:K.F p):∀{d:D} {v:V},RepD K H M d v->RepD K (upd H p o) M d v
 | .non,_,h=>by unfold RepD at h ⊢;exact h
 | .bl _,_,h=>by unfold RepD at h ⊢;exact h
 | .int _,_,h=>by unfold RepD at h ⊢;exact h
 | .str _,_,h=>by unfold RepD at h ⊢;exact h
 | .ref _,_,h=>by unfold RepD at h ⊢;exact h
 | .ty _,_,h=>by unfold RepD at h ⊢;exact h
 | .tup ds,_,h=>by
  unfold RepD at h ⊢
  obtain⟨a,xs,e,h1,h2⟩:=h
  exact⟨a,xs,e,h1.past hp,RepDs.past hp h2⟩
 | .lst ds,_,h=>by
  unfold RepD at h ⊢
  obtain⟨a,xs,e,h1,h2⟩:=h
  exact⟨a,xs,e,h1.past hp,RepDs.past hp h2⟩
 | .fdc ks ds,_,h=>by
  unfold RepD at h ⊢
  obtain⟨a,xs,e,h1,h2⟩:=h
  exact⟨a,xs,e,h1.past hp,RepDs.past hp h2⟩
theorem RepDs.past{K:KF}{H:Hp}{M:HpD}{p:Addr}{o:HO}(hp:K.F p):∀{ds:List D} {vs:List V},RepDs K H M ds vs->RepDs K (upd H p o) M ds vs
 | [],_,h=>by unfold RepDs at h ⊢;exact h
 | d::ds,_,h=>by
  unfold RepDs at h ⊢
  obtain⟨x,r,e,h1,h2⟩:=h
  exact⟨x,r,e,RepD.past hp h1,RepDs.past hp h2⟩
end
theorem RepO.more{K:uD}{F F':Addr->Prop}{H:Hp}{M:HpD}(hf:∀a,F' a->F a\/H a=none){d:OD}{o:HO}(h:RepO ⟨K,F⟩ H M d o):RepO ⟨K,F'⟩ H M d o:=by
 cases d with
 | lst ds=>obtain⟨xs,e,r⟩:=h;exact⟨xs,e,r.more hf⟩
 | dct kvs=>obtain⟨vs,e,k,r⟩:=h;exact⟨vs,e,k,r.more hf⟩
 | dtt kvs=>obtain⟨vs,e,k,r⟩:=h;exact⟨vs,e,k,r.more hf⟩
 | tab q=>exact TabE.imp h fun c oc u e m n=>⟨e,m,fun z=>(hf c z).elim n fun y=>by rw[e]at y;cases y⟩
theorem RepO.past{K:KF}{H:Hp}{M:HpD}{p:Addr}{o:HO}(hp:K.F p){d:OD}{u:HO}(h:RepO K H M d u):RepO K (upd H p o) M d u:=by
 cases d with
 | lst ds=>obtain⟨xs,e,r⟩:=h;exact⟨xs,e,r.past hp⟩
 | dct kvs=>obtain⟨vs,e,k,r⟩:=h;exact⟨vs,e,k,r.past hp⟩
 | dtt kvs=>obtain⟨vs,e,k,r⟩:=h;exact⟨vs,e,k,r.past hp⟩
 | tab q=>exact TabE.imp h fun c oc u e m n=>⟨by rw[Yd (fun z=>n (by rw[z];exact hp))];exact e,m,n⟩
theorem FzL.own{K:uD}{F F':Addr->Prop}{H:Hp}{M:HpD}{p a:Addr}{o:OD}{xs:List V}(h:FzL ⟨K,F'⟩ H M a xs)(hp:F' p)(hf:∀a,F a->F' a\/H a=none):FzL ⟨K,F⟩ H (wc M p o) a xs:=by
 rcases h with ⟨h,m,n⟩ | h
 ·refine .inl ⟨h,by rw[Xb (fun(z:a=p)=>n (by show F' a;rw[z];exact hp))];exact m,fun z=>?_⟩
  rcases hf a z with q | q
  ·exact n q
  ·rcases h with h | ⟨o,h⟩<;>rw[q]at h<;>cases h
 ·exact .inr h
theorem FzT.own{K:uD}{F F':Addr->Prop}{H:Hp}{M:HpD}{p a:Addr}{o:OD}{xs:List V}(h:FzT ⟨K,F'⟩ H M a xs)(hp:F' p)(hf:∀a,F a->F' a\/H a=none):FzT ⟨K,F⟩ H (wc M p o) a xs:=
 .inl ⟨.inl h.at_,by rw[Xb (fun(z:a=p)=>h.no.2 (by show F' a;rw[z];exact hp))];exact h.no.1,fun z=>(hf a z).elim h.no.2 fun q=>by rw[h.at_]at q;cases q⟩
theorem FzK.own{K:uD}{F F':Addr->Prop}{H:Hp}{M:HpD}{p a:Addr}{o:OD}{ks:List Key}{xs:List V}(h:FzK ⟨K,F'⟩ H M a ks xs)(hp:F' p)(hf:∀a,F a->F' a\/H a=none):FzK ⟨K,F⟩ H (wc M p o) a ks xs:=by
 obtain⟨⟨ob,e⟩,⟨m,n⟩,l⟩:=h
 exact⟨⟨ob,e⟩,⟨by rw[Xb (fun(z:a=p)=>n (by show F' a;rw[z];exact hp))];exact m,fun z=>(hf a z).elim n fun q=>by rw[e]at q;cases q⟩,l⟩
mutual
theorem RepD.own{K:uD}{F F':Addr->Prop}{H:Hp}{M:HpD}{p:Addr}{o:OD}(hp:F' p)(hf:∀a,F a->F' a\/H a=none):∀{d:D} {v:V},RepD ⟨K,F'⟩ H M d v->RepD ⟨K,F⟩ H (wc M p o) d v
 | .non,_,h=>by unfold RepD at h ⊢;exact h
 | .bl _,_,h=>by unfold RepD at h ⊢;exact h
 | .int _,_,h=>by unfold RepD at h ⊢;exact h
 | .str _,_,h=>by unfold RepD at h ⊢;exact h
 | .ref _,_,h=>by unfold RepD at h ⊢;exact h
 | .ty _,_,h=>by unfold RepD at h ⊢;exact h
 | .tup ds,_,h=>by
  unfold RepD at h ⊢
  obtain⟨a,xs,e,h1,h2⟩:=h
  exact⟨a,xs,e,h1.own hp hf,RepDs.own hp hf h2⟩
 | .lst ds,_,h=>by
  unfold RepD at h ⊢
  obtain⟨a,xs,e,h1,h2⟩:=h
  exact⟨a,xs,e,h1.own hp hf,RepDs.own hp hf h2⟩
 | .fdc ks ds,_,h=>by
  unfold RepD at h ⊢
  obtain⟨a,xs,e,h1,h2⟩:=h
  exact⟨a,xs,e,h1.own hp hf,RepDs.own hp hf h2⟩
theorem RepDs.own{K:uD}{F F':Addr->Prop}{H:Hp}{M:HpD}{p:Addr}{o:OD}(hp:F' p)(hf:∀a,F a->F' a\/H a=none):∀{ds:List D} {vs:List V},RepDs ⟨K,F'⟩ H M ds vs->RepDs ⟨K,F⟩ H (wc M p o) ds vs
 | [],_,h=>by unfold RepDs at h ⊢;exact h
 | d::ds,_,h=>by
  unfold RepDs at h ⊢
  obtain⟨x,r,e,h1,h2⟩:=h
  exact⟨x,r,e,RepD.own hp hf h1,RepDs.own hp hf h2⟩
end
theorem RepO.own{K:uD}{F F':Addr->Prop}{H:Hp}{M:HpD}{p:Addr}{o:OD}(hp:F' p)(hf:∀a,F a->F' a\/H a=none){d:OD}{u:HO}(h:RepO ⟨K,F'⟩ H M d u):RepO ⟨K,F⟩ H (wc M p o) d u:=by
 cases d with
 | lst ds=>obtain⟨xs,e,r⟩:=h;exact⟨xs,e,r.own hp hf⟩
 | dct kvs=>obtain⟨vs,e,k,r⟩:=h;exact⟨vs,e,k,r.own hp hf⟩
 | dtt kvs=>obtain⟨vs,e,k,r⟩:=h;exact⟨vs,e,k,r.own hp hf⟩
 | tab q=>exact TabE.imp h fun c oc u e m n=>⟨e,by rw[Xb (fun(z:c=p)=>n (by show F' c;rw[z];exact hp))];exact m,fun z=>(hf c z).elim n fun y=>by rw[e]at y;cases y⟩
theorem RepH.past{K:KF}{H:Hp}{M:HpD}{p:Addr}{o:HO}(hp:K.F p)(h:RepH K H M)(ho:∀xs,o≠.tup xs:=by intro _ z;cases z):RepH K (upd H p o) M:=⟨fun a d e=>by
 obtain⟨o',e',r⟩:=h.at_ a d e
 have q:a≠p:=fun z=>by rw[z,(h.fb p hp).2]at e;cases e
 exact⟨o',by rw[Yd q];exact e',r.past hp⟩,fun a ha=>⟨by
 by_cases q:a=p
 ·subst q;exact⟨⟨o,ho⟩,Wg⟩
 ·rw[Yd q];exact(h.fb a ha).1,(h.fb a ha).2⟩⟩
theorem Rel.past{K:KF}{σD:SD}{M:HpD}{σ:St}{H:Hp}{p:Addr}{o:HO}(hp:K.F p)(h:Rel K σD M σ H)(ho:∀xs,o≠.tup xs:=by intro _ z;cases z):Rel K σD M σ (upd H p o):=
 ⟨h.len,fun i d e=>let ⟨v,e1,e2⟩:=h.st i d e;⟨v,e1,e2.past hp⟩,h.hp.past hp ho⟩
theorem PI.wk{X:Cx}{tg e:Expr}{t t':TI}(h:PI X tg e t)(i:∀σ H Q,t' σ H Q->t σ H Q):PI X tg e t':=fun pins s σ H Q I q=>h pins s σ H Q I (i σ H Q q)
abbrev IDD(X:Cx)(tg e:Expr)(t:TDI):Prop:=PI X tg e (kbe X.K t)
@[irreducible] def wah(te:TDE):TDI:=fun σ M R=>te σ M fun d M1=>∃ds,d=.lst ds/\R ds M1
@[irreducible] def qah(te:TDE):TDI:=fun σ M R=>te σ M fun d M1=>∃ds,d=.tup ds/\R ds M1
theorem Wak{te:TDE}{σ:SD}{M:HpD}{R:List D->HpD->Prop}(h:te σ M fun d M1=>∃ds,d=.lst ds/\R ds M1):wah te σ M R:=by unfold wah;exact h
theorem Xbk{te:TDE}{σ:SD}{M:HpD}{R:List D->HpD->Prop}(h:te σ M fun d M1=>∃ds,d=.tup ds/\R ds M1):qah te σ M R:=by unfold qah;exact h
noncomputable def Xu(lo:Int)(n:Nat):List D:=(xC n).map fun(k:Nat)=>.int (lo+(k:Int))
theorem wO{lo:Int}{n i:Nat}{d:D}(h:(Xu lo n)[i]?=some d):i<n/\d=.int (lo+i):=by
 unfold Xu at h
 rw[uG]at h
 by_cases hi:i<n
 ·rw[List.getElem?_range hi]at h
  cases h
  exact⟨hi,rfl⟩
 ·rw[xE (by simpa using hi)]at h
  cases h
theorem Yu{lo:Int}{n:Nat}:(Xu lo n).length=n:=by unfold Xu;simp
@[irreducible] def kB(ta:TDA):TDI:=fun σ M R=>ta σ M fun vs M1=>∃j:Int,vs=[.int j]/\-(2^62)<=j/\j<2^62/\R (Xu 0 j.toNat) M1
@[irreducible] def W0(ta:TDA):TDI:=fun σ M R=>ta σ M fun vs M1=>∃i j:Int,vs=[.int i,.int j]/\(-(2^62)<=i/\i<2^62/\-(2^62)<=j/\j<2^62)/\R (Xu i (j - i).toNat) M1
theorem X8{ta:TDA}{σ:SD}{M:HpD}{R:List D->HpD->Prop}(h:ta σ M fun vs M1=>∃j:Int,vs=[.int j]/\-(2^62)<=j/\j<2^62/\R (Xu 0 j.toNat) M1):kB ta σ M R:=by unfold kB;exact h
theorem Y8{ta:TDA}{σ:SD}{M:HpD}{R:List D->HpD->Prop}(h:ta σ M fun vs M1=>∃i j:Int,vs=[.int i,.int j]/\(-(2^62)<=i/\i<2^62/\-(2^62)<=j/\j<2^62)/\R (Xu i (j - i).toNat) M1):W0 ta σ M R:=by unfold W0;exact h
section
variable {X:Cx} {tg l:Expr} {tl:TDE} {pos p:Pos}
theorem vaX{K:uD}{F:Addr->Prop}{H:Hp}{M:HpD}{a:Addr}{xs:List V}{ds:List D}(h:FzL ⟨K,F⟩ H M a xs)(r:RepDs ⟨K,F⟩ H M ds xs):jaO K F (Itl K a) ds M H:=fun F' i M' H' hf f rh=>by
 have h':=((h.more hf).mono f).sq
 have r':=(r.more hf).mono f
 refine⟨fun d e=>?_,fun e=>⟨xs,h',by rw[←r'.length];exact e⟩⟩
 obtain⟨v,e1,e2⟩:=r'.get e
 refine⟨⟨xs,v,h',e1⟩,fun x H3 y=>?_⟩
 obtain⟨rfl,y⟩:=y
 have:=y xs h'
 rw[e1]at this;cases this
 exact⟨.refl,rh,e2⟩
theorem Zbd{K:uD}{F:Addr->Prop}{H:Hp}{M:HpD}{a:Addr}{xs:List V}{ds:List D}(h:FzT ⟨K,F⟩ H M a xs)(r:RepDs ⟨K,F⟩ H M ds xs):jaO K F (Itt K a) ds M H:=fun F' i M' H' hf f rh=>by
 have h':=((h.more hf).mono f).sq
 have r':=(r.more hf).mono f
 refine⟨fun d e=>?_,fun e=>⟨xs,h',by rw[←r'.length];exact e⟩⟩
 obtain⟨v,e1,e2⟩:=r'.get e
 refine⟨⟨xs,v,h',e1⟩,fun x H3 y=>?_⟩
 obtain⟨rfl,y⟩:=y
 have:=y xs h'
 rw[e1]at this;cases this
 exact⟨.refl,rh,e2⟩
theorem waC{K:uD}{F:Addr->Prop}{H:Hp}{M:HpD}{lo:Int}{n:Nat}:jaO K F (Itr lo n) (Xu lo n) M H:=fun F' i M' H' hf f rh=>by
 refine⟨fun d e=>?_,fun e=>by rw[Yu]at e;exact e⟩
 obtain⟨hi,rfl⟩:=wO e
 refine⟨hi,fun x H3 y=>?_⟩
 obtain⟨rfl,rfl⟩:=y
 exact⟨.refl,rh,by unfold RepD;rfl⟩
theorem Ybl(hl:ED X l tl):IDD X tg l (wah tl):=by
 refine(kaK hl).wk fun σ H R w1_=>w1_.elim fun F z_=>z_.elim fun σD z_=>z_.elim fun M z_=>z_.elim fun RD z_=>z_.elim fun rel z_=>z_.elim fun h p=>?_
 unfold wah at h
 refine lE rel h fun d M1 v H1 f1 rel1 r1 h1=>?_
 obtain⟨ds,rfl,q⟩:=h1
 unfold RepD at r1
 obtain⟨a,xs,rfl,hz,hr⟩:=r1
 exact⟨a,rfl,⟨xs,hz.sq⟩,p ds M1 H1 _ f1 rel1.hp (vaX hz hr) q⟩
theorem Xbv(hl:ED X l tl):IDD X tg l (qah tl):=by
 refine(vbm hl).wk fun σ H R w1_=>w1_.elim fun F z_=>z_.elim fun σD z_=>z_.elim fun M z_=>z_.elim fun RD z_=>z_.elim fun rel z_=>z_.elim fun h p=>?_
 unfold qah at h
 refine lE rel h fun d M1 v H1 f1 rel1 r1 h1=>?_
 obtain⟨ds,rfl,q⟩:=h1
 unfold RepD at r1
 obtain⟨a,xs,rfl,hz,hr⟩:=r1
 exact⟨a,rfl,⟨xs,hz.sq⟩,p ds M1 H1 _ f1 rel1.hp (Zbd hz hr) q⟩
theorem W4{a:Expr}{ta:TDA}(hg:Gl X "range")(hm:X.mg "range"=none)(ha:AD X [a] ta)(hs:starEach [a] X.env=[(false,eval a X.env)]:=by rfl):IDD X tg (.Call (.Name "range" p) [a] [] pos) (kB ta):=by
 refine(qaV hg hm ha hs).wk fun σ H R w1_=>w1_.elim fun F z_=>z_.elim fun σD z_=>z_.elim fun M z_=>z_.elim fun RD z_=>z_.elim fun rel z_=>z_.elim fun h p=>?_
 unfold kB at h
 refine lA rel h fun d M1 v H1 f1 rel1 r1 h1=>?_
 obtain⟨j,rfl,q1,q2,q⟩:=h1
 obtain⟨u,rfl,r2⟩:=jE r1
 unfold RepD at r2
 subst r2
 exact⟨j,rfl,q1,q2,p _ M1 H1 _ f1 rel1.hp waC q⟩
theorem wbg{a b:Expr}{ta:TDA}(hg:Gl X "range")(hm:X.mg "range"=none)(ha:AD X [a,b] ta)(hs:starEach [a,b] X.env=[(false,eval a X.env),(false,eval b X.env)]:=by rfl)(hs2:starEach [b] X.env=[(false,eval b X.env)]:=by rfl) :
  IDD X tg (.Call (.Name "range" p) [a,b] [] pos) (W0 ta):=by
 refine(jan hg hm ha hs hs2).wk fun σ H R w1_=>w1_.elim fun F z_=>z_.elim fun σD z_=>z_.elim fun M z_=>z_.elim fun RD z_=>z_.elim fun rel z_=>z_.elim fun h p=>?_
 unfold W0 at h
 refine lA rel h fun d M1 v H1 f1 rel1 r1 h1=>?_
 obtain⟨i,j,rfl,q1,q⟩:=h1
 obtain⟨u,w',rfl,r2,r3⟩:=jak r1
 unfold RepD at r2 r3
 subst r2 r3
 exact⟨i,j,rfl,q1,p _ M1 H1 _ f1 rel1.hp waC q⟩
end
@[irreducible] def XH(tI:TDI)(g:TDG)(tb:TSD):TSD:=fun DD σ M=>tI σ M fun ds M1=>∃Pv:Nat->SD->HpD->Prop,Pv 0 σ M1 ∧
 (∀i d σ M,ds[i]?=some d->Pv i σ M->g d σ M fun σ2 M2=>tb {DD with nx:=Pv (i+1),ct:=Pv (i+1),bk:=DD.nx} σ2 M2)/\∀σ M,Pv ds.length σ M->DD.nx σ M
theorem kaD{tI:TDI}{g:TDG}{tb:TSD}{DD:jn}{σ:SD}{M:HpD}(h:tI σ M fun ds M1=>∃Pv:Nat->SD->HpD->Prop,Pv 0 σ M1 ∧
 (∀i d σ M,ds[i]?=some d->Pv i σ M->g d σ M fun σ2 M2=>tb {DD with nx:=Pv (i+1),ct:=Pv (i+1),bk:=DD.nx} σ2 M2)/\∀σ M,Pv ds.length σ M->DD.nx σ M):XH tI g tb DD σ M:=by unfold XH;exact h
@[irreducible] def vH(n:Nat)(tI:TDI)(g:TDG)(tc:TDT)(te:TDE):TDE:=fun σ M Q=>tI σ M fun ds M1=>ds.length<=sizeLine/\∃Pv:Nat->List D->SD->HpD->Prop,Pv 0 [] (ui n none++σ) M1 ∧
 (∀i d ys σ M,ds[i]?=some d->Pv i ys σ M->g d σ M fun σ2 M2=>tc σ2 M2 fun b M3=>if b=true then te σ2 M3 fun y M4=>Pv (i+1) (ys++[y]) σ2 M4 else Pv (i+1) ys σ2 M3)/\∀ys σ M,Pv ds.length ys σ M->newL ys M Q
theorem XaM{n:Nat}{tI:TDI}{g:TDG}{tc:TDT}{te:TDE}{σ:SD}{M:HpD}{Q:KD}(h:tI σ M fun ds M1=>ds.length<=sizeLine/\∃Pv:Nat->List D->SD->HpD->Prop,Pv 0 [] (ui n none++σ) M1 ∧
 (∀i d ys σ M,ds[i]?=some d->Pv i ys σ M->g d σ M fun σ2 M2=>tc σ2 M2 fun b M3=>if b=true then te σ2 M3 fun y M4=>Pv (i+1) (ys++[y]) σ2 M4 else Pv (i+1) ys σ2 M3)/\∀ys σ M,Pv ds.length ys σ M->newL ys M Q):vH n tI g tc te σ M Q:=by unfold vH;exact h
@[irreducible] def Xp:TDT:=fun _ M Q=>Q true M
theorem ja1{σ:SD}{M:HpD}{Q:Bool->HpD->Prop}(h:Q true M):Xp σ M Q:=by unfold Xp;exact h
section
variable {X:Cx} {tg iter elt:Expr} {ifs:List Expr} {scope:Scope} {body:List Stmt} {tI:TDI} {g:TDG} {tb:TSD} {tc:TDT} {te:TDE} {ts rest:List Str} {pos:Pos}
theorem Wt:FD X [] Xp:=by
 refine pifs_nil.wk fun σ H Q w1_=>w1_.elim fun F z_=>z_.elim fun σD z_=>z_.elim fun M z_=>z_.elim fun QD z_=>z_.elim fun rel z_=>z_.elim fun h p=>?_
 unfold Xp at h
 exact p true M H .refl rel.hp h
theorem wbs{c:Expr}(h:TD X c tc):FD X [c] tc:=vbc h
theorem kad(hi:IDD X tg iter tI)(hg:GD X tg g)(hb:SsD X body tb)(hp:PassesOwn (model X.prog X.w) X.A X.env X.xe:=by exact PassesOwn.never)(hc:X.calm=true:=by rfl)
  (hs:∀x,foldedSetIterable iter X.env x=pure x:=by intro _;rfl):StD X (.For tg iter body [] pos) (XH tI g tb):=by
 refine(waX hp hc hi hg hb hs).wk fun D' σ H w1_=>w1_.elim fun F z_=>z_.elim fun σD z_=>z_.elim fun M z_=>z_.elim fun DD z_=>z_.elim fun rel z_=>z_.elim fun h p=>?_
 unfold XH at h
 refine⟨F,σD,M,_,rel,h,fun ds M1 H1 J f1 rh1 y h1=>?_⟩
 obtain⟨Pv,p0,step,done⟩:=h1
 refine⟨fun i m σ' H'=>m=ds.length - i/\i<=ds.length/\∃σD' M',Rel ⟨X.K,F⟩ σD' M' σ' H'/\Fz M1 H1 M' H'/\Pv i σD' M',⟨ds.length,by simp,ua _,σD,M1,rel.mono f1 rh1,.refl,p0⟩,?_⟩
 rintro i m σ' H' ⟨rfl,hi,σD',M',rel',f',pv⟩
 by_cases hlt:i<ds.length
 ·have e:ds[i]?=some ds[i]:=uB hlt
  obtain⟨go,yl⟩:=(y F i M' H' (fun _ z=>.inl z) f' rel'.hp).1 _ e
  refine .inr ⟨go,fun σ2 H2=>∃σD2 M2,Rel ⟨X.K,F⟩ σD2 M2 σ2 H2/\Fz M1 H1 M2 H2/\Pv (i+1) σD2 M2,fun σ2 H2 w1_=>w1_.elim fun σD2 z_=>z_.elim fun M2 z_=>z_.elim fun a1 z_=>z_.elim fun a2 a3=>⟨ds.length - (i+1),by lia,rfl,hlt,σD2,M2,a1,a2,a3⟩,fun x H2 yy=>?_⟩
  obtain⟨fy,rhy,ry⟩:=yl x H2 yy
  have rel2:=rel'.mono fy rhy
  refine⟨F,ds[i],σD',M',_,rel2,ry,step i _ σD' M' e pv,fun σD3 M3 σ3 H3 f3 rel3 h3=>?_⟩
  have ff:=(f'.trans fy).trans f3
  refine lS rel3 h3 ⟨fun a b c d f r q=>⟨a,b,r,ff.trans f,q⟩,(p.mono (f1.trans ff)).rt,fun a b c d f r q=>(p.mono (f1.trans ff)).nx a b c d f r q,fun a b c d f r q=>⟨a,b,r,ff.trans f,q⟩⟩
 ·have e:i=ds.length:=by lia
  subst e
  exact .inl ⟨(y F _ M' H' (fun _ z=>.inl z) f' rel'.hp).2 (uJ _),p.nx _ _ _ _ (f1.trans f') rel' (done _ _ pv)⟩
theorem wa4{K:uD}{n:Nat}{σ:St}{H:Hp}{Q:VK}(h:Yg K (vH n tI g tc te) σ H Q):kau n (kbe K tI) (ZH K g) (wG K tc) (Yg K te) σ H Q:=by
 obtain⟨F,σD,M,QD,rel,h,p⟩:=h
 unfold vH at h
 refine⟨F,σD,M,_,rel,h,fun ds M1 H1 J f1 rh1 y h1=>?_⟩
 intro D' hD
 obtain⟨hsz,Pv,p0,step,done⟩:=h1
 have mD:=rh1.free hD
 have fF:∀a,(F a\/a=D')->F a\/H1 a=none:=fun a z=>z.elim .inl fun e=>.inr (e▸hD)
 have rel1:=rel.mono f1 rh1
 have relS:Rel ⟨K,fun a=>F a\/a=D'⟩ (ui n none++σD) M1 (ui n none++σ) (upd H1 D' (.lst [])):=by
  have r1:Rel ⟨K,F⟩ (ui n none++σD) M1 (ui n none++σ) H1:=rel1.pad n
  refine⟨r1.len,fun i d e=>?_,⟨fun a o e=>?_,fun a z=>?_⟩⟩
  ·obtain⟨v,e1,e2⟩:=r1.st i d e
   exact⟨v,e1,(e2.more fF).mono (Wm hD)⟩
  ·obtain⟨o',e',r⟩:=rh1.at_ a o e
   exact⟨o',by rw[Yd (jd e' hD)];exact e',(r.more fF).mono (Wm hD)⟩
  ·rcases z with z | rfl
   ·obtain⟨⟨o',e'⟩,m'⟩:=rh1.fb a z
    exact⟨⟨o',by rw[Yd (jd e' hD)];exact e'⟩,m'⟩
   ·exact⟨⟨⟨(HO.lst []:HO),by intro _ z;cases z⟩,Wg⟩,mD⟩
 refine⟨fun i m ys σ' H'=>m=ds.length - i/\i<=ds.length/\ys.length<=i/\H' D'=some (.lst ys)/\∃σD' M' ysD,Rel ⟨K,fun a=>F a\/a=D'⟩ σD' M' σ' H'/\Fz M1 H1 M' H'/\RepDs ⟨K,fun a=>F a\/a=D'⟩ H' M' ysD ys/\Pv i ysD σD' M',
  ⟨ds.length,by simp,ua _,ua _,Wg,_,M1,[],relS,Wm hD,.nil,p0⟩,?_⟩
 rintro i m ys σ' H' ⟨rfl,hi,hyl,eD,σD',M',ysD,rel',f',ry,pv⟩
 have mD':M' D'=none:=(rel'.hp.fb D' (.inr rfl)).2
 by_cases hlt:i<ds.length
 ·have e:ds[i]?=some ds[i]:=uB hlt
  obtain⟨go,yl⟩:=(y _ i M' H' fF f' rel'.hp).1 _ e
  refine .inr ⟨go,fun x H2 yy=>?_⟩
  obtain⟨fy,rhy,rx⟩:=yl x H2 yy
  have eD2:=(fy D' _ eD mD').1
  refine⟨_,ds[i],σD',M',_,rel'.mono fy rhy,rx,step i _ ysD σD' M' e pv,fun σD3 M3 σ3 H3 f3 rel3 h3=>?_⟩
  refine lT rel3 h3 fun b M4 H4 f4 rel4 h4=>?_
  have f14:Fz M1 H1 M4 H4:=((f'.trans fy).trans f3).trans f4
  have fD4:Fz M' H' M4 H4:=(fy.trans f3).trans f4
  cases b with
  | false=>
   simp only[ue,if_false]at h4 ⊢
   exact⟨ds.length - (i+1),by lia,rfl,hlt,by lia,(fD4 D' _ eD mD').1,σD3,M4,ysD,rel4,f14,ry.mono fD4,h4⟩
  | true=>
   simp only[if_true]at h4 ⊢
   refine lE rel4 h4 fun yd M5 v H5 f5 rel5 r5 h5=>?_
   have fD5:=fD4.trans f5
   obtain⟨eD5,mD5⟩:=fD5 D' _ eD mD'
   have hF:(KF.mk K fun a=>F a\/a=D').F D':=.inr rfl
   refine⟨eD5,by lia,ds.length - (i+1),by lia,rfl,hlt,by rw[uE,ur];lia,Wg,σD3,M5,ysD++[yd],rel5.past hF,fun a o q z=>?_,((ry.mono fD5).append (.cons r5 .nil)).past hF,h5⟩
   obtain⟨q1,q2⟩:=(f14.trans f5) a o q z
   exact⟨by rw[Yd (jd q hD)];exact q1,q2⟩
 ·have e:i=ds.length:=by lia
  subst e
  refine .inl ⟨(y _ _ M' H' fF f' rel'.hp).2 (uJ _),eD,?_⟩
  have fL:∀a,F a->(F a\/a=D')\/H' a=none:=fun a z=>.inl (.inl z)
  have rhE:RepH ⟨K,F⟩ H' M':=⟨fun a o q=>by
   obtain⟨o',e',r⟩:=rel'.hp.at_ a o q
   exact⟨o',e',r.more fL⟩,fun a z=>rel'.hp.fb a (.inl z)⟩
  have hn:=done ysD σD' M' pv
  unfold newL at hn
  obtain⟨hl,hn⟩:=hn
  have nf:¬F D':=rh1.nf hD
  rcases hn with hn | hn
  ·exact p _ M' _ H' (f1.trans f') rhE (by unfold RepD;exact⟨D',ys,rfl,.inl ⟨.inl eD,mD',nf⟩,ry.more fL⟩) hn
  ·refine p _ (wc M' D' (.lst ysD)) _ H' (f1.trans fun a o q z=>?_) ⟨fun a o q=>?_,fun a z=>⟨(rhE.fb a z).1,?_⟩⟩ (by unfold RepD;rfl) (hn D' mD')
   ·obtain⟨q1,q2⟩:=f' a o q z
    exact⟨q1,by rw[Xb (jd q hD)];exact q2⟩
   ·by_cases qa:a=D'
    ·rw[qa,Xc]at q;cases q
     rw[qa]
     refine⟨_,eD,ys,rfl,?_⟩
     exact RepDs.own (F':=fun a=>F a\/a=D') (.inr rfl) fL ry
    ·rw[Xb qa]at q
     obtain⟨o',e',r⟩:=rel'.hp.at_ a o q
     exact⟨o',e',RepO.own (F':=fun a=>F a\/a=D') (.inr rfl) fL r⟩
   ·rw[Xb (fun(z':a=D')=>nf (by rw[←z'];exact z))];exact(rhE.fb a z).2
theorem Waj(S:qm X scope ts rest)(hi:IDD X tg iter tI)
  (hg:∀fp s H,GD (Xe X scope ts rest fp s H) tg g) (ht:∀fp s H,FD (Xe X scope ts rest fp s H) ifs tc) (he:∀fp s H,ED (Xe X scope ts rest fp s H) elt te)
  (hc:X.calm=true:=by rfl) (hs:∀x,foldedSetIterable iter X.env x=pure x:=by intro _;rfl):ED X (.ListComp elt [⟨tg,iter,ifs,0⟩] scope pos) (vH ts.length tI g tc te):=
 (XaK (g:=ZH X.K g) (tc:=wG X.K tc) (te:=Yg X.K te) hc S hi hg ht he hs).wk fun _ _ _ h=>wa4 h
end
section
variable {X:Cx} {pins:ZPO} {σ:St} {H:Hp} {s:Shared}
theorem kar{A:Around}{E:ZVP}{a:Addr}{xs:List V}{Q:ZVP}(I:Inv X pins σ H s)(hh:A.handled=none)(hs:SqL X.K H a xs)
  (h:∀(it:Addr) (its:List Value),Vals xs its->Walks X.prog X.w A it [it,a] [it] its.toArray.size (fun i v=>its.toArray[i]?=some v) (fun i h=>h.IsListIter it a i/\h.IsList a its.toArray) →
   ∀s₂:Shared,(∃h2,s₂={s with heap:=h2}/\∀b o,s.heap.get? b=some o->h2.get? b=some o)->(s₂.heap.IsListIter it a 0/\s₂.heap.IsList a its.toArray)->s.heap.objs.size<=it->(∀b∈[it,a],b<s₂.heap.objs.size)->Q (.ref it) s₂):wpAny (model X.prog X.w) A (pyIter (.ref a)) Q E s:=by
 obtain⟨its,rv,p,hz⟩:=I.list hs
 obtain⟨o,ho,_⟩:=id p.isList
 have ha:a<s.heap.objs.size:=uM ho
 refine wpAny_pyIter_list p.isList ?_
 refine h s.heap.objs.size its rv (Walks.list hh _ a (uR ha) its.toArray) _ ⟨_,rfl,fun b o e=>uC _ e⟩ ⟨⟨_,uT _ rfl,rfl,rfl⟩,p.isList.at fun o e=>uC _ e⟩ (uJ _) fun b hb=>?_
 have hz2:(s.heap.push {cls:=.type "list_iterator",data:=.fields #[.ref a,rawInt 0]}).objs.size=s.heap.objs.size+1:=xO ..
 rcases uZ.mp hb with e | hb
 ·rw[e,xO];exact yU _
 ·have e:b=a:=by simpa using hb
  rw[e,xO];exact xK ha
end
section
variable {X:Cx}
theorem kai:∀{bs:List Bool} {us:List Value},Vals (bs.map V.bl) us->us=bs.map Value.bool
 | [],_,.nil=>rfl
 | b::r,_,.cons h t=>by rw[kai t];cases h;rfl
theorem jaW(bs:List Bool):(xC bs.length).all (fun i=>bs.getD i false)=bs.all id:=by
 rw[xj,xq,xq]
 constructor
 ·intro h x hx
  obtain⟨i,hi,rfl⟩:=uu hx
  have:=h i (xf.mpr hi)
  simpa[ub,hi] using this
 ·intro h i hi
  have hi':i<bs.length:=xf.mp hi
  have:=h bs[i] (xS hi')
  simpa[ub,hi'] using this
theorem XaX(bs:List Bool):(xC bs.length).any (fun i=>bs.getD i false)=bs.any id:=by
 rw[xj,yV,yV]
 constructor
 ·rintro ⟨i,hi,h⟩
  have hi':i<bs.length:=xf.mp hi
  exact⟨bs[i],xS hi',by simpa[ub,hi'] using h⟩
 ·rintro ⟨x,hx,h⟩
  obtain⟨i,hi,rfl⟩:=uu hx
  exact⟨i,xf.mpr hi,by simpa[ub,hi] using h⟩
theorem WaX(hc:X.calm=true):CallR X (.builtin "all") (fun xs H Q=>∃(a:Addr) (bs:List Bool),xs=[.ref a]/\SqL X.K H a (bs.map V.bl)/\Q (.bl (bs.all id)) H):=by
 intro pins s σ H xs us Q I rx h
 obtain⟨a,bs,rfl,hs,q⟩:=h
 obtain⟨u,rfl,ru⟩:=Zx rx
 cases ru
 refine call_all_walk (kar I (A:=X.A.in1) (I.ok.hd hc) hs fun it its rv W s₂ w1_ st hit hlt=>w1_.elim fun h2 z_=>z_.elim fun e2 k2=>?_)
 subst e2
 have e:=kai rv
 refine⟨it,_,_,_,_,_,fun i=>bs.getD i false,rfl,W,st,fun i v s Q E hv hq=>?_,fun h' tk hk=>?_⟩
 ·have:v=.bool (bs.getD i false):=by
   rw[e]at hv
   simp only[List.getElem?_toArray,uG]at hv
   cases z:bs[i]? with
   | none=>rw[z]at hv;cases hv
   | some b=>rw[z]at hv;cases hv;simp[ub,z]
  subst this
  exact wpAny_truthy_bool hq
 ·have hl:its.toArray.size=bs.length:=by rw[e];simp
  rw[hl,jaW]
  refine⟨.bl _,H,I.kept fun b o eo=>hk b o (fun z=>?_) (k2 b o eo),rfl,q⟩
  have:b=it:=by simpa using z
  rw[this]at eo
  exact absurd (uP (uM eo) hit) (u7 _)
theorem wa3(hc:X.calm=true):CallR X (.builtin "any") (fun xs H Q=>∃(a:Addr) (bs:List Bool),xs=[.ref a]/\SqL X.K H a (bs.map V.bl)/\Q (.bl (bs.any id)) H):=by
 intro pins s σ H xs us Q I rx h
 obtain⟨a,bs,rfl,hs,q⟩:=h
 obtain⟨u,rfl,ru⟩:=Zx rx
 cases ru
 refine call_any_walk (kar I (A:=X.A.in1) (I.ok.hd hc) hs fun it its rv W s₂ w1_ st hit hlt=>w1_.elim fun h2 z_=>z_.elim fun e2 k2=>?_)
 subst e2
 have e:=kai rv
 refine⟨it,_,_,_,_,_,fun i=>bs.getD i false,rfl,W,st,fun i v s Q E hv hq=>?_,fun h' tk hk=>?_⟩
 ·have:v=.bool (bs.getD i false):=by
   rw[e]at hv
   simp only[List.getElem?_toArray,uG]at hv
   cases z:bs[i]? with
   | none=>rw[z]at hv;cases hv
   | some b=>rw[z]at hv;cases hv;simp[ub,z]
  subst this
  exact wpAny_truthy_bool hq
 ·have hl:its.toArray.size=bs.length:=by rw[e];simp
  rw[hl,XaX]
  refine⟨.bl _,H,I.kept fun b o eo=>hk b o (fun z=>?_) (k2 b o eo),rfl,q⟩
  have:b=it:=by simpa using z
  rw[this]at eo
  exact absurd (uP (uM eo) hit) (u7 _)
theorem vai{K:KF}{H:Hp}{M:HpD}:∀{bs:List Bool} {xs:List V},RepDs K H M (bs.map D.bl) xs->xs=bs.map V.bl
 | [],_,h=>by unfold RepDs at h;simpa using h
 | b::r,_,h=>by
  rw[uH]at h
  unfold RepDs at h
  obtain⟨x,r',e,h1,h2⟩:=h
  unfold RepD at h1
  rw[e,h1,vai h2];rfl
@[irreducible] def qab:RDn:=fun xs M Q=>∃(d:D) (bs:List Bool),xs=[d]/\Zd d M=some (bs.map D.bl)/\Q (.bl (bs.all id)) M
@[irreducible] def vak:RDn:=fun xs M Q=>∃(d:D) (bs:List Bool),xs=[d]/\Zd d M=some (bs.map D.bl)/\Q (.bl (bs.any id)) M
theorem qaD{d:D}{bs:List Bool}{M:HpD}{Q:KD}(h:Zd d M=some (bs.map D.bl))(q:Q (.bl (bs.all id)) M):qab [d] M Q:=by unfold qab;exact⟨d,bs,rfl,h,q⟩
theorem Xa4{d:D}{bs:List Bool}{M:HpD}{Q:KD}(h:Zd d M=some (bs.map D.bl))(q:Q (.bl (bs.any id)) M):vak [d] M Q:=by unfold vak;exact⟨d,bs,rfl,h,q⟩
theorem Xay(hc:X.calm=true:=by rfl):CallR X (.builtin "all") (wt X.K qab):=by
 refine(WaX hc).wk fun xs H Q w1_=>w1_.elim fun F z_=>z_.elim fun ds z_=>z_.elim fun M z_=>z_.elim fun QD z_=>z_.elim fun r z_=>z_.elim fun rh z_=>z_.elim fun hq p=>?_
 unfold qab at hq
 obtain⟨d,bs,rfl,e1,q⟩:=hq
 obtain⟨v,rfl,r1⟩:=jE r
 obtain⟨a,ys,rfl,hs,r2⟩:=Zm rh r1 e1
 rw[vai r2]at hs
 exact⟨a,bs,rfl,hs,p _ M _ H .refl rh (by unfold RepD;rfl) q⟩
theorem qaY(hc:X.calm=true:=by rfl):CallR X (.builtin "any") (wt X.K vak):=by
 refine(wa3 hc).wk fun xs H Q w1_=>w1_.elim fun F z_=>z_.elim fun ds z_=>z_.elim fun M z_=>z_.elim fun QD z_=>z_.elim fun r z_=>z_.elim fun rh z_=>z_.elim fun hq p=>?_
 unfold vak at hq
 obtain⟨d,bs,rfl,e1,q⟩:=hq
 obtain⟨v,rfl,r1⟩:=jE r
 obtain⟨a,ys,rfl,hs,r2⟩:=Zm rh r1 e1
 rw[vai r2]at hs
 exact⟨a,bs,rfl,hs,p _ M _ H .refl rh (by unfold RepD;rfl) q⟩
variable {e d:Expr} {te td:TE} {p pos kpos:Pos}
end
mutual
noncomputable def eqD:D->D->Bool
 | .non,.non=>true
 | .bl a,.bl b=>a==b
 | .int a,.int b=>a==b
 | .str a,.str b=>a==b
 | .tup a,.tup b=>kj a b
 | .lst a,.lst b=>kj a b
 | _,_=>false
noncomputable def kj:List D->List D->Bool
 | [],[]=>true
 | a::r,b::s=>eqD a b&&kj r s
 | _,_=>false
end
mutual
noncomputable def okD:D->D->Bool
 | .non,.non=>true
 | .non,.int _=>true
 | .int _,.non=>true
 | .non,.str _=>true
 | .str _,.non=>true
 | .bl _,.bl _=>true
 | .int _,.int _=>true
 | .str _,.str _=>true
 | .int _,.str _=>true
 | .str _,.int _=>true
 | .tup a,.tup b=>Xs a b
 | .lst a,.lst b=>Xs a b
 | _,_=>false
noncomputable def Xs:List D->List D->Bool
 | a::r,b::s=>okD a b&&Xs r s
 | _,_=>true
end
mutual
noncomputable def Zn:D->Nat
 | .tup a=>Xh a+1
 | .lst a=>Xh a+1
 | _=>0
noncomputable def Xh:List D->Nat
 | []=>0
 | a::r=>max (Zn a) (Xh r)
end
theorem WV:∀{a b:List D},kj a b=true->a.length=b.length
 | [],[],_=>rfl
 | [],_::_,h=>by unfold kj at h;cases h
 | _::_,[],h=>by unfold kj at h;cases h
 | a::r,b::s,h=>by
  unfold kj at h
  rw[xP]at h
  rw[uj,uj,WV h.2]
theorem wN:∀(a b:List D),((xC (min a.length b.length)).all (fun j=>(xm eqD a b).getD j true)&&a.length==b.length)=kj a b
 | [],[]=>by unfold kj;rfl
 | [],_::_=>by unfold kj;rfl
 | _::_,[]=>by unfold kj;rfl
 | a::r,b::s=>by
  have ih:=wN r s
  unfold kj
  rw[←ih]
  rw[show min (a::r).length (b::s).length=min r.length s.length+1 by simp only[uj];lia,List.range_succ_eq_map,List.all_cons,List.all_map]
  simp only[List.zipWith_cons_cons,List.getD_cons_zero,Function.comp_def,List.getD_cons_succ,uj,Bool.and_assoc]
  congr 1
  congr 1
  rw[xj,beq_iff_eq,beq_iff_eq]
  lia
theorem WX{a b:List D}(h:a.length=b.length):((xC a.length).all fun j=>(xm eqD a b).getD j true)=kj a b:=by
 have:=wN a b
 rw[←h,Nat.min_self]at this
 rw[←this]
 simp
mutual
theorem Xaa:∀{d e:D},okD d e=true->∀{K:KF} {H:Hp} {M:HpD} {v:V},(∀a xs ys,SqT K.K H a xs->SqT K.K H a ys->xs=ys)->(∀a xs ys,SqL K.K H a xs->SqL K.K H a ys->xs=ys)->RepD K H M d v->RepD K H M e v->eqD d e=true
 | .non,e,ok,K,H,M,v,i1,i2,r1,r2=>by
  cases e<;>first | (unfold okD at ok;cases ok;done) | (unfold RepD at r1 r2;rw[r1]at r2;cases r2;done) | (unfold eqD;rfl)
 | .bl a,e,ok,K,H,M,v,i1,i2,r1,r2=>by
  cases e<;>first | (unfold okD at ok;cases ok;done) | (unfold RepD at r1 r2;rw[r1]at r2;cases r2;unfold eqD;simp)
 | .int a,e,ok,K,H,M,v,i1,i2,r1,r2=>by
  cases e<;>first | (unfold okD at ok;cases ok;done) | (unfold RepD at r1 r2;rw[r1]at r2;cases r2;unfold eqD;simp) | (unfold RepD at r1 r2;rw[r1]at r2;cases r2)
 | .str a,e,ok,K,H,M,v,i1,i2,r1,r2=>by
  cases e<;>first | (unfold okD at ok;cases ok;done) | (unfold RepD at r1 r2;rw[r1]at r2;cases r2;unfold eqD;simp) | (unfold RepD at r1 r2;rw[r1]at r2;cases r2)
 | .ref a,e,ok,K,H,M,v,i1,i2,r1,r2=>by cases e<;>(unfold okD at ok;cases ok)
 | .ty a,e,ok,K,H,M,v,i1,i2,r1,r2=>by cases e<;>(unfold okD at ok;cases ok)
 | .fdc _ _,e,ok,K,H,M,v,i1,i2,r1,r2=>by cases e<;>(unfold okD at ok;cases ok)
 | .tup a,e,ok,K,H,M,v,i1,i2,r1,r2=>by
  cases e with
  | tup b=>
   unfold okD at ok
   unfold RepD at r1 r2
   obtain⟨p,xs,e1,h1,h2⟩:=r1
   obtain⟨q,ys,e2,h3,h4⟩:=r2
   rw[e1]at e2;cases e2
   have:=i1 p xs ys h1.sq h3.sq
   subst this
   unfold eqD
   exact W1 ok i1 i2 h2 h4
  | _=>unfold okD at ok;cases ok
 | .lst a,e,ok,K,H,M,v,i1,i2,r1,r2=>by
  cases e with
  | lst b=>
   unfold okD at ok
   unfold RepD at r1 r2
   obtain⟨p,xs,e1,h1,h2⟩:=r1
   obtain⟨q,ys,e2,h3,h4⟩:=r2
   rw[e1]at e2;cases e2
   have:=i2 p xs ys h1.sq h3.sq
   subst this
   unfold eqD
   exact W1 ok i1 i2 h2 h4
  | _=>unfold okD at ok;cases ok
theorem W1:∀{d e:List D},Xs d e=true->∀{K:KF} {H:Hp} {M:HpD} {v:List V},(∀a xs ys,SqT K.K H a xs->SqT K.K H a ys->xs=ys)->(∀a xs ys,SqL K.K H a xs->SqL K.K H a ys->xs=ys)->RepDs K H M d v->RepDs K H M e v->kj d e=true
 | [],e,ok,K,H,M,v,i1,i2,r1,r2=>by
  have:=r1.length.trans r2.length.symm
  cases e with
  | nil=>unfold kj;rfl
  | cons _ _=>cases this
 | a::r,e,ok,K,H,M,v,i1,i2,r1,r2=>by
  have:=r1.length.trans r2.length.symm
  cases e with
  | nil=>cases this
  | cons b s=>
   unfold Xs at ok
   rw[xP]at ok
   unfold RepDs at r1 r2
   obtain⟨x,xr,e1,h1,h2⟩:=r1
   obtain⟨y,yr,e2,h3,h4⟩:=r2
   rw[e1]at e2;cases e2
   unfold kj
   rw[Xaa ok.1 i1 i2 h1 h3,W1 ok.2 i1 i2 h2 h4]
   rfl
end
section
variable {X:Cx} {pins:ZPO} {σ:St} {H:Hp} {s:Shared} {F:Addr->Prop} {M:HpD}
mutual
theorem Yav(I:Inv X pins σ H s):∀(d e:D) {x y:V} {u v:Value} (A:Around),okD d e=true->A.units+Zn d<cLine->RepD ⟨X.K,F⟩ H M d x->RepD ⟨X.K,F⟩ H M e y->RelV x u->RelV y v->SeqAt.EqAt A s u v (eqD d e)
 | .non,e,x,y,u,v,A,ok,hu,r1,r2,q1,q2=>by
  unfold RepD at r1;subst r1
  cases e<;>first
   | (unfold okD at ok;cases ok;done)
   | (unfold RepD at r2;subst r2;have z:=Z0 (A:=A) (s:=s) q1 q2 rfl rfl;unfold eqD;exact z)
 | .bl a,e,x,y,u,v,A,ok,hu,r1,r2,q1,q2=>by
  unfold RepD at r1;subst r1
  cases e<;>first
   | (unfold okD at ok;cases ok;done)
   | (unfold RepD at r2;subst r2;have z:=Z0 (A:=A) (s:=s) q1 q2 rfl rfl;unfold eqD;exact z)
 | .int a,e,x,y,u,v,A,ok,hu,r1,r2,q1,q2=>by
  unfold RepD at r1;subst r1
  cases e<;>first
   | (unfold okD at ok;cases ok;done)
   | (unfold RepD at r2;subst r2;have z:=Z0 (A:=A) (s:=s) q1 q2 rfl rfl;unfold eqD;exact z)
 | .str a,e,x,y,u,v,A,ok,hu,r1,r2,q1,q2=>by
  unfold RepD at r1;subst r1
  cases e<;>first
   | (unfold okD at ok;cases ok;done)
   | (unfold RepD at r2;subst r2;have z:=Z0 (A:=A) (s:=s) q1 q2 rfl rfl;unfold eqD;exact z)
 | .ref a,e,x,y,u,v,A,ok,hu,r1,r2,q1,q2=>by cases e<;>(unfold okD at ok;cases ok)
 | .ty a,e,x,y,u,v,A,ok,hu,r1,r2,q1,q2=>by cases e<;>(unfold okD at ok;cases ok)
 | .fdc _ _,e,x,y,u,v,A,ok,hu,r1,r2,q1,q2=>by cases e<;>(unfold okD at ok;cases ok)
 | .tup a,e,x,y,u,v,A,ok,hu,r1,r2,q1,q2=>by
  cases e with
  | tup b=>
   have r1':=r1
   have r2':=r2
   unfold RepD at r1 r2
   obtain⟨p,xs,rfl,h1,h2⟩:=r1
   obtain⟨q,ys,rfl,h3,h4⟩:=r2
   cases q1
   cases q2
   by_cases hpq:p=q
   ·subst hpq
    rw[Xaa ok (fun a xs ys=>I.tuple_inj) (fun a xs ys=>I.list_inj) r1' r2']
    exact SeqAt.EqAt.same _
   ·obtain⟨i1,v1,t1,_⟩:=I.tuple h1.sq
    obtain⟨i2,v2,t2,_⟩:=I.tuple h3.sq
    unfold okD at ok
    unfold Zn at hu
    have hu1:A.units<cLine:=by lia
    refine SeqAt.EqAt.of_refs hpq ?_
    have:=SeqAt.RcAt.tuples (A:=A) (s:=s) (show s.heap.IsTuple p i1.toArray from t1) (show s.heap.IsTuple q i2.toArray from t2) hu1 (e:=fun j=>(xm eqD a b).getD j true) fun j z1 z2=>
     kM I a b A.in1 ok (by show A.units+1+Xh a<cLine;lia) h2 h4 v1 v2 j _ _ (by simp) (by simp)
    have l1:i1.toArray.size=a.length:=by rw[uI,←v1.length,h2.length]
    have l2:i2.toArray.size=b.length:=by rw[uI,←v2.length,h4.length]
    rw[l1,l2,wN]at this
    unfold eqD
    exact this
  | _=>unfold okD at ok;cases ok
 | .lst a,e,x,y,u,v,A,ok,hu,r1,r2,q1,q2=>by
  cases e with
  | lst b=>
   have r1':=r1
   have r2':=r2
   unfold RepD at r1 r2
   obtain⟨p,xs,rfl,h1,h2⟩:=r1
   obtain⟨q,ys,rfl,h3,h4⟩:=r2
   cases q1
   cases q2
   by_cases hpq:p=q
   ·subst hpq
    rw[Xaa ok (fun a xs ys=>I.tuple_inj) (fun a xs ys=>I.list_inj) r1' r2']
    exact SeqAt.EqAt.same _
   ·obtain⟨i1,v1,t1,_⟩:=I.list h1.sq
    obtain⟨i2,v2,t2,_⟩:=I.list h3.sq
    unfold okD at ok
    unfold Zn at hu
    have hu1:A.units<cLine:=by lia
    have l1:i1.toArray.size=a.length:=by rw[uI,←v1.length,h2.length]
    have l2:i2.toArray.size=b.length:=by rw[uI,←v2.length,h4.length]
    refine SeqAt.EqAt.of_refs hpq ?_
    unfold eqD
    by_cases hl:a.length=b.length
    ·have:=SeqAt.RcAt.lists (A:=A) (s:=s) t1.isList t2.isList (by rw[l1,l2];exact hl) hu1 (e:=fun j=>(xm eqD a b).getD j true) fun j z1 z2=>
      kM I a b A.in1 ok (by show A.units+1+Xh a<cLine;lia) h2 h4 v1 v2 j _ _ (by simp) (by simp)
     rw[l1,WX hl]at this
     exact this
    ·rw[show kj a b=false by
      cases q:kj a b with
      | false=>rfl
      | true=>exact absurd (WV q) hl]
     exact SeqAt.RcAt.lists_lengths t1.isList t2.isList (by rw[l1,l2];simpa using hl) hu1
  | _=>unfold okD at ok;cases ok
theorem kM(I:Inv X pins σ H s):∀(ds es:List D) {xs ys:List V} {us vs:List Value} (A:Around),Xs ds es=true->A.units+Xh ds<cLine->RepDs ⟨X.K,F⟩ H M ds xs->RepDs ⟨X.K,F⟩ H M es ys->Vals xs us->Vals ys vs →
  ∀(j:Nat) (u v:Value),us[j]?=some u->vs[j]?=some v->SeqAt.EqAt A s u v ((xm eqD ds es).getD j true)
 | [],es,xs,ys,us,vs,A,ok,hu,r1,r2,q1,q2,j,u,v,e1,e2=>by
  have:=r1.length.trans q1.length
  have hj:j<us.length:=(uO.mp e1).1
  rw[←this]at hj
  cases hj
 | d::ds,[],xs,ys,us,vs,A,ok,hu,r1,r2,q1,q2,j,u,v,e1,e2=>by
  have:=r2.length.trans q2.length
  have hj:j<vs.length:=(uO.mp e2).1
  rw[←this]at hj
  cases hj
 | d::ds,e::es,xs,ys,us,vs,A,ok,hu,r1,r2,q1,q2,j,u,v,e1,e2=>by
  unfold Xs at ok
  rw[xP]at ok
  unfold Xh at hu
  unfold RepDs at r1 r2
  obtain⟨x,xr,rfl,h1,h2⟩:=r1
  obtain⟨y,yr,rfl,h3,h4⟩:=r2
  cases q1 with
  | cons a1 b1=>
   cases q2 with
   | cons a2 b2=>
    cases j with
    | zero=>
     simp at e1 e2
     subst e1 e2
     simp only[List.zipWith_cons_cons,List.getD_cons_zero]
     exact Yav I d e A ok.1 (by lia) h1 h3 a1 a2
    | succ j=>
     simp only[List.zipWith_cons_cons,List.getD_cons_succ]
     exact kM I ds es A ok.2 (by lia) h2 h4 b1 b2 j u v (by simpa using e1) (by simpa using e2)
end
end
noncomputable def Ye:D->HpD->D
 | .ref p,M=>match M p with | some (.lst ds)=>.lst ds | _=>.ref p
 | d,_=>d
noncomputable def okT:D->D->Bool
 | .bl _,.bl _=>true
 | .int _,.int _=>true
 | .str _,.str _=>true
 | .tup a,.tup b=>Xs a b
 | .lst a,.lst b=>Xs a b
 | _,_=>false
theorem kaG{K:KF}{H:Hp}{M:HpD}{d:D}{v:V}(rh:RepH K H M)(r:RepD K H M d v):∃M',Fz M H M' H/\RepH K H M'/\RepD K H M' (Ye d M) v:=by
 cases d with
 | ref p=>
  cases q:M p with
  | none=>exact⟨M,.refl,rh,by simp only[Ye,q];exact r⟩
  | some o=>
   cases o with
   | lst ds=>
    refine⟨js M p,WI,rh.del,?_⟩
    simp only[Ye,q]
    unfold RepD at r
    subst r
    exact .frz rh q
   | dct kvs=>exact⟨M,.refl,rh,by simp only[Ye,q];exact r⟩
   | tab _=>exact⟨M,.refl,rh,by simp only[Ye,q];exact r⟩
   | dtt _=>exact⟨M,.refl,rh,by simp only[Ye,q];exact r⟩
 | _=>exact⟨M,.refl,rh,r⟩
theorem jY{K:KF}{H:Hp}{M:HpD}{d e:D}{v u:V}(rh:RepH K H M)(r:RepD K H M d v)(r2:RepD K H M e u):∃M',Fz M H M' H/\RepH K H M'/\RepD K H M' (Ye d M) v/\RepD K H M' (Ye e M) u:=by
 obtain⟨M1,f1,rh1,r1⟩:=kaG rh r
 cases e with
 | ref q=>
  cases z:M q with
  | none=>exact⟨M1,f1,rh1,r1,by simp only[Ye,z];exact r2.mono f1⟩
  | some o=>
   cases o with
   | lst es=>
    unfold RepD at r2
    subst r2
    have hv:Ye (.ref q) M=.lst es:=by simp only[Ye,z]
    rw[hv]
    obtain⟨o',e',xs,rfl,hr⟩:=rh.at_ q _ z
    refine⟨js M1 q,f1.trans WI,rh1.del,r1.mono WI,?_⟩
    unfold RepD
    exact⟨q,xs,rfl,.inl ⟨.inl e',wC,rh.nfM z⟩,(hr.mono f1).mono WI⟩
   | dct kvs=>exact⟨M1,f1,rh1,r1,by simp only[Ye,z];exact r2.mono f1⟩
   | tab _=>exact⟨M1,f1,rh1,r1,by simp only[Ye,z];exact r2.mono f1⟩
   | dtt _=>exact⟨M1,f1,rh1,r1,by simp only[Ye,z];exact r2.mono f1⟩
 | _=>exact⟨M1,f1,rh1,r1,r2.mono f1⟩
@[irreducible] def Wi(neg:Bool):RD2:=fun x y M Q=>okT (Ye x M) (Ye y M)=true/\Zn (Ye x M)<=60/\Q (.bl (neg ^^ eqD (Ye x M) (Ye y M))) M
theorem XaG{neg:Bool}{x y:D}{M:HpD}{Q:KD}(h:okT (Ye x M) (Ye y M)=true)(hd:Zn (Ye x M)<=60)(q:Q (.bl (neg ^^ eqD (Ye x M) (Ye y M))) M):Wi neg x y M Q:=by unfold Wi;exact⟨h,hd,q⟩
section
variable {X:Cx} {k:Nat}
theorem Xk(hr:Room k X.A):OpR X (compareOp .Eq) (Yk X.K (Wi false)):=by
 intro pins s σ H x y u v Q I rx ry h
 obtain⟨F,d,e,M,QD,r1,r2,rh,hq,p⟩:=h
 unfold Wi at hq
 obtain⟨ok,hd,q⟩:=hq
 have hun:=hr.units
 obtain⟨M1,f1,rh1,r1',r2'⟩:=jY rh r1 r2
 have fin:∀b:Bool,b=eqD (Ye d M) (Ye e M)->EP X pins σ Q (.bool b) s:=fun b hb=>by
  subst hb
  exact⟨.bl _,H,I,rfl,p (.bl (false ^^ eqD (Ye d M) (Ye e M))) M _ H .refl rh (by unfold RepD;simp) q⟩
 generalize Ye d M=d' at *
 generalize Ye e M=e' at *
 cases d'<;>cases e'<;>first | (unfold okT at ok;cases ok;done) | skip
 ·rename_i a b
  unfold RepD at r1' r2'
  subst r1' r2'
  have q':QD (.bl (decide (a=b))) M:=by
   unfold eqD at q
   rw[xa]at q
   simpa using q
  exact WaQ pins s σ H _ _ u v Q I rx ry ⟨rfl,by rw[WaN];exact p _ M _ H .refl rh (by unfold RepD;rfl) q'⟩
 ·rename_i a b
  unfold RepD at r1' r2'
  subst r1' r2'
  have q':QD (.bl (decide (a=b))) M:=by
   unfold eqD at q
   rw[xa]at q
   simpa using q
  exact WaQ pins s σ H _ _ u v Q I rx ry ⟨rfl,by rw[kaF];exact p _ M _ H .refl rh (by unfold RepD;rfl) q'⟩
 ·rename_i a b
  unfold RepD at r1' r2'
  subst r1' r2'
  have q':QD (.bl (decide (a=b))) M:=by
   unfold eqD at q
   rw[xa]at q
   simpa using q
  exact WaQ pins s σ H _ _ u v Q I rx ry ⟨rfl,by rw[Wax];exact p _ M _ H .refl rh (by unfold RepD;rfl) q'⟩
 ·rename_i a b
  unfold RepD at r1' r2'
  obtain⟨pa,xs,rfl,h1,h2⟩:=r1'
  obtain⟨pb,ys,rfl,h3,h4⟩:=r2'
  cases rx
  cases ry
  obtain⟨i1,v1,t1,_⟩:=I.tuple h1.sq
  obtain⟨i2,v2,t2,_⟩:=I.tuple h3.sq
  unfold okT at ok
  unfold Zn at hd
  have l1:i1.toArray.size=a.length:=by rw[uI,←v1.length,h2.length]
  have l2:i2.toArray.size=b.length:=by rw[uI,←v2.length,h4.length]
  refine SeqAt.RcAt.tuples (A:=X.A) (s:=s) (show s.heap.IsTuple pa i1.toArray from t1) (show s.heap.IsTuple pb i2.toArray from t2) (by lia) (e:=fun j=>(xm eqD a b).getD j true) (fun j z1 z2=>
   kM I a b X.A.in1 ok (by show X.A.units+1+Xh a<cLine;lia) h2 h4 v1 v2 j _ _ (by simp) (by simp)) X.prog X.w X.xe _ ?_
  rw[l1,l2,wN]
  exact fin _ (by unfold eqD;rfl)
 ·rename_i a b
  unfold RepD at r1' r2'
  obtain⟨pa,xs,rfl,h1,h2⟩:=r1'
  obtain⟨pb,ys,rfl,h3,h4⟩:=r2'
  cases rx
  cases ry
  obtain⟨i1,v1,t1,_⟩:=I.list h1.sq
  obtain⟨i2,v2,t2,_⟩:=I.list h3.sq
  unfold okT at ok
  unfold Zn at hd
  have l1:i1.toArray.size=a.length:=by rw[uI,←v1.length,h2.length]
  have l2:i2.toArray.size=b.length:=by rw[uI,←v2.length,h4.length]
  by_cases hl:a.length=b.length
  ·refine SeqAt.RcAt.lists (A:=X.A) (s:=s) t1.isList t2.isList (by rw[l1,l2];exact hl) (by lia) (e:=fun j=>(xm eqD a b).getD j true) (fun j z1 z2=>
    kM I a b X.A.in1 ok (by show X.A.units+1+Xh a<cLine;lia) h2 h4 v1 v2 j _ _ (by simp) (by simp)) X.prog X.w X.xe _ ?_
   rw[l1,WX hl]
   exact fin _ (by unfold eqD;rfl)
  ·refine SeqAt.RcAt.lists_lengths t1.isList t2.isList (by rw[l1,l2];simpa using hl) (by lia) X.prog X.w X.xe _ ?_
   have:kj a b=false:=by
    cases q:kj a b with
    | false=>rfl
    | true=>exact absurd (WV q) hl
   exact fin _ (by unfold eqD;rw[this]<;>rfl)
theorem wae(hr:Room k X.A):OpR X (compareOp .NotEq) (Yk X.K (Wi true)):=by
 intro pins s σ H x y u v Q I rx ry h
 obtain⟨F,d,e,M,QD,r1,r2,rh,hq,p⟩:=h
 unfold Wi at hq
 obtain⟨ok,hd,q⟩:=hq
 have hun:=hr.units
 obtain⟨M1,f1,rh1,r1',r2'⟩:=jY rh r1 r2
 have fin:∀b:Bool,b = !eqD (Ye d M) (Ye e M)->EP X pins σ Q (.bool b) s:=fun b hb=>by
  subst hb
  exact⟨.bl _,H,I,rfl,p (.bl (true ^^ eqD (Ye d M) (Ye e M))) M _ H .refl rh (by unfold RepD;simp) q⟩
 generalize Ye d M=d' at *
 generalize Ye e M=e' at *
 cases d'<;>cases e'<;>first | (unfold okT at ok;cases ok;done) | skip
 ·rename_i a b
  unfold RepD at r1' r2'
  subst r1' r2'
  have q':QD (.bl (!decide (a=b))) M:=by
   unfold eqD at q
   rw[xa]at q
   simpa using q
  exact vaP pins s σ H _ _ u v Q I rx ry ⟨rfl,by rw[WaN];exact p _ M _ H .refl rh (by unfold RepD;rfl) q'⟩
 ·rename_i a b
  unfold RepD at r1' r2'
  subst r1' r2'
  have q':QD (.bl (!decide (a=b))) M:=by
   unfold eqD at q
   rw[xa]at q
   simpa using q
  exact vaP pins s σ H _ _ u v Q I rx ry ⟨rfl,by rw[kaF];exact p _ M _ H .refl rh (by unfold RepD;rfl) q'⟩
 ·rename_i a b
  unfold RepD at r1' r2'
  subst r1' r2'
  have q':QD (.bl (!decide (a=b))) M:=by
   unfold eqD at q
   rw[xa]at q
   simpa using q
  exact vaP pins s σ H _ _ u v Q I rx ry ⟨rfl,by rw[Wax];exact p _ M _ H .refl rh (by unfold RepD;rfl) q'⟩
 ·rename_i a b
  unfold RepD at r1' r2'
  obtain⟨pa,xs,rfl,h1,h2⟩:=r1'
  obtain⟨pb,ys,rfl,h3,h4⟩:=r2'
  cases rx
  cases ry
  obtain⟨i1,v1,t1,_⟩:=I.tuple h1.sq
  obtain⟨i2,v2,t2,_⟩:=I.tuple h3.sq
  unfold okT at ok
  unfold Zn at hd
  have l1:i1.toArray.size=a.length:=by rw[uI,←v1.length,h2.length]
  have l2:i2.toArray.size=b.length:=by rw[uI,←v2.length,h4.length]
  refine SeqAt.RcNeAt.tuples (A:=X.A) (s:=s) (show s.heap.IsTuple pa i1.toArray from t1) (show s.heap.IsTuple pb i2.toArray from t2) (by lia) (e:=fun j=>(xm eqD a b).getD j true) (fun j z1 z2=>
   kM I a b X.A.in1 ok (by show X.A.units+1+Xh a<cLine;lia) h2 h4 v1 v2 j _ _ (by simp) (by simp)) X.prog X.w X.xe _ ?_
  rw[l1,l2,wN]
  exact fin _ (by unfold eqD;rfl)
 ·rename_i a b
  unfold RepD at r1' r2'
  obtain⟨pa,xs,rfl,h1,h2⟩:=r1'
  obtain⟨pb,ys,rfl,h3,h4⟩:=r2'
  cases rx
  cases ry
  obtain⟨i1,v1,t1,_⟩:=I.list h1.sq
  obtain⟨i2,v2,t2,_⟩:=I.list h3.sq
  unfold okT at ok
  unfold Zn at hd
  have l1:i1.toArray.size=a.length:=by rw[uI,←v1.length,h2.length]
  have l2:i2.toArray.size=b.length:=by rw[uI,←v2.length,h4.length]
  by_cases hl:a.length=b.length
  ·refine SeqAt.RcNeAt.lists (A:=X.A) (s:=s) t1.isList t2.isList (by rw[l1,l2];exact hl) (by lia) (e:=fun j=>(xm eqD a b).getD j true) (fun j z1 z2=>
    kM I a b X.A.in1 ok (by show X.A.units+1+Xh a<cLine;lia) h2 h4 v1 v2 j _ _ (by simp) (by simp)) X.prog X.w X.xe _ ?_
   rw[l1,WX hl]
   exact fin _ (by unfold eqD;rfl)
  ·refine SeqAt.RcNeAt.lists_lengths t1.isList t2.isList (by rw[l1,l2];simpa using hl) (by lia) X.prog X.w X.xe _ ?_
   have:kj a b=false:=by
    cases q:kj a b with
    | false=>rfl
    | true=>exact absurd (WV q) hl
   exact fin _ (by unfold eqD;rw[this]<;>rfl)
noncomputable def va2:D->Option String
 | .non=>some "NoneType"
 | .bl _=>some "bool"
 | .int _=>some "int"
 | .str _=>some "str"
 | .tup _=>some "tuple"
 | .lst _=>some "list"
 | _=>none
noncomputable def Zae(a b:String):Bool:=a==b||(a=="bool"&&b=="int")
noncomputable def plainTys:List String:=["int","bool","str","tuple","list"]
theorem waY(K:uD):(plainTys++["NoneType"]).all (fun a=>plainTys.all fun b=>PySem.W.kitOne K (.type a) (.type b)==some (Zae a b))=true:=by
 first | rfl | decide +kernel | simp[plainTys,PySem.W.kitOne]
end
section
variable {X:Cx}
theorem ZT(K:uD){a b:String}(ha:a∈plainTys++["NoneType"])(hb:b∈plainTys):PySem.W.kitOne K (.type a) (.type b)=some (Zae a b):=by
 have h:=waY K
 rw[xq]at h
 have h1:=h a ha
 rw[xq]at h1
 exact beq_iff_eq.mp (h1 b hb)
@[irreducible] def vaE:RDn:=fun xs M Q=>∃x n t,xs=[x,.ty n]/\va2 (Ye x M)=some t/\n∈plainTys/\Q (.bl (Zae t n)) M
theorem Ybm{x:D}{n t:String}{M:HpD}{Q:KD}(h:va2 (Ye x M)=some t)(hn:n∈plainTys)(q:Q (.bl (Zae t n)) M):vaE [x,.ty n] M Q:=by unfold vaE;exact⟨x,n,t,rfl,h,hn,q⟩
theorem Ybn:CallR X (.builtin "isinstance") (wt X.K vaE):=by
 intro pins s σ H xs us Q I rx h
 obtain⟨F,ds,M,QD,r,rh,hq,p⟩:=h
 unfold vaE at hq
 obtain⟨d,n,t,rfl,ht,hn,q⟩:=hq
 obtain⟨v,w',rfl,r1,r2⟩:=jak r
 unfold RepD at r2
 subst r2
 obtain⟨u,z,rfl,ru,rz⟩:=waS rx
 obtain rfl:z=Value.type n:=rz
 obtain⟨M1,f1,rh1,rv⟩:=kaG rh r1
 have fin:∀tk,EP X pins σ Q (.bool (Zae t n)) {s with toks:=tk}:=fun tk=>⟨.bl _,H,I.tok tk,rfl,p _ M _ H .refl rh (by unfold RepD;rfl) q⟩
 generalize Ye d M=d' at *
 cases d' with
 | non=>cases ht;unfold RepD at rv;subst rv;exact vO I ru .non (ZT _ (by simp[plainTys]) hn) fin
 | bl b=>cases ht;unfold RepD at rv;subst rv;exact vO I ru (.bl b) (ZT _ (by simp[plainTys]) hn) fin
 | int b=>cases ht;unfold RepD at rv;subst rv;exact vO I ru (.int b) (ZT _ (by simp[plainTys]) hn) fin
 | str b=>cases ht;unfold RepD at rv;subst rv;exact vO I ru (.str b) (ZT _ (by simp[plainTys]) hn) fin
 | ref b=>cases ht
 | ty b=>cases ht
 | fdc _ _=>cases ht
 | tup ds=>
  cases ht
  unfold RepD at rv
  obtain⟨a,xs,rfl,h1,h2⟩:=rv
  cases (show u=Value.ref a from ru)
  obtain⟨its,_,⟨o,e1,e2,_⟩,_⟩:=I.tuple h1.sq
  exact xB PySem.W.kitx_tuple I.kIn ⟨o,e1,e2⟩ (ZT _ (by simp[plainTys]) hn) (fun z=>nomatch z) fin
 | lst ds=>
  cases ht
  unfold RepD at rv
  obtain⟨a,xs,rfl,h1,h2⟩:=rv
  cases (show u=Value.ref a from ru)
  obtain⟨its,_,pl,_⟩:=I.list h1.sq
  obtain⟨o,e1,e2,_⟩:=pl.isList
  exact xB PySem.W.kitx_list I.kIn ⟨o,e1,e2⟩ (ZT _ (by simp[plainTys]) hn) (fun z=>nomatch z) fin
@[irreducible] def ww(to te:TDE):TDE:=fun σ M Q=>to σ M fun x M1=>∃p,x=.ref p/\(∃ds1,M1 p=some (.lst ds1))/\te σ M1 fun y M2=>∃ds,M2 p=some (.lst ds)/\ds.length<sizeLine/\Q .non (wc M2 p (.lst (ds++[y])))
theorem qa2{to te:TDE}{σ:SD}{M:HpD}{Q:KD}(h:to σ M fun x M1=>∃p,x=.ref p/\(∃ds1,M1 p=some (.lst ds1))/\te σ M1 fun y M2=>∃ds,M2 p=some (.lst ds)/\ds.length<sizeLine/\Q .non (wc M2 p (.lst (ds++[y])))):ww to te σ M Q:=by unfold ww;exact h
variable {o e:Expr} {to te:TDE} {apos cpos:Pos}
theorem jQ(ho:ED X o to)(he:ED X e te)(hbase:attributeBase o "append" X.env (eval o X.env)=eval o X.env:=by rfl)
  (hfew:((backTo cpos (starEach (e::[]) X.env)).all (fun x=>!x.1)&&(backToKw cpos (keywordEach [] X.env)).all (fun x=>x.1.isSome)
   && decide ((e::[]).length+([]:List Keyword).length+(if ([]:List Keyword).isEmpty then 0 else 1)<30))=true:=by rfl)
  (hline:(apos.endLine==cpos.line)=true:=by rfl) (hs:starEach (e::[]) X.env=(false,eval e X.env)::starEach [] X.env:=by rfl) (hplain:(backTo cpos (starEach [] X.env)).any (·.1)=false:=by rfl) :
  ED X (.Call (.Attribute o "append" apos) [e] [] cpos) (ww to te):=by
 refine(Yag xn PySem.F.slot_list_append PySem.F.type_list_append (r:=ZaL) Wap ho (WB he pa_nil hs) hbase hfew hline hs hplain).wk fun σ H Q h=>?_
 obtain⟨F,σD,M,QD,rel,h,p⟩:=h
 unfold ww at h
 refine lE rel h fun d M1 v H1 f1 rel1 r1 h1=>?_
 obtain⟨l,rfl,⟨ds1,e1⟩,h1⟩:=h1
 unfold RepD at r1
 subst r1
 obtain⟨o',e',xs,rfl,hr⟩:=rel1.hp.at_ l _ e1
 refine⟨.inl ⟨rfl,xs,.inl (.inl e')⟩,?_⟩
 show Yg X.K te σ H1 _
 refine lE rel1 h1 fun y M2 u H2 f2 rel2 r2 h2=>?_
 obtain⟨ds,e2,hl,q⟩:=h2
 obtain⟨o2,e2',ys,rfl,hr2⟩:=rel2.hp.at_ l _ e2
 have r3:RepO ⟨X.K,F⟩ H2 M2 (.lst (ds++[y])) (.lst (ys++[u])):=⟨_,rfl,hr2.append (.cons r2 .nil)⟩
 exact⟨l,ys,u,rfl,rfl,e2',by rw[←hr2.length];exact hl,p _ _ _ _ ((f1.trans f2).trans (wj e2)) (rel2.hp.write e2 r3) (by unfold RepD;rfl) q⟩
end
noncomputable def Zg(N:List Str)(ds:List D):SD:=ds.map some++ui (N.length - ds.length) none
theorem wap{K:KF}{H:Hp}{M:HpD}{N:List Str}{ds:List D}{vs:List V}(r:RepDs K H M ds vs)(rh:RepH K H M):Rel K (Zg N ds) M (start N vs) H:=by
 have hl:=r.length
 refine⟨by unfold Zg start;simp[hl],fun i d e=>?_,rh⟩
 unfold Zg at e
 by_cases hi:i<ds.length
 ·rw[u8 (by simpa using hi),uG]at e
  cases q:ds[i]? with
  | none=>rw[q]at e;cases e
  | some d'=>
   rw[q]at e;cases e
   obtain⟨v,e1,e2⟩:=r.get q
   refine⟨v,?_,e2⟩
   unfold start
   rw[u8 (by rw[uA,←hl];exact hi),uG,e1]
   rfl
 ·rw[up (by simpa using hi),yF]at e
  split at e<;>cases e
section
variable {P:Program} {w:World} {K:uD} {mg:Str->Option Value} {base:Heap}
theorem Fun.okD{x qual:Str}{st:Stmt}{f:Addr}{fd:FuncData}{N ps:List Str}{k:Nat}{sp:SpD}{t:TSD}(F:Fun K x qual st f fd)(S:Wf N ps (vc st))(len:∀ds M Q,sp ds M Q->ds.length=ps.length)
  (hterm:∀(cdv:Value) (A:Around) (outer:List Env) (s:Shared) (H:Hp) (E:XK),Room k (A.deeper (envOfC qual (vc st) s.heap.objs.size f cdv)) →
   SsD (qV CX0 P w K mg base N qual (vc st) f cdv A outer s H E).nox (Zp st) t)
  (hread:∀ds M Q,sp ds M Q->t {nx:=fun _ M'=>Q .non M',rt:=Q} (Zg N ds) M):ZE P w K mg base CX0 (k+1) f fd ps (YH K sp):=by
 refine F.ok S (fun vs H Q E h=>?_) (fun cdv A outer s H vs Q E hr h=>?_)
 ·obtain⟨F',ds,M,QD,r,rh,hsp,p⟩:=h
  rw[←r.length]
  exact len _ _ _ hsp
 ·obtain⟨F',ds,M,QD,r,rh,hsp,p⟩:=h
  refine⟨wag K t,hterm cdv A outer s H E hr,F',Zg N ds,M,_,wap r rh,hread ds M QD hsp,⟨fun σD' M' σ' H' f rel q=>p _ M' _ H' f rel.hp (by unfold RepD;rfl) q,p,fun _ _ _ _ _ _ h=>h.elim,fun _ _ _ _ _ _ h=>h.elim⟩⟩
theorem Fun.cal{x qual:Str}{st:Stmt}{f:Addr}{fd:FuncData}{ps:List Str}{k:Nat}{sp:SpD}(F:Fun K x qual st f fd)(ok:ZE P w K mg base CX0 k f fd ps (YH K sp))(hm:mg x=some (.ref f))(hb:Binds K fd ps []):Cal P w K mg base x k sp:=
 ⟨f,fd,ps,ok,hm,F.kp,hb⟩
end
noncomputable def k5(scope out:Scope)(N ts rest:List Str):Bool:=
 scope.kind==.function&&scope.names.all (fun y=>scope.names.lookup y.1==some y.2) &&
 scope.names.all (fun y=>y.2 != .free||out.names.lookup y.1==some .cell||out.names.lookup y.1==some .free)&&rest.length==N.length &&
 (rest.zip N).all (fun q=>match scope.names.lookup q.1 with | none=>true | some .free=>q.1==q.2 | some .local=>false | some .cell=>false | _=>true)&&decide (ts++rest).Nodup
theorem kaf{X:Cx}{scope out:Scope}{N ts rest:List Str}(h:k5 scope out N ts rest=true)(hs:X.env.scope.names=out.names:=by rfl)(hN:X.N=N:=by rfl):qm X scope ts rest:=by
 unfold k5 at h
 simp only[xP]at h
 obtain⟨⟨⟨⟨⟨h1,h2⟩,h3⟩,h4⟩,h5⟩,h6⟩:=h
 rw[xq]at h2 h3 h5
 have look:∀y∈scope.names,scope.names.lookup y.1=some y.2:=fun y hy=>beq_iff_eq.mp (h2 y hy)
 refine⟨beq_iff_eq.mp h1,fun y hy e=>by rw[look y hy,e],fun y hy e=>?_,look,by rw[hN];exact beq_iff_eq.mp h4,fun i x e=>?_,of_decide_eq_true h6⟩
 ·have:=h3 y hy
  rw[e]at this
  simp only[bne_self_eq_false,Bool.false_or,Bool.or_eq_true,beq_iff_eq]at this
  show X.env.scope.names.lookup y.1=_\/X.env.scope.names.lookup y.1=_
  rw[hs]
  exact this
 ·have hi:i<rest.length:=(uO.mp e).1
  have hl:rest.length=N.length:=beq_iff_eq.mp h4
  have hz:(rest.zip N)[i]?=some (x,N[i]'(by lia)):=by
   rw[List.getElem?_zip_eq_some]
   exact⟨e,uB (by lia)⟩
  have:=h5 _ (uF hz)
  cases q:scope.names.lookup x with
  | none=>exact .inl rfl
  | some k=>
   rw[show scope.names.lookup (x,N[i]'(by lia)).1=some k from q]at this
   cases k with
   | free=>
    refine .inr (.inl ⟨rfl,?_⟩)
    have:x=N[i]'(by lia):=beq_iff_eq.mp this
    rw[hN,uB (by lia)]
    exact congrArg some this.symm
   | «local»=>cases this
   | cell=>cases this
   | _=>exact .inr (.inr ⟨_,rfl,by decide,by decide,by decide⟩)
noncomputable def waB(scope out:Scope):Scope:=
 {scope with names:=scope.names.map fun(n,k)=>if (k==.free&&out.kind==.function&&out.names.lookup n==some .cell) then (n,.cell) else (n,k)}
abbrev vh:RD2:=rIN fun i j=>.int (i+j)
abbrev jP:RD2:=rIN fun i j=>.int (i - j)
abbrev vP:RD2:=rID CMul fun i j=>.int (i*j)
abbrev XaP:RD2:=rID Wa8 fun i j=>.int (i / j)
abbrev qJ:RD2:=rID (fun _ j=>0<j) fun i j=>.int (i % j)
abbrev jT:RD2:=rID Ya6 fun i j=>.int (i^j.toNat)
abbrev qav:RD2:=rIN fun i j=>.bl (decide (i<j))
abbrev Yam:RD2:=rIN fun i j=>.bl (decide (i<=j))
abbrev wF:RD2:=rIN fun i j=>.bl (decide (j<i))
abbrev jbC:RD2:=rIN fun i j=>.bl (decide (j<=i))
def Y5:SpD:=fun ds M Q=>∃ns:List Int,ds=[.lst (ns.map D.int)]/\ns.length<=63/\M=(fun _=>none)/\∀M',Q (.bl true) M'
theorem Ybv{K:uD}{H:Hp}{a:Addr}{ns:List Int}(hl:ns.length<=63)(hS:SqL K H a (ns.map V.int)):YH K Y5 [.ref a] H (fun v _=>v=.bl true) fun _ _ _=>False:=by
 have ri:∀{K:KF} {H:Hp} {M:HpD} (l:List Int),RepDs K H M (l.map D.int) (l.map V.int):=fun {K H M} l=>by
  induction l with
  | nil=>exact .nil
  | cons x r ih=>exact .cons (by unfold RepD;rfl) ih
 refine⟨fun _=>False,[.lst (ns.map D.int)],fun _=>none,fun d _=>d=.bl true,.cons ?_ .nil,⟨(fun _ _ e=>nomatch e),fun _ z=>False.elim z⟩,⟨ns,rfl,hl,rfl,fun _=>rfl⟩,fun d M' v H' _ _ r e=>?_⟩
 ·unfold RepD
  refine⟨a,_,rfl,?_,ri ns⟩
  rcases hS with h | h
  ·exact .inl ⟨h,rfl,fun z=>z⟩
  ·exact .inr (.inr h)
 ·subst e
  unfold RepD at r
  exact r
end L2
namespace L2
open PySem PySem.W PyProof.Rows
section
variable {r:Nat->Int} {n:Nat}
def PermN(n:Nat)(p:Array Nat):Prop:=p.Perm (xC n).toArray
theorem PermN.size{p:Array Nat}(h:PermN n p):p.size=n:=by
 have:=h.size_eq
 simpa using this
noncomputable def rkV(r:Nat->Int)(p:Array Nat)(k:Nat):Int:=r (p.getD k 0)
def Srt(r:Nat->Int)(p:Array Nat)(m:Nat):Prop:=∀i j,i<=j->j<m->rkV r p i<=rkV r p j
noncomputable abbrev rlt(r:Nat->Int):Nat->Nat->Bool:=fun i j=>decide (r i<r j)
end
section
variable {prog:Program} {w:World} {A:Around} {E:ZVP} {s:Shared}
noncomputable def Yt(vs:List Value)(p:Array Nat):Array Value:=(p.toList.map fun i=>vs.getD i Value.none).toArray
theorem Wah(vs:List Value):Yt vs (xC vs.length).toArray=vs.toArray:=by
 unfold Yt
 congr 1
 apply List.ext_getElem?
 intro i
 rw[uG]
 by_cases h:i<vs.length
 ·rw[List.getElem?_range h,uB h]
  simp[ub,h]
 ·rw[xE (by simp;lia),xE (by lia)]
  rfl
def qbz(prog:Program)(w:World)(A:Around)(s:Shared)(vs ks:List Value)(a:Addr)(r:Nat->Int):Prop:=
 2<=vs.length->∀h':Heap,(∀b o,b≠a->s.heap.get? b=some o->h'.get? b=some o)->∃κ:SortKind,
  (∀(Q:SortKind->Shared->Prop) (E:ZVP),Q κ {s with heap:=h'}->wpAny (model prog w) A (keyKind' ks.toArray) Q E {s with heap:=h'}) ∧
  ∀i j,i<vs.length->j<vs.length->∀C:Bool->Shared->Prop,C (rlt r i j) {s with heap:=h'}->wpAny (model prog w) A (keyLt' κ (ks.getD i Value.none) (ks.getD j Value.none)) C (fun _ _=>False) {s with heap:=h'}
end
end L2
namespace L2
open PySem PySem.Spec PyProof.Rows
structure Zv{α:Type}(lt:α->α->Bool):Prop where
 irr:∀a,lt a a=false
 tr:∀a b c,lt a b=true->lt b c=true->lt a c=true
 tot:∀a b,lt a b=false->lt b a=false->a=b
noncomputable def wac{α:Type}(lt:α->α->Bool)(as:List α)(a:α):Int:=((as.countP fun b=>lt b a:Nat):Int)
theorem Zas{α:Type}{p q:α->Bool}:∀{l:List α},(∀x∈l,p x=true->q x=true)->∀{y:α},y∈l->q y=true->p y=false->l.countP p<l.countP q
 | [],_,_,h,_,_=>nomatch h
 | x::r,hpq,y,h,hq,hp=>by
  have hle:r.countP p<=r.countP q:=List.countP_mono_left fun z hz=>hpq z (uW _ hz)
  rcases uZ.mp h with rfl | h
  ·rw[List.countP_cons_of_neg (by rw[hp];exact uK),yG hq];lia
  ·have ih:=Zas (l:=r) (fun z hz=>hpq z (uW _ hz)) h hq hp
   by_cases a:p x=true
   ·rw[yG a,yG (hpq x uc a)];lia
   ·rw[List.countP_cons_of_neg a]
    by_cases b:q x=true
    ·rw[yG b];lia
    ·rw[List.countP_cons_of_neg b];exact ih
theorem kak{α:Type}{lt:α->α->Bool}(L:Zv lt){as:List α}{a b:α}(ha:a∈as)(hb:b∈as):decide (wac lt as a<wac lt as b)=lt a b:=by
 unfold wac
 cases q:lt a b with
 | true=>
  have:=Zas (p:=fun c=>lt c a) (q:=fun c=>lt c b) (l:=as) (fun x _ h=>L.tr x a b h q) ha q (L.irr a)
  exact decide_eq_true (by lia)
 | false=>
  have:as.countP (fun c=>lt c b)<=as.countP (fun c=>lt c a):=List.countP_mono_left fun x _ h=>by
   cases z:lt b a with
   | true=>exact L.tr x b a h z
   | false=>rw[L.tot a b q z];exact h
  exact decide_eq_false (by lia)
noncomputable def ltF:D->D->Bool
 | .int a,.int b=>decide (a<b)
 | .str a,.str b=>decide (a.cps.toList<b.cps.toList)
 | _,_=>false
noncomputable def W8:D->D->Bool
 | .int _,.int _=>true
 | .str _,.str _=>true
 | _,_=>false
noncomputable def ltT:List D->List D->Bool
 | a::r,b::s=>if eqD a b=true then ltT r s else ltF a b
 | [],_::_=>true
 | _,_=>false
noncomputable def jB:List D->List D->Bool
 | a::r,b::s=>okD a b&&(if eqD a b=true then jB r s else W8 a b)
 | _,_=>true
noncomputable def ltD:D->D->Bool
 | .tup a,.tup b=>ltT a b
 | d,e=>ltF d e
inductive Zam (ds:List D):Prop
 | kI (h:∀d∈ds,∃i,d=.int i)
 | kS (h:∀d∈ds,∃i,d=.str i)
 | tupI (h:∀d∈ds,∃i r,d=.tup (.int i::r)/\Xh (.int i::r)<=60) (c:∀a b,D.tup a∈ds->D.tup b∈ds->jB a b=true)
 | tupS (h:∀d∈ds,∃i r,d=.tup (.str i::r)/\Xh (.str i::r)<=60) (c:∀a b,D.tup a∈ds->D.tup b∈ds->jB a b=true)
section
variable {X:Cx} {pins:ZPO} {σ:St} {H:Hp} {s:Shared} {F:Addr->Prop} {M:HpD}
theorem qai{fl:Bool}{A:Around}{E:ZVP}{a b:D}{x y:V}{u v:Value}{Q:Bool->Shared->Prop}(c:W8 a b=true)(r1:RepD ⟨X.K,F⟩ H M a x)(r2:RepD ⟨X.K,F⟩ H M b y)(q1:RelV x u)(q2:RelV y v)(h:Q (ltF a b) s) :
  wpAny (model X.prog X.w) A (oneLt' fl u v) Q E s:=by
 cases a<;>cases b<;>first | (unfold W8 at c;cases c;done) | skip
 ·unfold RepD at r1 r2
  subst r1 r2
  obtain⟨t1,rfl⟩:=q1
  obtain⟨t2,rfl⟩:=q2
  cases fl with
  | true=>exact oneLt_int h
  | false=>exact PySem.W.kat_one _ _ (PyProof.Rows.lt_int h)
 ·unfold RepD at r1 r2
  subst r1 r2
  obtain⟨t1,rfl⟩:=q1
  obtain⟨t2,rfl⟩:=q2
  cases fl with
  | true=>exact oneLt_str h
  | false=>exact PySem.W.kat_one _ _ (PyProof.Rows.lt_str h)
theorem Zaz(I:Inv X pins σ H s){A:Around}{fin:Bool}{Q:Bool->Shared->Prop}:∀(as bs:List D) {xs ys:List V} {us vs:List Value} (i:Nat),jB as bs=true->A.units+Xh as<cLine->RepDs ⟨X.K,F⟩ H M as xs->RepDs ⟨X.K,F⟩ H M bs ys->Vals xs us->Vals ys vs->fin=decide (us.length<vs.length)->Q (ltT as bs) s->PySem.W.KatLex X.prog X.w A true fin Q (us.zip vs) i s
 | [],bs,xs,ys,us,vs,i,c,hu,r1,r2,q1,q2,hf,h=>by
  have l1:us.length=0:=by rw[←q1.length,←r1.length];rfl
  have:us=[]:=ut.mp l1
  subst this
  rw[List.zip_nil_left]
  refine PySem.W.kat_nil ?_
  have l2:vs.length=bs.length:=by rw[←q2.length,←r2.length]
  rw[hf]
  cases bs with
  | nil=>rw[show decide (([]:List Value).length<vs.length)=false from decide_eq_false (by rw[l2];exact u7 _)];unfold ltT at h;exact h
  | cons b t=>rw[show decide (([]:List Value).length<vs.length)=true from decide_eq_true (by rw[l2];exact Nat.succ_pos _)];unfold ltT at h;exact h
 | a::r,bs,xs,ys,us,vs,i,c,hu,r1,r2,q1,q2,hf,h=>by
  cases bs with
  | nil=>
   have l2:vs.length=0:=by rw[←q2.length,←r2.length];rfl
   have:vs=[]:=ut.mp l2
   subst this
   rw[List.zip_nil_right]
   refine PySem.W.kat_nil ?_
   rw[hf,show decide (us.length<([]:List Value).length)=false from decide_eq_false (Nat.not_lt_zero _)]
   unfold ltT at h
   exact h
  | cons b t=>
   unfold RepDs at r1 r2
   obtain⟨x,xr,rfl,ra,rr⟩:=r1
   obtain⟨y,yr,rfl,rb,rt⟩:=r2
   cases q1 with
   | cons p1 p2=>
    cases q2 with
    | cons p3 p4=>
     rw[yK]
     unfold jB at c
     rw[xP]at c
     unfold Xh at hu
     refine PySem.W.kat_cons ?_
     refine Yav I a b A c.1 (by lia) ra rb p1 p3 X.prog X.w _ _ ?_
     unfold ltT at h
     cases e:eqD a b with
     | true=>
      rw[e]at c h
      rw[if_pos rfl]at h
      refine PySem.W.kat_yes ?_
      refine Zaz I r t (i+1) (by simpa using c.2) (by lia) rr rt p2 p4 ?_ h
      rw[hf]
      simp only[uj]
      congr 1
      simp
     | false=>
      rw[e]at c h
      rw[if_neg uK]at h
      refine PySem.W.kat_no ?_
      exact qai (by simpa using c.2) ra rb p1 p3 h
theorem kan(I:Inv X pins σ H s):∀(ds:List D) {xs:List V} {us:List Value},(∀d∈ds,∃h r,d=.tup (h::r))->RepDs ⟨X.K,F⟩ H M ds xs->Vals xs us →
  ∃(fs:List Value),fs.length=us.length/\PySem.W.KatTups s.heap us fs/\∀f∈fs,∃h r x,D.tup (h::r)∈ds/\RepD ⟨X.K,F⟩ H M h x/\RelV x f
 | [],xs,us,_,r,q=>by
  unfold RepDs at r
  subst r
  cases q
  exact⟨[],rfl,.nil,fun f hf=>nomatch hf⟩
 | d::ds,xs,us,hd,r,q=>by
  unfold RepDs at r
  obtain⟨x,xr,rfl,r1,r2⟩:=r
  cases q with
  | cons q1 q2=>
   obtain⟨hh,tl,rfl⟩:=hd _ uc
   obtain⟨fs,l,kt,hf⟩:=kan I ds (fun d h=>hd d (uW _ h)) r2 q2
   unfold RepD at r1
   obtain⟨p,ys,rfl,h1,h2⟩:=r1
   cases q1
   obtain⟨its,v1,⟨o,ho,hc,n,hdt⟩,_⟩:=I.tuple h1.sq
   unfold RepDs at h2
   obtain⟨y,yr,rfl,ry,_⟩:=h2
   cases v1 with
   | @cons _ u0 _ _ z1 z2=>
    refine⟨u0::fs,by simp[l],.cons ho hc hdt (by simp) kt,fun f hf'=>?_⟩
    rcases uZ.mp hf' with rfl | hf'
    ·exact⟨hh,tl,y,uc,ry,z1⟩
    ·obtain⟨h',r',x',m1,m2,m3⟩:=hf f hf'
     exact⟨h',r',x',uW _ m1,m2,m3⟩
theorem Wbd(I:Inv X pins σ H s){A:Around}{ds:List D}{xs:List V}{us:List Value}(hA:A.units+70<cLine)(h2:2<=us.length)(k:Zam ds)(r:RepDs ⟨X.K,F⟩ H M ds xs)(q:Vals xs us):∃κ:SortKind,
  (∀(Q:SortKind->Shared->Prop) (E:ZVP),Q κ s->wpAny (model X.prog X.w) A (keyKind' us.toArray) Q E s) ∧
  ∀(i j:Nat) (d e:D),ds[i]?=some d->ds[j]?=some e->∀C:Bool->Shared->Prop,C (ltD d e) s->wpAny (model X.prog X.w) A (keyLt' κ (us.getD i Value.none) (us.getD j Value.none)) C (fun _ _=>False) s:=by
 have at_:∀(i:Nat) (d:D),ds[i]?=some d->∃x u,RepD ⟨X.K,F⟩ H M d x/\RelV x u/\us.getD i Value.none=u/\u∈us:=fun i d e=>by
  obtain⟨x,e1,r1⟩:=r.get e
  obtain⟨u,e2,q1⟩:=q.get e1
  exact⟨x,u,r1,q1,by rw[ub,e2];rfl,uF e2⟩
 have back:∀u∈us,∃d x,d∈ds/\RepD ⟨X.K,F⟩ H M d x/\RelV x u:=fun u hu=>by
  obtain⟨i,hi,e⟩:=uu hu
  have hx:i<xs.length:=by rw[q.length];exact hi
  obtain⟨u',e2,q1⟩:=q.get (uB hx)
  rw[uB hi,e]at e2
  cases e2
  obtain⟨d,e3,r1⟩:=r.get' (uB hx)
  exact⟨d,_,uF e3,r1,q1⟩
 have tups:(∀d∈ds,∃h t,d=.tup (h::t))->∀(T:String),(∀h t x u,D.tup (h::t)∈ds->RepD ⟨X.K,F⟩ H M h x->RelV x u->PySem.W.Looks (model X.prog X.w) s.heap (typeOf u) (.type T))->((Value.type T != Value.type "tuple")=true)->((Value.type T==Value.type T)=true) →
   (∀d∈ds,∃l,d=.tup l/\Xh l<=60)->(∀a b,D.tup a∈ds->D.tup b∈ds->jB a b=true)->∃κ:SortKind,
  (∀(Q:SortKind->Shared->Prop) (E:ZVP),Q κ s->wpAny (model X.prog X.w) A (keyKind' us.toArray) Q E s) ∧
  ∀(i j:Nat) (d e:D),ds[i]?=some d->ds[j]?=some e->∀C:Bool->Shared->Prop,C (ltD d e) s->wpAny (model X.prog X.w) A (keyLt' κ (us.getD i Value.none) (us.getD j Value.none)) C (fun _ _=>False) s:=by
  intro hd T hT hT1 hT2 hdep hc
  obtain⟨fs,hl,kt,hf⟩:=kan I ds hd r q
  refine⟨tuples' true,fun Q E h=>?_,fun i j d e e1 e2 C h=>?_⟩
  ·refine PySem.W.kat_kind (T:=.type T) kt (by lia) (fun f hf'=>?_) hT2 (by rw[hT1];exact h)
   obtain⟨h',t',x',m1,m2,m3⟩:=hf f hf'
   exact hT h' t' x' f m1 m2 m3
  ·obtain⟨x1,u1,r1,q1,g1,_⟩:=at_ i d e1
   obtain⟨x2,u2,r2,q2,g2,_⟩:=at_ j e e2
   have md:=uF e1
   have me:=uF e2
   obtain⟨l1,rfl,dp⟩:=hdep d md
   obtain⟨l2,rfl,_⟩:=hdep e me
   rw[g1,g2]
   unfold RepD at r1 r2
   obtain⟨p1,ys1,rfl,s1,rs1⟩:=r1
   obtain⟨p2,ys2,rfl,s2,rs2⟩:=r2
   cases q1
   cases q2
   obtain⟨i1,v1,⟨o1,ho1,_,n1,hd1⟩,_⟩:=I.tuple s1.sq
   obtain⟨i2,v2,⟨o2,ho2,_,n2,hd2⟩,_⟩:=I.tuple s2.sq
   refine PySem.W.kat_lt ho1 hd1 ho2 hd2 ?_
   exact Zaz I l1 l2 0 (hc _ _ md me) (by lia) rs1 rs2 v1 v2 (by simp) h
 cases k with
 | kI h=>
  refine⟨oneType',fun Q E hq=>?_,fun i j d e e1 e2 C hC=>?_⟩
  ·refine PySem.W.kas_kind (T:=.type "int") h2 (fun u hu=>?_) (by decide) (by decide) hq
   obtain⟨d,x,md,r1,q1⟩:=back u hu
   obtain⟨n,rfl⟩:=h d md
   unfold RepD at r1
   subst r1
   obtain⟨t,rfl⟩:=q1
   exact PySem.W.Looks.of_pure rfl
  ·obtain⟨x1,u1,r1,q1,g1,_⟩:=at_ i d e1
   obtain⟨x2,u2,r2,q2,g2,_⟩:=at_ j e e2
   obtain⟨n1,rfl⟩:=h d (uF e1)
   obtain⟨n2,rfl⟩:=h e (uF e2)
   rw[g1,g2,keyLt'_oneType]
   exact qai (by rfl) r1 r2 q1 q2 hC
 | kS h=>
  refine⟨oneType',fun Q E hq=>?_,fun i j d e e1 e2 C hC=>?_⟩
  ·refine PySem.W.kas_kind (T:=.type "str") h2 (fun u hu=>?_) (by decide) (by decide) hq
   obtain⟨d,x,md,r1,q1⟩:=back u hu
   obtain⟨n,rfl⟩:=h d md
   unfold RepD at r1
   subst r1
   obtain⟨t,rfl⟩:=q1
   exact PySem.W.Looks.of_pure rfl
  ·obtain⟨x1,u1,r1,q1,g1,_⟩:=at_ i d e1
   obtain⟨x2,u2,r2,q2,g2,_⟩:=at_ j e e2
   obtain⟨n1,rfl⟩:=h d (uF e1)
   obtain⟨n2,rfl⟩:=h e (uF e2)
   rw[g1,g2,keyLt'_oneType]
   exact qai (by rfl) r1 r2 q1 q2 hC
 | tupI h c=>
  refine tups (fun d hd=>?_) "int" (fun hh t x u m r1 q1=>?_) (by decide) (by decide) (fun d hd=>?_) c
  ·obtain⟨i,r,rfl,_⟩:=h d hd;exact⟨_,_,rfl⟩
  ·obtain⟨i,r,e,_⟩:=h _ m
   cases e
   unfold RepD at r1
   subst r1
   obtain⟨t,rfl⟩:=q1
   exact PySem.W.Looks.of_pure rfl
  ·obtain⟨i,r,rfl,z⟩:=h d hd;exact⟨_,rfl,z⟩
 | tupS h c=>
  refine tups (fun d hd=>?_) "str" (fun hh t x u m r1 q1=>?_) (by decide) (by decide) (fun d hd=>?_) c
  ·obtain⟨i,r,rfl,_⟩:=h d hd;exact⟨_,_,rfl⟩
  ·obtain⟨i,r,e,_⟩:=h _ m
   cases e
   unfold RepD at r1
   subst r1
   obtain⟨t,rfl⟩:=q1
   exact PySem.W.Looks.of_pure rfl
  ·obtain⟨i,r,rfl,z⟩:=h d hd;exact⟨_,rfl,z⟩
end
noncomputable def qL{α:Type}(lt:α->α->Bool)(as:List α)(i:Nat):Int:=match as[i]? with
 | some a=>wac lt as a
 | none=>0
theorem XD{α:Type}{lt:α->α->Bool}{as:List α}{i:Nat}{a:α}(h:as[i]?=some a):qL lt as i=wac lt as a:=by unfold qL;rw[h]
theorem Xao{α:Type}(as:List α):∀n:Nat,(xC n).filterMap (fun i=>as[i]?)=as.take n
 | 0=>rfl
 | n+1=>by
  rw[List.range_succ,List.filterMap_append,Xao as n,ud]
  congr 1
theorem WaR{α:Type}(as:List α):(xC as.length).filterMap (fun i=>as[i]?)=as:=by
 rw[Xao,ug]
section
variable {K:KF} {H:Hp} {M:HpD}
theorem Xab{ds:List D}{xs:List V}(r:RepDs K H M ds xs):∀(l:List Nat),(∀i∈l,i<ds.length)->RepDs K H M (l.filterMap fun i=>ds[i]?) (l.filterMap fun i=>xs[i]?)
 | [],_=>.nil
 | i::l,h=>by
  have hi:=h i uc
  obtain⟨x,e1,r1⟩:=r.get (uB hi)
  rw[List.filterMap_cons_some (uB hi),List.filterMap_cons_some e1]
  exact .cons r1 (Xab r l fun j hj=>h j (uW _ hj))
theorem kZ{xs:List V}{us:List Value}(q:Vals xs us):∀(l:List Nat),(∀i∈l,i<xs.length)->Vals (l.filterMap fun i=>xs[i]?) (l.map fun i=>us.getD i Value.none)
 | [],_=>.nil
 | i::l,h=>by
  have hi:=h i uc
  obtain⟨u,e1,r1⟩:=q.get (uB hi)
  rw[List.filterMap_cons_some (uB hi),uH,ub,e1]
  exact .cons r1 (kZ q l fun j hj=>h j (uW _ hj))
end
theorem waw{α:Type}(enc:α->D)(as:List α)(l:List Nat):(l.filterMap fun i=>(as.map enc)[i]?)=(l.filterMap fun i=>as[i]?).map enc:=by
 rw[List.map_filterMap]
 congr 1
 funext i
 rw[uG]
theorem Z7{α:Type}{lt:α->α->Bool}(L:Zv lt){as:List α}{p:Array Nat}(hp:PermN as.length p)(hs:Srt (qL lt as) p as.length) :
  (∀i∈p.toList,i<as.length)/\(p.toList.filterMap fun i=>as[i]?).Perm as/\(p.toList.filterMap fun i=>as[i]?).Pairwise (fun a b=>lt b a=false):=by
 have hl:p.toList.Perm (xC as.length):=by
  have:=hp.toList
  simpa using this
 have hb:∀i∈p.toList,i<as.length:=fun i hi=>xf.mp (hl.mem_iff.mp hi)
 refine⟨hb,?_,?_⟩
 ·have:=hl.filterMap (fun i=>as[i]?)
  rw[WaR]at this
  exact this
 ·have hpw:p.toList.Pairwise fun i j=>qL lt as i<=qL lt as j:=by
   rw[xH]
   intro i j hi hj hij
   have hz:=hp.size
   have e:∀k (hk:k<p.toList.length),p.toList[k]=p.getD k 0:=fun k hk=>by
    have:k<p.size:=by simpa using hk
    simp[Array.getD,this]
   rw[e,e]
   exact hs i j (by lia) (by rw[uU]at hj;lia)
  rw[List.pairwise_filterMap]
  refine hpw.imp_of_mem ?_
  intro i j hi hj hr a ea b eb
  rw[XD ea,XD eb]at hr
  have:=kak L (uF eb) (uF ea)
  rw[←this]
  exact decide_eq_false (by lia)
noncomputable abbrev TGI:=SD->HpD->(List D->(HpD->Prop)->HpD->Prop)->Prop
def ZaT(K:uD)(F:Addr->Prop)(J:It)(ds:List D)(Gd:HpD->Prop)(M:HpD)(H:Hp):Prop:=
 ∀F' i M' H',(∀a,F' a->F a\/H a=none)->Fz M H M' H'->RepH ⟨K,F'⟩ H' M'->Gd M'->(∀d,ds[i]?=some d->J.go i H'/\∀x H3,J.yld i H' x H3->Fz M' H' M' H3/\RepH ⟨K,F'⟩ H3 M'/\RepD ⟨K,F'⟩ H3 M' d x)/\(ds.length<=i->J.stop i H')
def vav(K:uD)(t:TGI):TI:=fun σ H R=>∃F σD M RD,Rel ⟨K,F⟩ σD M σ H/\t σD M RD/\∀ds Gd M' H' J,Fz M H M' H'->RepH ⟨K,F⟩ H' M'->ZaT K F J ds Gd M' H'->RD ds Gd M'->R J H'
abbrev IDG(X:Cx)(tg e:Expr)(t:TGI):Prop:=PI X tg e (vav X.K t)
@[irreducible] def Yv(tI:TGI)(g:TDG)(tb:TSD):TSD:=fun DD σ M=>tI σ M fun ds Gd M1=>∃Pv:Nat->SD->HpD->Prop,Pv 0 σ M1/\(∀i σ M,Pv i σ M->Gd M) ∧
 (∀i d σ M,ds[i]?=some d->Pv i σ M->g d σ M fun σ2 M2=>tb {DD with nx:=Pv (i+1),ct:=Pv (i+1),bk:=DD.nx} σ2 M2)/\∀σ M,Pv ds.length σ M->DD.nx σ M
theorem qaJ{tI:TGI}{g:TDG}{tb:TSD}{DD:jn}{σ:SD}{M:HpD}(h:tI σ M fun ds Gd M1=>∃Pv:Nat->SD->HpD->Prop,Pv 0 σ M1/\(∀i σ M,Pv i σ M->Gd M) ∧
 (∀i d σ M,ds[i]?=some d->Pv i σ M->g d σ M fun σ2 M2=>tb {DD with nx:=Pv (i+1),ct:=Pv (i+1),bk:=DD.nx} σ2 M2)/\∀σ M,Pv ds.length σ M->DD.nx σ M):Yv tI g tb DD σ M:=by unfold Yv;exact h
@[irreducible] def Xm(n:Nat)(tI:TGI)(g:TDG)(tc:TDT)(te:TDE):TDE:=fun σ M Q=>tI σ M fun ds Gd M1=>ds.length<=sizeLine/\∃Pv:Nat->List D->SD->HpD->Prop,Pv 0 [] (ui n none++σ) M1/\(∀i ys σ M,Pv i ys σ M->Gd M) ∧
 (∀i d ys σ M,ds[i]?=some d->Pv i ys σ M->g d σ M fun σ2 M2=>tc σ2 M2 fun b M3=>if b=true then te σ2 M3 fun y M4=>Pv (i+1) (ys++[y]) σ2 M4 else Pv (i+1) ys σ2 M3)/\∀ys σ M,Pv ds.length ys σ M->newL ys M Q
theorem WaE{n:Nat}{tI:TGI}{g:TDG}{tc:TDT}{te:TDE}{σ:SD}{M:HpD}{Q:KD}(h:tI σ M fun ds Gd M1=>ds.length<=sizeLine/\∃Pv:Nat->List D->SD->HpD->Prop,Pv 0 [] (ui n none++σ) M1/\(∀i ys σ M,Pv i ys σ M->Gd M) ∧
 (∀i d ys σ M,ds[i]?=some d->Pv i ys σ M->g d σ M fun σ2 M2=>tc σ2 M2 fun b M3=>if b=true then te σ2 M3 fun y M4=>Pv (i+1) (ys++[y]) σ2 M4 else Pv (i+1) ys σ2 M3)/\∀ys σ M,Pv ds.length ys σ M->newL ys M Q):Xm n tI g tc te σ M Q:=by unfold Xm;exact h
section
variable {X:Cx} {tg iter elt:Expr} {ifs:List Expr} {scope:Scope} {body:List Stmt} {tI:TGI} {g:TDG} {tb:TSD} {tc:TDT} {te:TDE} {ts rest:List Str} {pos:Pos}
theorem Zw(hi:IDG X tg iter tI)(hg:GD X tg g)(hb:SsD X body tb)(hp:PassesOwn (model X.prog X.w) X.A X.env X.xe:=by exact PassesOwn.never)(hc:X.calm=true:=by rfl)
  (hs:∀x,foldedSetIterable iter X.env x=pure x:=by intro _;rfl):StD X (.For tg iter body [] pos) (Yv tI g tb):=by
 refine(waX hp hc hi hg hb hs).wk fun D' σ H w1_=>w1_.elim fun F z_=>z_.elim fun σD z_=>z_.elim fun M z_=>z_.elim fun DD z_=>z_.elim fun rel z_=>z_.elim fun h p=>?_
 unfold Yv at h
 refine⟨F,σD,M,_,rel,h,fun ds Gd M1 H1 J f1 rh1 y h1=>?_⟩
 obtain⟨Pv,p0,gd,step,done⟩:=h1
 refine⟨fun i m σ' H'=>m=ds.length - i/\i<=ds.length/\∃σD' M',Rel ⟨X.K,F⟩ σD' M' σ' H'/\Fz M1 H1 M' H'/\Pv i σD' M',⟨ds.length,by simp,ua _,σD,M1,rel.mono f1 rh1,.refl,p0⟩,?_⟩
 rintro i m σ' H' ⟨rfl,hi,σD',M',rel',f',pv⟩
 by_cases hlt:i<ds.length
 ·have e:ds[i]?=some ds[i]:=uB hlt
  obtain⟨go,yl⟩:=(y F i M' H' (fun _ z=>.inl z) f' rel'.hp (gd _ _ _ pv)).1 _ e
  refine .inr ⟨go,fun σ2 H2=>∃σD2 M2,Rel ⟨X.K,F⟩ σD2 M2 σ2 H2/\Fz M1 H1 M2 H2/\Pv (i+1) σD2 M2,fun σ2 H2 w1_=>w1_.elim fun σD2 z_=>z_.elim fun M2 z_=>z_.elim fun a1 z_=>z_.elim fun a2 a3=>⟨ds.length - (i+1),by lia,rfl,hlt,σD2,M2,a1,a2,a3⟩,fun x H2 yy=>?_⟩
  obtain⟨fy,rhy,ry⟩:=yl x H2 yy
  have rel2:=rel'.mono fy rhy
  refine⟨F,ds[i],σD',M',_,rel2,ry,step i _ σD' M' e pv,fun σD3 M3 σ3 H3 f3 rel3 h3=>?_⟩
  have ff:=(f'.trans fy).trans f3
  refine lS rel3 h3 ⟨fun a b c d f r q=>⟨a,b,r,ff.trans f,q⟩,(p.mono (f1.trans ff)).rt,fun a b c d f r q=>(p.mono (f1.trans ff)).nx a b c d f r q,fun a b c d f r q=>⟨a,b,r,ff.trans f,q⟩⟩
 ·have e:i=ds.length:=by lia
  subst e
  exact .inl ⟨(y F _ M' H' (fun _ z=>.inl z) f' rel'.hp (gd _ _ _ pv)).2 (uJ _),p.nx _ _ _ _ (f1.trans f') rel' (done _ _ pv)⟩
theorem Yah{K:uD}{n:Nat}{σ:St}{H:Hp}{Q:VK}(h:Yg K (Xm n tI g tc te) σ H Q):kau n (vav K tI) (ZH K g) (wG K tc) (Yg K te) σ H Q:=by
 obtain⟨F,σD,M,QD,rel,h,p⟩:=h
 unfold Xm at h
 refine⟨F,σD,M,_,rel,h,fun ds Gd M1 H1 J f1 rh1 y h1=>?_⟩
 intro D' hD
 obtain⟨hsz,Pv,p0,gd,step,done⟩:=h1
 have mD:=rh1.free hD
 have fF:∀a,(F a\/a=D')->F a\/H1 a=none:=fun a z=>z.elim .inl fun e=>.inr (e▸hD)
 have rel1:=rel.mono f1 rh1
 have relS:Rel ⟨K,fun a=>F a\/a=D'⟩ (ui n none++σD) M1 (ui n none++σ) (upd H1 D' (.lst [])):=by
  have r1:Rel ⟨K,F⟩ (ui n none++σD) M1 (ui n none++σ) H1:=rel1.pad n
  refine⟨r1.len,fun i d e=>?_,⟨fun a o e=>?_,fun a z=>?_⟩⟩
  ·obtain⟨v,e1,e2⟩:=r1.st i d e
   exact⟨v,e1,(e2.more fF).mono (Wm hD)⟩
  ·obtain⟨o',e',r⟩:=rh1.at_ a o e
   exact⟨o',by rw[Yd (jd e' hD)];exact e',(r.more fF).mono (Wm hD)⟩
  ·rcases z with z | rfl
   ·obtain⟨⟨o',e'⟩,m'⟩:=rh1.fb a z
    exact⟨⟨o',by rw[Yd (jd e' hD)];exact e'⟩,m'⟩
   ·exact⟨⟨⟨(HO.lst []:HO),by intro _ z;cases z⟩,Wg⟩,mD⟩
 refine⟨fun i m ys σ' H'=>m=ds.length - i/\i<=ds.length/\ys.length<=i/\H' D'=some (.lst ys)/\∃σD' M' ysD,Rel ⟨K,fun a=>F a\/a=D'⟩ σD' M' σ' H'/\Fz M1 H1 M' H'/\RepDs ⟨K,fun a=>F a\/a=D'⟩ H' M' ysD ys/\Pv i ysD σD' M',
  ⟨ds.length,by simp,ua _,ua _,Wg,_,M1,[],relS,Wm hD,.nil,p0⟩,?_⟩
 rintro i m ys σ' H' ⟨rfl,hi,hyl,eD,σD',M',ysD,rel',f',ry,pv⟩
 have mD':M' D'=none:=(rel'.hp.fb D' (.inr rfl)).2
 by_cases hlt:i<ds.length
 ·have e:ds[i]?=some ds[i]:=uB hlt
  obtain⟨go,yl⟩:=(y _ i M' H' fF f' rel'.hp (gd _ _ _ _ pv)).1 _ e
  refine .inr ⟨go,fun x H2 yy=>?_⟩
  obtain⟨fy,rhy,rx⟩:=yl x H2 yy
  have eD2:=(fy D' _ eD mD').1
  refine⟨_,ds[i],σD',M',_,rel'.mono fy rhy,rx,step i _ ysD σD' M' e pv,fun σD3 M3 σ3 H3 f3 rel3 h3=>?_⟩
  refine lT rel3 h3 fun b M4 H4 f4 rel4 h4=>?_
  have f14:Fz M1 H1 M4 H4:=((f'.trans fy).trans f3).trans f4
  have fD4:Fz M' H' M4 H4:=(fy.trans f3).trans f4
  cases b with
  | false=>
   simp only[ue,if_false]at h4 ⊢
   exact⟨ds.length - (i+1),by lia,rfl,hlt,by lia,(fD4 D' _ eD mD').1,σD3,M4,ysD,rel4,f14,ry.mono fD4,h4⟩
  | true=>
   simp only[if_true]at h4 ⊢
   refine lE rel4 h4 fun yd M5 v H5 f5 rel5 r5 h5=>?_
   have fD5:=fD4.trans f5
   obtain⟨eD5,mD5⟩:=fD5 D' _ eD mD'
   have hF:(KF.mk K fun a=>F a\/a=D').F D':=.inr rfl
   refine⟨eD5,by lia,ds.length - (i+1),by lia,rfl,hlt,by rw[uE,ur];lia,Wg,σD3,M5,ysD++[yd],rel5.past hF,fun a o q z=>?_,((ry.mono fD5).append (.cons r5 .nil)).past hF,h5⟩
   obtain⟨q1,q2⟩:=(f14.trans f5) a o q z
   exact⟨by rw[Yd (jd q hD)];exact q1,q2⟩
 ·have e:i=ds.length:=by lia
  subst e
  refine .inl ⟨(y _ _ M' H' fF f' rel'.hp (gd _ _ _ _ pv)).2 (uJ _),eD,?_⟩
  have fL:∀a,F a->(F a\/a=D')\/H' a=none:=fun a z=>.inl (.inl z)
  have rhE:RepH ⟨K,F⟩ H' M':=⟨fun a o q=>by
   obtain⟨o',e',r⟩:=rel'.hp.at_ a o q
   exact⟨o',e',r.more fL⟩,fun a z=>rel'.hp.fb a (.inl z)⟩
  have hn:=done ysD σD' M' pv
  unfold newL at hn
  obtain⟨hl,hn⟩:=hn
  have nf:¬F D':=rh1.nf hD
  rcases hn with hn | hn
  ·exact p _ M' _ H' (f1.trans f') rhE (by unfold RepD;exact⟨D',ys,rfl,.inl ⟨.inl eD,mD',nf⟩,ry.more fL⟩) hn
  ·refine p _ (wc M' D' (.lst ysD)) _ H' (f1.trans fun a o q z=>?_) ⟨fun a o q=>?_,fun a z=>⟨(rhE.fb a z).1,?_⟩⟩ (by unfold RepD;rfl) (hn D' mD')
   ·obtain⟨q1,q2⟩:=f' a o q z
    exact⟨q1,by rw[Xb (jd q hD)];exact q2⟩
   ·by_cases qa:a=D'
    ·rw[qa,Xc]at q;cases q
     rw[qa]
     refine⟨_,eD,ys,rfl,?_⟩
     exact RepDs.own (F':=fun a=>F a\/a=D') (.inr rfl) fL ry
    ·rw[Xb qa]at q
     obtain⟨o',e',r⟩:=rel'.hp.at_ a o q
     exact⟨o',e',RepO.own (F':=fun a=>F a\/a=D') (.inr rfl) fL r⟩
   ·rw[Xb (fun(z':a=D')=>nf (by rw[←z'];exact z))];exact(rhE.fb a z).2
theorem ku(S:qm X scope ts rest)(hi:IDG X tg iter tI)
  (hg:∀fp s H,GD (Xe X scope ts rest fp s H) tg g) (ht:∀fp s H,FD (Xe X scope ts rest fp s H) ifs tc) (he:∀fp s H,ED (Xe X scope ts rest fp s H) elt te)
  (hc:X.calm=true:=by rfl) (hs:∀x,foldedSetIterable iter X.env x=pure x:=by intro _;rfl):ED X (.ListComp elt [⟨tg,iter,ifs,0⟩] scope pos) (Xm ts.length tI g tc te):=
 (XaK (g:=ZH X.K g) (tc:=wG X.K tc) (te:=Yg X.K te) hc S hi hg ht he hs).wk fun _ _ _ h=>Yah h
theorem WaB(i:Nat){x:Str}{pos' spos:Pos}(S:qm X scope ts rest)(hi:IDG X tg iter tI)
  (hg:∀fp s H,GD (Xe X scope ts rest fp s H) tg g) (ht:∀fp s H,FD (Xe X scope ts rest fp s H) ifs tc) (he:∀fp s H,ED (Xe X scope ts rest fp s H) elt te)
  (hN:X.N.Nodup) (hx:X.N[i]?=some x) (hl:Loc X.env.scope x) (hc:X.calm=true:=by rfl)
  (hsw:swapsWith (.ListComp elt [⟨tg,iter,ifs,0⟩] scope pos) (some (.Name x pos')) spos.line X.env=pure true:=by rfl)
  (hs:∀x,foldedSetIterable iter X.env x=pure x:=by intro _;rfl) (hf:X.fn x=true\/X.env.scope.names.lookup x=some .local:=by first | exact .inl rfl | exact .inr rfl | assumption) :
  StD X (.Assign [.Name x pos'] (.ListComp elt [⟨tg,iter,ifs,0⟩] scope pos) spos) (jc (Xm ts.length tI g tc te) (Zb i)):=by
 refine(waG (g:=ZH X.K g) (tc:=wG X.K tc) (te:=Yg X.K te) hc S hi hg ht he hN hx hl hsw hs hf).wk fun D' σ H w1_=>w1_.elim fun F z_=>z_.elim fun σD z_=>z_.elim fun M z_=>z_.elim fun DD z_=>z_.elim fun rel z_=>z_.elim fun h p=>?_
 unfold jc at h
 refine Yah ⟨F,σD,M,_,rel,h,fun d M1 v H1 f1 rh1 r1 h1=>?_⟩
 unfold Zb at h1
 exact(p.mono f1).nx _ M1 _ H1 .refl ((rel.mono f1 rh1).set i r1) h1
end
@[irreducible] def qj(te:TDE):TGI:=fun σ M R=>te σ M fun d M1=>∃ds,Zd d M1=some ds/\R ds (fun M=>Zd d M=some ds) M1
theorem kaz{te:TDE}{σ:SD}{M:HpD}{R:List D->(HpD->Prop)->HpD->Prop}(h:te σ M fun d M1=>∃ds,Zd d M1=some ds/\R ds (fun M=>Zd d M=some ds) M1):qj te σ M R:=by unfold qj;exact h
section
variable {X:Cx} {tg l:Expr} {tl:TDE} {pos p:Pos}
theorem Xam{K:KF}{H:Hp}{M:HpD}{d:D}{a:Addr}{ds:List D}(rh:RepH K H M)(r:RepD K H M d (.ref a))(e:Zd d M=some ds):∃xs,SqL K.K H a xs/\RepDs K H M ds xs:=by
 obtain⟨p,xs,e1,h,r'⟩:=Zm rh r e
 cases e1
 exact⟨xs,h,r'⟩
theorem YaP{K:uD}{F:Addr->Prop}{H:Hp}{M:HpD}{a:Addr}{d:D}{ds:List D}(r:RepD ⟨K,F⟩ H M d (.ref a)):ZaT K F (Itl K a) ds (fun M=>Zd d M=some ds) M H:=fun F' i M' H' hf f rh gd=>by
 have r':RepD ⟨K,F'⟩ H' M' d (.ref a):=(r.more hf).mono f
 obtain⟨xs,h',rs⟩:=Xam rh r' gd
 refine⟨fun d e=>?_,fun e=>⟨xs,h',by rw[←rs.length];exact e⟩⟩
 obtain⟨v,e1,e2⟩:=rs.get e
 refine⟨⟨xs,v,h',e1⟩,fun x H3 y=>?_⟩
 obtain⟨rfl,y⟩:=y
 have:=y xs h'
 rw[e1]at this;cases this
 exact⟨.refl,rh,e2⟩
theorem Yh(hl:ED X l tl):IDG X tg l (qj tl):=by
 refine(kaK hl).wk fun σ H R w1_=>w1_.elim fun F z_=>z_.elim fun σD z_=>z_.elim fun M z_=>z_.elim fun RD z_=>z_.elim fun rel z_=>z_.elim fun h p=>?_
 unfold qj at h
 refine lE rel h fun d M1 v H1 f1 rel1 r1 h1=>?_
 obtain⟨ds,gd,q⟩:=h1
 obtain⟨a,xs,rfl,hz,hr⟩:=Zm rel1.hp r1 gd
 exact⟨a,rfl,⟨xs,hz⟩,p ds _ M1 H1 _ f1 rel1.hp (YaP r1) q⟩
end
section
variable {X:Cx} {pins:ZPO} {σ:St} {H:Hp} {s:Shared}
theorem Inv.turnedNew{h':Heap}{t':Nat}{fp:List Addr}{T:Addr}{o:HO}(I:Inv X pins σ H s)(k:∀b u,b∉fp->s.heap.get? b=some u->h'.get? b=some u)(hf:∀b∈fp,Ws X pins H b)(hT:s.heap.objs.size<=T)
  (new:ObjOk X.prog X.w (upd H T o) h' T o):Inv X pins σ (upd H T o) {s with heap:=h',toks:=t'}:=by
 have hn:=I.hok.fresh hT
 have nf:∀b u,H b=some u->b∉fp:=fun b u e z=>by rw[(hf b z).1]at e;cases e
 have fT:Ws X pins H T:=I.fpOk hT hn
 refine I.call (g':=s.gens) (d':=s.drawn) (ch:=T::fp) ⟨fun b u e n _ hc=>k b u (fun z=>hc (uW _ z)) e,fun b u e n _ hc=>⟨u.slots,k b u (fun z=>hc (uW _ z)) e⟩,
  fun b u e n hc=>by rw[Yd (fun z=>hc (by simp[z]))];exact n,fun b u e hc=>⟨u,k b u (fun z=>hc (uW _ z)) e⟩,fun b xs e=>by rw[Yd (jd e hn)];exact e,
  fun b x u e=>by rw[Yd (jd e hn)];exact e,fun b ps e=>⟨#[],by rw[Yd (jd e hn),e];simp⟩⟩ (fun b u e=>?_) I.bare (fun b hb=>?_)
 ·by_cases hb:b=T
  ·subst hb;rw[Wg]at e;cases e;exact new
  ·rw[Yd hb]at e
   refine(I.hok b u e).stay (fun c v hc q=>k c v ?_ q) (fun c q=>by rw[Yd (jd q hn)];exact q) fun c xs q=>by rw[Yd (jd q hn)];exact q
   rcases hc with z | z
   ·rw[z];exact nf b u e
   ·exact nf c _ z
 ·rcases uZ.mp hb with rfl | hb
  ·exact⟨fT.2.2.2.1,fT.2.1,fT.2.2.2.2.1,fT.2.2.2.2.2⟩
  ·have z:=hf b hb
   exact⟨z.2.2.2.1,z.2.1,z.2.2.2.2.1,z.2.2.2.2.2⟩
theorem Inv.turnedL{h':Heap}{t':Nat}{fp:List Addr}(I:Inv X pins σ H s)(k:∀b u,b∉fp->s.heap.get? b=some u->h'.get? b=some u)(hf:∀b∈fp,Ws X pins H b):Inv X pins σ H {s with heap:=h',toks:=t'}:=by
 have nf:∀b u,H b=some u->b∉fp:=fun b u e z=>by rw[(hf b z).1]at e;cases e
 refine I.call (g':=s.gens) (d':=s.drawn) (ch:=fp) ⟨fun b u e n _ hc=>k b u hc e,fun b u e n _ hc=>⟨u.slots,k b u hc e⟩,
  fun b u e n hc=>n,fun b u e hc=>⟨u,k b u hc e⟩,fun b xs e=>e,fun b x u e=>e,fun b ps e=>⟨#[],by rw[e];simp⟩⟩ (fun b u e=>?_) I.bare (fun b hb=>?_)
 ·refine(I.hok b u e).stay (fun c v hc q=>k c v ?_ q) (fun c q=>q) fun c xs q=>q
  rcases hc with z | z
  ·rw[z];exact nf b u e
  ·exact nf c _ z
 ·have z:=hf b hb
  exact⟨z.2.2.2.1,z.2.1,z.2.2.2.2.1,z.2.2.2.2.2⟩
end
noncomputable def Itz(K:uD)(a b:Addr):It:=
 ⟨fun i H=>∃xs x ys y,SqL K H a xs/\xs[i]?=some x/\SqL K H b ys/\ys[i]?=some y,
  fun i H v H'=>∃T x y,v=.ref T/\H T=none/\H'=upd H T (.tup [x,y])/\(∀xs,SqL K H a xs->xs[i]?=some x)/\∀ys,SqL K H b ys->ys[i]?=some y,
  fun i H=>∃xs ys,SqL K H a xs/\SqL K H b ys/\(xs.length<=i\/ys.length<=i)⟩
def ZipSt(z TI TO i1 i2 a b:Addr)(i:Nat)(h:Heap):Prop:=IsZip h z TI TO .none/\IsPair h TI (.ref i1) (.ref i2)/\(∃p q,IsPair h TO p q)/\h.IsListIter i1 a i/\h.IsListIter i2 b i
theorem ZipSt.apart{z TI TO i1 i2 a b:Addr}{i:Nat}{h:Heap}{xs ys:Array Value}(st:ZipSt z TI TO i1 i2 a b i h)(h12:i1≠i2)(hT:TI≠TO)(l1:h.IsList a xs)(l2:h.IsList b ys):ZipApart z TI TO i1 i2 a b:=by
 obtain⟨hz,hI,⟨p,q,hO⟩,⟨o1,g1,c1,d1⟩,⟨o2,g2,c2,d2⟩⟩:=st
 obtain⟨ol,gl,cl,_⟩:=l1
 obtain⟨om,gm,cm,_⟩:=l2
 have ne:∀{x y:Addr} {ox oy:Obj} {m n:String},h.get? x=some ox->h.get? y=some oy->ox.cls=.type m->oy.cls=.type n->m≠n->x≠y:=fun e1 e2 c1 c2 hmn z=>by
  subst z
  rw[e1]at e2;cases e2
  rw[c1]at c2;cases c2
  exact hmn rfl
 exact⟨ne hI hz rfl rfl (by decide),ne hO hz rfl rfl (by decide),ne g1 hz c1 rfl (by decide),ne g2 hz c2 rfl (by decide),hT,ne hI g1 rfl c1 (by decide),ne hI g2 rfl c2 (by decide),ne hO g1 rfl c1 (by decide),ne hO g2 rfl c2 (by decide),h12,
  ne gl hz cl rfl (by decide),ne gl hO cl rfl (by decide),ne gl g1 cl c1 (by decide),ne gl g2 cl c2 (by decide),ne gm hz cm rfl (by decide),ne gm hO cm rfl (by decide),ne gm g1 cm c1 (by decide),ne gm g2 cm c2 (by decide)⟩
theorem qa8{P:Program}{w:World}{K:uD}{elts:List Expr}{tk:Nat}{tpos:Pos}(a b z TI TO i1 i2:Addr)(h12:i1≠i2)(hT:TI≠TO):YZ P w K (.Tuple elts tk tpos) (Itz K a b) [z,TI,TO,i1,i2] z (ZipSt z TI TO i1 i2 a b) where
 mem:=by simp
 obj:=fun i h st b' hb=>by
  obtain⟨hz,hI,⟨p,q,hO⟩,⟨o1,g1,c1,d1⟩,⟨o2,g2,c2,d2⟩⟩:=st
  simp only[uZ,u6,or_false]at hb
  rcases hb with rfl | rfl | rfl | rfl | rfl
  ·exact⟨_,hz,fun v e=>by cases e⟩
  ·exact⟨_,hI,fun v e=>by cases e⟩
  ·exact⟨_,hO,fun v e=>by cases e⟩
  ·exact⟨_,g1,fun v e=>by rw[d1]at e;cases e⟩
  ·exact⟨_,g2,fun v e=>by rw[d2]at e;cases e⟩
 keep:=fun i h h' st k=>by
  obtain⟨hz,hI,⟨p,q,hO⟩,h1,h2⟩:=st
  exact⟨k z (by simp) _ hz,k TI (by simp) _ hI,⟨p,q,k TO (by simp) _ hO⟩,h1.at fun o eo=>k i1 (by simp) o eo,h2.at fun o eo=>k i2 (by simp) o eo⟩
 item:=by
  intro X hP hw hK hc i pins s σ H E I hf st hg
  subst hP hw hK
  obtain⟨xs,x,ys,y,hq1,hx,hq2,hy⟩:=hg
  obtain⟨its,rv,p1,hz1⟩:=I.list hq1
  obtain⟨jts,rw',p2,hz2⟩:=I.list hq2
  obtain⟨u,hu,ru⟩:=rv.get hx
  obtain⟨v,hv,rw2⟩:=rw'.get hy
  have D:=st.apart h12 hT p1.isList p2.isList
  obtain⟨hz,hI,⟨p,q,hO⟩,h1,h2⟩:=st
  refine wpAny_pyNext_zip_item D hz hI hO h1 h2 p1.isList p2.isList (x:=u) (y:=v) (by simpa using hu) (by simpa using hv) fun h' a1 a2 a3 a4 a5 a6 a7=>?_
  refine⟨_,rfl,?_⟩
  refine wpAny_letOwnedTupleGo_zip a1 fun h2' hz2' sb=>?_
  have zl:z<s.heap.objs.size:=uM hz
  have hT2:h2'.get? s.heap.objs.size=some {cls:=.type "tuple",data:=.seq #[u,v]}:=(sb.2 _ (xT zl)).trans a5
  have I1:Inv X pins σ (upd H s.heap.objs.size (.tup [x,y])) {s with heap:=h2',toks:=s.toks}:=
   I.turnedNew (fp:=[z,TI,TO,i1,i2]) (fun c o hb e=>by
    simp only[uZ,u6,or_false,not_or]at hb
    exact(sb.2 c hb.1).trans (a7 c o hb.1 hb.2.2.1 hb.2.2.2.1 hb.2.2.2.2 e)) hf (uJ _) (show ObjOk X.prog X.w _ h2' _ (.tup [x,y]) from⟨by show 2<=sizeLine;decide,[u,v],.cons ru (.cons rw2 .nil),_,hT2,rfl,_,rfl⟩)
  refine⟨.ref s.heap.objs.size,_,I1,rfl,⟨_,x,y,rfl,I.hok.fresh (uJ _),rfl,fun zs hzs=>by rw[I.list_inj hzs hq1];exact hx,fun zs hzs=>by rw[I.list_inj hzs hq2];exact hy⟩,⟨hz2',(sb.2 TI D.TIz).trans (a7 TI _ D.TIz D.TITO D.TIi1 D.TIi2 hI),⟨u,v,(sb.2 TO D.TOz).trans a2⟩,a3.at fun o eo=>(sb.2 i1 D.i1z).trans eo,a4.at fun o eo=>(sb.2 i2 D.i2z).trans eo⟩,fun c hc'=>?_⟩
  rw[Yd]
  ·exact(hf c hc').1
  ·simp only[uZ,u6,or_false]at hc'
   obtain⟨o1,g1,_⟩:=h1
   obtain⟨o2,g2,_⟩:=h2
   rcases hc' with rfl | rfl | rfl | rfl | rfl
   ·exact uR zl
   ·exact uR (uM hI)
   ·exact uR (uM hO)
   ·exact uR (uM g1)
   ·exact uR (uM g2)
 done:=by
  intro X hP hw hK hc i pins s σ H E I hf st hg
  subst hP hw hK
  obtain⟨xs,ys,hq1,hq2,hx⟩:=hg
  obtain⟨its,rv,p1,hz1⟩:=I.list hq1
  obtain⟨jts,rw',p2,hz2⟩:=I.list hq2
  have l1:=rv.length
  have l2:=rw'.length
  have D:=st.apart h12 hT p1.isList p2.isList
  obtain⟨hz,hI,⟨p,q,hO⟩,h1,h2⟩:=st
  refine wpAny_pyNext_zip_end (I.ok.hd hc) D hz hI hO h1 h2 p1.isList p2.isList (by
   rcases hx with hx | hx
   ·exact .inl (by simp;lia)
   ·exact .inr (by simp;lia)) fun h' k=>⟨rfl,I.turnedL (t':=s.toks) (fp:=[z,TI,TO,i1,i2]) (fun c o hb e=>?_) hf⟩
  simp only[uZ,u6,or_false,not_or]at hb
  exact k c o hb.1 hb.2.2.1 hb.2.2.2.1 hb.2.2.2.2 e
 self:=fun _ _ _ _ _ st h=>wpAny_pyIter_zip st.1 h
def Wbz(K:uD)(ta:TA):TI:=fun σ H R=>ta σ H fun vs H1=>∃a b,vs=[.ref a,.ref b]/\(∃xs,SqL K H1 a xs)/\(∃ys,SqL K H1 b ys)/\R (Itz K a b) H1
theorem Za5:bootBuiltins "zip"=some (.type "zip"):=by decide +kernel
theorem Zbu{X:Cx}{l m:Expr}{ta:TA}{p pos:Pos}{elts:List Expr}{tk:Nat}{tpos:Pos}(hg:Gl X "zip")(hm:X.mg "zip"=none)(ha:PA X [l,m] ta)(hs:starEach [l,m] X.env=[(false,eval l X.env),(false,eval m X.env)]:=by rfl)(hs2:starEach [m] X.env=[(false,eval m X.env)]:=by rfl) :
  PI X (.Tuple elts tk tpos) (.Call (.Name "zip" p) [l,m] [] pos) (Wbz X.K ta):=by
 intro pins s σ H R I h
 refine Call_ (XC I hg hm Za5 (xN (thn (ha pos pins s σ H _ I h) fun us s1 w1_=>w1_.elim fun vs z_=>z_.elim fun H1 z_=>z_.elim fun I1 z_=>z_.elim fun r1 q1=>?_) (by rw[hs,hs2]) (by rw[hs2];rfl)))
 obtain⟨a,b,e,⟨xs,hq1⟩,⟨ys,hq2⟩,q⟩:=q1
 subst e
 cases r1 with
 | cons r rr=>
  cases rr with
  | cons r' rr=>
   cases rr
   cases r
   cases r'
   obtain⟨its,rv,p1,hz⟩:=I1.list hq1
   obtain⟨jts,rw',p2,hz'⟩:=I1.list hq2
   refine call_zip_2 p1.isList p2.isList fun h' a1 a2 a3 a4 a5 a6 a7=>?_
   refine wpAny_pyIter_zip a1 ?_
   refine⟨s1.heap.objs.size+4,[s1.heap.objs.size+4,s1.heap.objs.size+2,s1.heap.objs.size+3,s1.heap.objs.size,s1.heap.objs.size+1],_,_,H1,rfl,I1.kept (t':=s1.toks) a7,qa8 a b _ _ _ _ _ (fun z=>Nat.succ_ne_self _ z.symm) (fun z=>by have:s1.heap.objs.size+2=s1.heap.objs.size+3:=z;lia),⟨a1,a2,⟨_,_,a3⟩,a4,a5⟩,fun c hc=>?_,q⟩
   have hle:s1.heap.objs.size<=c:=by
    simp only[uZ,u6,or_false]at hc
    rcases hc with rfl | rfl | rfl | rfl | rfl
    ·exact Nat.le_add_right _ _
    ·exact Nat.le_add_right _ _
    ·exact Nat.le_add_right _ _
    ·exact uJ _
    ·exact Nat.le_add_right _ _
   exact I1.fpOk hle (I1.hok.fresh hle)
noncomputable def YQ(ds es:List D):List D:=xm (fun d e=>.tup [d,e]) ds es
@[irreducible] def jae(ta:TDA):TGI:=fun σ M R=>ta σ M fun vs M1=>∃d e ds es,vs=[d,e]/\Zd d M1=some ds/\Zd e M1=some es/\R (YQ ds es) (fun M=>Zd d M=some ds/\Zd e M=some es) M1
theorem qaK{ta:TDA}{σ:SD}{M:HpD}{R:List D->(HpD->Prop)->HpD->Prop}(h:ta σ M fun vs M1=>∃d e ds es,vs=[d,e]/\Zd d M1=some ds/\Zd e M1=some es/\R (YQ ds es) (fun M=>Zd d M=some ds/\Zd e M=some es) M1):jae ta σ M R:=by unfold jae;exact h
theorem ka6{ds es:List D}{i:Nat}{d:D}(h:(YQ ds es)[i]?=some d):∃x y,ds[i]?=some x/\es[i]?=some y/\d=.tup [x,y]:=by
 unfold YQ at h
 rw[List.getElem?_zipWith]at h
 cases e1:ds[i]? with
 | none=>rw[e1]at h;cases h
 | some x=>
  cases e2:es[i]? with
  | none=>rw[e1,e2]at h;cases h
  | some y=>rw[e1,e2]at h;cases h;exact⟨x,y,rfl,rfl,rfl⟩
theorem Xa6{ds es:List D}:(YQ ds es).length=min ds.length es.length:=by unfold YQ;simp
theorem Xa9{K:uD}{F:Addr->Prop}{H:Hp}{M:HpD}{a b:Addr}{d e:D}{ds es:List D}(r:RepD ⟨K,F⟩ H M d (.ref a))(r2:RepD ⟨K,F⟩ H M e (.ref b)):ZaT K F (Itz K a b) (YQ ds es) (fun M=>Zd d M=some ds/\Zd e M=some es) M H:=fun F' i M' H' hf f rh gd=>by
 obtain⟨xs,h1,rs1⟩:=Xam rh (show RepD ⟨K,F'⟩ H' M' d (.ref a) from(r.more hf).mono f) gd.1
 obtain⟨ys,h2,rs2⟩:=Xam rh (show RepD ⟨K,F'⟩ H' M' e (.ref b) from(r2.more hf).mono f) gd.2
 refine⟨fun d e=>?_,fun e=>⟨xs,ys,h1,h2,by rw[Xa6]at e;rw[←rs1.length,←rs2.length];lia⟩⟩
 obtain⟨d1,d2,e1,e2,rfl⟩:=ka6 e
 obtain⟨v1,g1,q1⟩:=rs1.get e1
 obtain⟨v2,g2,q2⟩:=rs2.get e2
 refine⟨⟨xs,v1,ys,v2,h1,g1,h2,g2⟩,fun x H3 y=>?_⟩
 obtain⟨T,y1,y2,rfl,hT,rfl,ya,yb⟩:=y
 have k1:=ya xs h1
 have k2:=yb ys h2
 rw[g1]at k1;cases k1
 rw[g2]at k2;cases k2
 refine⟨Wm hT,rh.new hT,?_⟩
 unfold RepD
 exact⟨T,_,rfl,.inl ⟨.inl Wg,rh.free hT,rh.nf hT⟩,RepDs.mono (Wm hT) (.cons q1 (.cons q2 .nil))⟩
theorem wbt{X:Cx}{l m:Expr}{ta:TDA}{p pos:Pos}{elts:List Expr}{tk:Nat}{tpos:Pos}(hg:Gl X "zip")(hm:X.mg "zip"=none)(ha:AD X [l,m] ta)(hs:starEach [l,m] X.env=[(false,eval l X.env),(false,eval m X.env)]:=by rfl)(hs2:starEach [m] X.env=[(false,eval m X.env)]:=by rfl) :
  IDG X (.Tuple elts tk tpos) (.Call (.Name "zip" p) [l,m] [] pos) (jae ta):=by
 refine(Zbu hg hm ha hs hs2).wk fun σ H R w1_=>w1_.elim fun F z_=>z_.elim fun σD z_=>z_.elim fun M z_=>z_.elim fun RD z_=>z_.elim fun rel z_=>z_.elim fun h p=>?_
 unfold jae at h
 refine lA rel h fun d M1 v H1 f1 rel1 r1 h1=>?_
 obtain⟨d,e,ds,es,rfl,g1,g2,q⟩:=h1
 obtain⟨u,v',rfl,r2,r3⟩:=jak r1
 obtain⟨a,xs,rfl,hz,hr⟩:=Zm rel1.hp r2 g1
 obtain⟨b,ys,rfl,hz2,hr2⟩:=Zm rel1.hp r3 g2
 exact⟨a,b,rfl,⟨xs,hz⟩,⟨ys,hz2⟩,p _ _ M1 H1 _ f1 rel1.hp (Xa9 r2 r3) q⟩
section
variable {X:Cx} {a b:Expr} {ta tb:TDE} {pos:Pos}
@[irreducible] def Wac:RD2:=fun x y M Q=>∃z i c,x=.str z/\y=.int i/\z.length<=sizeLine/\atI z.cps.toList i=some c/\Q (.str ⟨#[c]⟩) M
theorem Zbo{z:Str}{i:Int}{c:Nat}{M:HpD}{Q:KD}(hz:z.length<=sizeLine)(e:atI z.cps.toList i=some c)(q:Q (.str ⟨#[c]⟩) M):Wac (.str z) (.int i) M Q:=by unfold Wac;exact⟨z,i,c,rfl,rfl,hz,e,q⟩
theorem Zbr(ha:ED X a ta)(hb:ED X b tb)(hs:Yan b:=by exact fun _ _=>rfl):ED X (.Subscript a b pos) (Wb Wac ta tb):=by
 refine(vbd Xbt ha hb hs).wk fun σ H Q h=>?_
 obtain⟨F,σD,M,QD,rel,h,p⟩:=h
 unfold Wb at h
 refine lE rel h fun d M1 v H1 f1 rel1 r1 h1=>?_
 refine lE rel1 h1 fun e M2 u H2 f2 rel2 r2 h2=>?_
 unfold Wac at h2
 obtain⟨z,i,c,rfl,rfl,hz,he,q⟩:=h2
 unfold RepD at r1 r2
 exact⟨z,i,c,r1,r2,hz,he,p _ _ _ _ (f1.trans f2) rel2.hp (by unfold RepD;rfl) q⟩
noncomputable def XB:D->Bool
 | .non=>true
 | .bl _=>true
 | .int _=>true
 | .str _=>true
 | _=>false
theorem waD{K:KF}{H:Hp}{M:HpD}{d:D}{v:V}(f:XB d=true)(r:RepD K H M d v):jG v=true:=by
 cases d<;>first | (unfold XB at f;cases f;done) | (unfold RepD at r;subst r;rfl)
theorem kbg{K:KF}{H:Hp}{M:HpD}{d e:D}{v u:V}(f:XB d=true)(g:XB e=true)(ok:okD d e=true)(r:RepD K H M d v)(r2:RepD K H M e u):eqV v u=eqD d e:=by
 cases d<;>first | (unfold XB at f;cases f;done) | skip
 all_goals (cases e<;>first | (unfold XB at g;cases g;done) | (unfold okD at ok;cases ok;done) | skip)
 all_goals (unfold RepD at r r2;subst r r2;unfold eqD;first | rfl | (simp[eqV]))
noncomputable def inD(x:D)(ds:List D):Bool:=ds.any fun d=>eqD d x
theorem waI{K:KF}{H:Hp}{M:HpD}{x:D}{v:V}(fx:XB x=true)(rx:RepD K H M x v):∀{ds:List D} {xs:List V},(∀d∈ds,XB d=true/\okD d x=true)->RepDs K H M ds xs->xs.all jG=true/\inV v xs=inD x ds
 | [],xs,_,r=>by
  unfold RepDs at r
  subst r
  exact⟨rfl,rfl⟩
 | d::ds,xs,h,r=>by
  unfold RepDs at r
  obtain⟨y,yr,rfl,r1,r2⟩:=r
  obtain⟨hd,hk⟩:=h d uc
  obtain⟨ih1,ih2⟩:=waI fx rx (fun d h'=>h d (uW _ h')) r2
  refine⟨by rw[List.all_cons,waD hd r1,ih1];rfl,?_⟩
  unfold inV inD at ih2 ⊢
  rw[x8,x8,kbg hd fx hk r1 rx,ih2]
@[irreducible] def WQ(neg:Bool):RD2:=fun x y M Q=>∃ds,kn y M=some ds/\XB x=true/\(∀d∈ds,XB d=true/\okD d x=true)/\Q (.bl (if neg then !inD x ds else inD x ds)) M
theorem Xav{neg:Bool}{x y:D}{ds:List D}{M:HpD}{Q:KD}(h:kn y M=some ds)(fx:XB x=true)(fs:∀d∈ds,XB d=true/\okD d x=true)(q:Q (.bl (if neg then !inD x ds else inD x ds)) M):WQ neg x y M Q:=by unfold WQ;exact⟨ds,h,fx,fs,q⟩
theorem WaJ{K:uD}{neg:Bool}{x y:V}{H:Hp}{Q:VK}(h:Yk K (WQ neg) x y H Q):rIn K neg x y H Q:=by
 obtain⟨F,d,e,M,QD,r1,r2,rh,hq,p⟩:=h
 unfold WQ at hq
 obtain⟨ds,hd,fx,fs,q⟩:=hq
 obtain⟨a,ys,rfl,hs,rs⟩:=WO rh r2 hd
 obtain⟨f1,f2⟩:=waI fx r1 fs rs
 exact⟨a,ys,rfl,hs,waD fx r1,f1,p _ M _ H .refl rh (by unfold RepD;rw[f2]) q⟩
theorem Zbx:OpR X (compareOp .In) (Yk X.K (WQ false)):=fun pins s σ H x y v u Q I rx ry h=>Wa4 pins s σ H x y v u Q I rx ry (WaJ h)
theorem waa:OpR X (compareOp .NotIn) (Yk X.K (WQ true)):=fun pins s σ H x y v u Q I rx ry h=>XaF pins s σ H x y v u Q I rx ry (WaJ h)
@[irreducible] def wD:RD2:=fun x y M Q=>∃ds es,Zd x M=some ds/\Zd y M=some es/\newL (ds++es) M Q
theorem kah{x y:D}{ds es:List D}{M:HpD}{Q:KD}(h1:Zd x M=some ds)(h2:Zd y M=some es)(q:newL (ds++es) M Q):wD x y M Q:=by unfold wD;exact⟨ds,es,h1,h2,q⟩
theorem qac:OpR X (binaryOp .Add) (Yk X.K wD):=by
 intro pins s σ H x y v u Q I rx ry h
 obtain⟨F,d,e,M,QD,r1,r2,rh,hq,p⟩:=h
 unfold wD at hq
 obtain⟨ds,es,h1,h2,q⟩:=hq
 obtain⟨a,xs,rfl,ha,ra⟩:=Zm rh r1 h1
 obtain⟨b,ys,rfl,hb,rb⟩:=Zm rh r2 h2
 cases rx
 cases ry
 obtain⟨its,vi,pl,hz⟩:=I.list ha
 obtain⟨jts,vj,pm,hz2⟩:=I.list hb
 have nl:=q.post p rh (ra.append rb)
 obtain⟨⟨cls,dd,data,sl⟩,ho,hc,n,hd⟩:=id pl.isList
 obtain⟨⟨cls2,dd2,data2,sl2⟩,ho2,hc2,n2,hd2⟩:=id pm.isList
 simp only at hc hd hc2 hd2
 subst hc hd hc2 hd2
 have l1:=vi.length
 have l2:=vj.length
 have ln:=nl.1
 rw[uE]at ln
 have e:its.toArray++jts.toArray=(its++jts).toArray:=by simp
 refine concat_meets ⟨_,ho,rfl⟩ ⟨_,ho2,rfl⟩ noFill_list_add seq_list_add PySem.F.slot_list_add PySem.F.entry_list_add (PySem.F.args_list_add_2 _ _) (list_addW a b its.toArray jts.toArray n n2 dd dd2 sl sl2 (by simp only[uI];lia)) ⟨ho,ho2,?_⟩
 rw[e]
 exact⟨.ref s.heap.objs.size,_,I.lnew (t':=s.toks) (vi.append vj) nl.1,rfl,nl.2 _ I.fresh⟩
@[irreducible] def ZV:RDn:=fun xs M Q=>(∃i,xs=[.int i]/\Q (.int i) M)\/∃k,xs=[.bl k]/\Q (.int (if k then 1 else 0)) M
theorem kaJ{k:Bool}{M:HpD}{Q:KD}(q:Q (.int (if k then 1 else 0)) M):ZV [.bl k] M Q:=by unfold ZV;exact .inr ⟨k,rfl,q⟩
theorem YaM:CallR X (.type "int") (wt X.K ZV):=by
 refine call_int1.wk fun xs H Q ⟨F,ds,M,QD,r,rh,hq,p⟩=>?_
 unfold ZV at hq
 rcases hq with ⟨i,rfl,q⟩ | ⟨k,rfl,q⟩
 ·obtain⟨v,rfl,r1⟩:=jE r
  unfold RepD at r1
  subst r1
  exact .inl ⟨i,rfl,p _ M _ H .refl rh (by unfold RepD;rfl) q⟩
 ·obtain⟨v,rfl,r1⟩:=jE r
  unfold RepD at r1
  subst r1
  exact .inr ⟨k,rfl,p _ M _ H .refl rh (by unfold RepD;rfl) q⟩
end
section
variable {X:Cx} {o e e2:Expr} {to te te2:TDE} {apos cpos:Pos}
def YaY(K:uD):V->List V->Hp->VK->Prop:=fun x vs H Q=>∃sep l ts,x=.str sep/\vs=[.ref l]/\SqL K H l (ts.map V.str)/\JoinOk sep ts=true/\Q (.str (Txt.join sep ts)) H
theorem jaq:∀{ts:List Str} {us:List Value},Vals (ts.map V.str) us->∃l:List (Str×Tok),us=strValues l/\l.map (·.1)=ts
 | [],us,h=>by cases h;exact⟨[],rfl,rfl⟩
 | t::ts,us,h=>by
  cases h with
  | cons r h=>
   obtain⟨k,rfl⟩:=r
   obtain⟨l,rfl,rfl⟩:=jaq h
   exact⟨(t,k)::l,rfl,rfl⟩
theorem wbl:MtR X "str.join" (YaY X.K):=by
 intro pins s σ H x vs v us Q I rx rv h
 obtain⟨sep,l,ts,rfl,rfl,hl,ok,q⟩:=h
 obtain⟨t,rfl⟩:=rx
 obtain⟨u,rfl,ru⟩:=rv.one
 cases ru
 obtain⟨its,vi,pl,hz⟩:=I.list hl
 obtain⟨lt,rfl,et⟩:=jaq vi
 exact SC.join pl.isList et ok fun t' k=>⟨.str _,H,I.tok _,⟨_,rfl⟩,q⟩
@[irreducible] def kY(to te:TDE):TDE:=fun σ M Q=>to σ M fun x M1=>∃sep,x=.str sep/\te σ M1 fun y M2=>∃ts,Zd y M2=some (ts.map D.str)/\JoinOk sep ts=true/\Q (.str (Txt.join sep ts)) M2
theorem vaM{σ:SD}{M:HpD}{Q:KD}(h:to σ M fun x M1=>∃sep,x=.str sep/\te σ M1 fun y M2=>∃ts,Zd y M2=some (ts.map D.str)/\JoinOk sep ts=true/\Q (.str (Txt.join sep ts)) M2):kY to te σ M Q:=by unfold kY;exact h
theorem Yaz{K:KF}{H:Hp}{M:HpD}:∀{ts:List Str} {xs:List V},RepDs K H M (ts.map D.str) xs->xs=ts.map V.str
 | [],xs,r=>by unfold RepDs at r;exact r
 | t::ts,xs,r=>by
  rw[uH]at r
  unfold RepDs at r
  obtain⟨y,yr,rfl,r1,r2⟩:=r
  unfold RepD at r1
  subst r1
  rw[Yaz r2];rfl
theorem wbi(ho:ED X o to)(he:ED X e te)(hbase:attributeBase o "join" X.env (eval o X.env)=eval o X.env:=by rfl)
  (hfew:((backTo cpos (starEach (e::[]) X.env)).all (fun x=>!x.1)&&(backToKw cpos (keywordEach [] X.env)).all (fun x=>x.1.isSome)
   && decide ((e::[]).length+([]:List Keyword).length+(if ([]:List Keyword).isEmpty then 0 else 1)<30))=true:=by rfl)
  (hline:(apos.endLine==cpos.line)=true:=by rfl) (hs:starEach (e::[]) X.env=(false,eval e X.env)::starEach [] X.env:=by rfl) (hplain:(backTo cpos (starEach [] X.env)).any (·.1)=false:=by rfl) :
  ED X (.Call (.Attribute o "join" apos) [e] [] cpos) (kY to te):=by
 refine(Yag PySem.F.plainAttrs_str PySem.F.slot_str_join PySem.F.type_str_join (r:=YaY X.K) wbl ho (WB he pa_nil hs) hbase hfew hline hs hplain).wk fun σ H Q h=>?_
 obtain⟨F,σD,M,QD,rel,h,p⟩:=h
 unfold kY at h
 refine lE rel h fun d M1 v H1 f1 rel1 r1 h1=>?_
 obtain⟨sep,rfl,h1⟩:=h1
 unfold RepD at r1
 subst r1
 refine⟨rfl,?_⟩
 show Yg X.K te σ H1 _
 refine lE rel1 h1 fun y M2 u H2 f2 rel2 r2 h2=>?_
 obtain⟨ts,hd,ok,q⟩:=h2
 obtain⟨l,xs,rfl,hl,rs⟩:=Zm rel2.hp r2 hd
 have:=Yaz rs
 subst this
 exact⟨sep,l,ts,rfl,rfl,hl,ok,p _ _ _ _ (f1.trans f2) rel2.hp (by unfold RepD;rfl) q⟩
noncomputable def Yq{α:Type}(xs:List α)(k:Nat)(y:α):List α:=xs.take k++y::xs.drop k
def ZaF:V->List V->Hp->VK->Prop:=fun x vs H Q=>∃l xs i k y,x=.ref l/\vs=[.int i,y]/\i=((k:Nat):Int)/\H l=some (.lst xs)/\xs.length<sizeLine/\k<=xs.length/\Q .non (upd H l (.lst (Yq xs k y)))
theorem vbw{i:Int}(h0:0<=i)(h:i<2^63):Builtin.List.listFitsIndex i=true:=by
 unfold Builtin.List.listFitsIndex
 rw[xP]
 exact⟨decide_eq_true (by lia),decide_eq_true (by lia)⟩
theorem YaZ{xs:List V}{us:List Value}{y:V}{u:Value}(r:Vals xs us)(ry:RelV y u)(k:Nat):Vals (Yq xs k y) (Yq us k u):=by
 have take:∀{xs:List V} {us:List Value},Vals xs us->∀k,Vals (xs.take k) (us.take k)/\Vals (xs.drop k) (us.drop k):=by
  intro xs us r
  induction r with
  | nil=>intro k;rw[List.take_nil,List.take_nil,List.drop_nil,List.drop_nil];exact⟨.nil,.nil⟩
  | cons r t ih=>
   intro k
   cases k with
   | zero=>exact⟨.nil,.cons r t⟩
   | succ k=>exact⟨.cons r (ih k).1,(ih k).2⟩
 exact(take r k).1.append (.cons ry (take r k).2)
theorem YU{α:Type}(xs:List α)(k:Nat)(y:α):(Yq xs k y).length=xs.length+1:=by
 unfold Yq
 rw[uE,uj,uX,xD];lia
theorem Xbf(us:List Value)(k:Nat)(u:Value):(us.toArray.extract 0 k).push u++us.toArray.extract k=(Yq us k u).toArray:=by
 unfold Yq
 apply Array.toList_inj.mp
 simp[List.extract_eq_drop_take]
 exact u9 (by rw[xD];lia)
theorem qa1:MtM X "list.insert" ZaF:=by
 intro pins s σ H x vs v us Q I rx rv h
 obtain⟨l,xs,i,k,y,rfl,rfl,hi,hH,hz,hk,q⟩:=h
 cases rx
 cases rv with
 | cons r1 rv=>
  obtain⟨t1,rfl⟩:=r1
  obtain⟨u,rfl,ru⟩:=Zx rv
  obtain⟨z,its,n,r,hl,e⟩:=I.lstM hH
  have sl:=kN
  have hf:=vbw (i:=i) (by lia) (by lia)
  refine call_meets F.slot_list_insert ⟨_,e,rfl⟩ F.entry_list_insert (F.args_list_insert_3 _ _ _) (PySem.AutoSeq1.list_insert_list_int_val_1 l _ n i t1 u (by simp[hf]) (by rw[uI];lia)) ⟨e,?_⟩
  refine⟨.non,_,I.lset (its':=Yq its k u) hH e ?_ (YaZ r ru k) (by rw[YU];lia),rfl,q⟩
  show((its.toArray.extract 0 (if i<0 then (i+((its.toArray.size:Nat):Int)).toNat else min i.toNat its.toArray.size)).push u++its.toArray.extract (if i<0 then (i+((its.toArray.size:Nat):Int)).toNat else min i.toNat its.toArray.size))=_
  rw[if_neg (by lia),show min i.toNat its.toArray.size=k by rw[uI];lia]
  exact Xbf its k u
@[irreducible] def kG(to te te2:TDE):TDE:=fun σ M Q=>to σ M fun x M1=>∃p,x=.ref p/\(∃ds1,M1 p=some (.lst ds1))/\te σ M1 fun i M2=>te2 σ M2 fun y M3=>∃(k:Nat) (ds:List D),i=.int k/\M3 p=some (.lst ds)/\ds.length<sizeLine/\k<=ds.length/\Q .non (wc M3 p (.lst (Yq ds k y)))
theorem WaW{σ:SD}{M:HpD}{Q:KD}(h:to σ M fun x M1=>∃p,x=.ref p/\(∃ds1,M1 p=some (.lst ds1))/\te σ M1 fun i M2=>te2 σ M2 fun y M3=>∃(k:Nat) (ds:List D),i=.int k/\M3 p=some (.lst ds)/\ds.length<sizeLine/\k<=ds.length/\Q .non (wc M3 p (.lst (Yq ds k y)))):kG to te te2 σ M Q:=by unfold kG;exact h
theorem qa7{K:KF}{H:Hp}{M:HpD}{ds:List D}{xs:List V}{d:D}{v:V}(r:RepDs K H M ds xs)(rv:RepD K H M d v)(k:Nat):RepDs K H M (Yq ds k d) (Yq xs k v):=(r.take k).append (.cons rv (r.drop k))
theorem YaC(ho:ED X o to)(he:ED X e te)(he2:ED X e2 te2)(hbase:attributeBase o "insert" X.env (eval o X.env)=eval o X.env:=by rfl)
  (hfew:((backTo cpos (starEach (e::[e2]) X.env)).all (fun x=>!x.1)&&(backToKw cpos (keywordEach [] X.env)).all (fun x=>x.1.isSome)
   && decide ((e::[e2]).length+([]:List Keyword).length+(if ([]:List Keyword).isEmpty then 0 else 1)<30))=true:=by rfl)
  (hline:(apos.endLine==cpos.line)=true:=by rfl) (hs:starEach (e::[e2]) X.env=(false,eval e X.env)::starEach [e2] X.env:=by rfl) (hs2:starEach (e2::[]) X.env=(false,eval e2 X.env)::starEach [] X.env:=by rfl) (hplain:(backTo cpos (starEach [e2] X.env)).any (·.1)=false:=by rfl) :
  ED X (.Call (.Attribute o "insert" apos) [e,e2] [] cpos) (kG to te te2):=by
 refine(Yag xn PySem.F.slot_list_insert PySem.F.type_list_insert (r:=ZaF) qa1 ho (WB he (WB he2 pa_nil hs2) hs) hbase hfew hline hs hplain).wk fun σ H Q h=>?_
 obtain⟨F,σD,M,QD,rel,h,p⟩:=h
 unfold kG at h
 refine lE rel h fun d M1 v H1 f1 rel1 r1 h1=>?_
 obtain⟨l,rfl,⟨ds1,e1⟩,h1⟩:=h1
 unfold RepD at r1
 subst r1
 obtain⟨o',e',xs,rfl,hr⟩:=rel1.hp.at_ l _ e1
 refine⟨.inl ⟨rfl,xs,.inl (.inl e')⟩,?_⟩
 show Yg X.K te σ H1 _
 refine lE rel1 h1 fun i M2 u H2 f2 rel2 r2 h2=>?_
 show Yg X.K te2 σ H2 _
 refine lE rel2 h2 fun y M3 w H3 f3 rel3 r3 h3=>?_
 obtain⟨k,ds,rfl,e3,hl,hk,q⟩:=h3
 unfold RepD at r2
 subst r2
 obtain⟨o2,e3',ys,rfl,hr3⟩:=rel3.hp.at_ l _ e3
 have rO:RepO ⟨X.K,F⟩ H3 M3 (.lst (Yq ds k y)) (.lst (Yq ys k w)):=⟨_,rfl,qa7 hr3 r3 k⟩
 exact⟨l,ys,_,k,w,rfl,rfl,rfl,e3',by rw[←hr3.length];exact hl,by rw[←hr3.length];exact hk,p _ _ _ _ (((f1.trans f2).trans f3).trans (wj e3)) (rel3.hp.write e3 rO) (by unfold RepD;rfl) q⟩
end
section
variable {κ:Type} [DecidableEq κ]
noncomputable def Yo(kvs:List (κ×V))(k:κ):Option V:=(kvs.find? fun kv=>decide (kv.1=k)).map (·.2)
noncomputable def Yl(kvs:List (κ×V))(k:κ)(v:V):List (κ×V):=
 if (kvs.any fun kv=>decide (kv.1=k))=true then kvs.map (fun kv=>if kv.1=k then (kv.1,v) else kv) else kvs++[(k,v)]
theorem wL{p:κ×V}{r:List (κ×V)}{k:κ}(e:p.1=k):Yo (p::r) k=some p.2:=by simp[Yo,uq,e]
theorem vL{p:κ×V}{r:List (κ×V)}{k:κ}(e:¬p.1=k):Yo (p::r) k=Yo r k:=by simp[Yo,uq,e]
theorem Xaz(k:κ):∀kvs:List (κ×V),(kvs.any fun kv=>decide (kv.1=k))=(Yo kvs k).isSome
 | []=>rfl
 | p::r=>by
  rw[x8]
  by_cases e:p.1=k
  ·simp only[wL e,decide_eq_true e,Bool.true_or,Option.isSome_some]
  ·rw[vL e,decide_eq_false e,Bool.false_or];exact Xaz k r
theorem vB(kvs:List (κ×V))(k:κ)(v:V):(Yl kvs k v).length<=kvs.length+1:=by
 unfold Yl
 split
 ·rw[uA];lia
 ·rw[uE,uj,List.length_nil];lia
theorem RelO.isSome_eq{o:Option V}{u:Option Value}(r:RelO o u):o.isSome=u.isSome:=by
 cases o with
 | none=>cases u with
  | none=>rfl
  | some _=>exact(show False from r).elim
 | some _=>cases u with
  | none=>exact(show False from r).elim
  | some _=>rfl
theorem RelO.getD{o:Option V}{u:Option Value}{d:V}{d':Value}(r:RelO o u)(rd:RelV d d'):RelV (o.getD d) (u.getD d'):=by
 cases o with
 | none=>cases u with
  | none=>exact rd
  | some _=>exact(show False from r).elim
 | some _=>cases u with
  | none=>exact(show False from r).elim
  | some _=>exact r
theorem KV.val{kvs:List (κ×V)}{vs:List (κ×Value)}(r:KV kvs vs)(k:κ):RelO (Yo kvs k) (valueAt vs k):=by
 unfold KV at r
 induction r with
 | nil=>exact True.intro
 | @cons p q ps qs h t ih=>
  obtain⟨h1,h2⟩:=h
  by_cases e:p.1=k
  ·have e':q.1=k:=h1.symm.trans e
   have b:valueAt (q::qs) k=some q.2:=by simp[valueAt,uq,e']
   rw[wL e,b];exact h2
  ·have e':¬q.1=k:=fun z=>e (h1.trans z)
   have b:valueAt (q::qs) k=valueAt qs k:=by simp[valueAt,uq,e']
   rw[vL e,b];exact ih
theorem KV.any{kvs:List (κ×V)}{vs:List (κ×Value)}(r:KV kvs vs)(k:κ):(kvs.any fun kv=>decide (kv.1=k))=vs.any fun kv=>decide (kv.1=k):=by
 unfold KV at r
 induction r with
 | nil=>rfl
 | cons h t ih=>rw[x8,x8,ih,h.1]
theorem KV.repl{kvs:List (κ×V)}{vs:List (κ×Value)}(r:KV kvs vs)(k:κ){y:V}{u:Value}(ry:RelV y u) :
  KV (kvs.map fun kv=>if kv.1=k then (kv.1,y) else kv) (vs.map fun kv=>if kv.1=k then (kv.1,u) else kv):=by
 unfold KV at r ⊢
 induction r with
 | nil=>exact .nil
 | @cons p q ps qs h t ih=>
  rw[uH,uH]
  refine .cons ?_ ih
  obtain⟨h1,h2⟩:=h
  by_cases e:p.1=k
  ·rw[if_pos e,if_pos (h1.symm.trans e)];exact⟨h1,ry⟩
  ·rw[if_neg e,if_neg (fun z=>e (h1.trans z))];exact⟨h1,h2⟩
theorem KV.put{kvs:List (κ×V)}{vs:List (κ×Value)}(r:KV kvs vs)(k:κ){y:V}{u:Value}(ry:RelV y u):KV (Yl kvs k y) (stored vs k u):=by
 unfold Yl stored
 rw[r.any k]
 by_cases e:(vs.any fun kv=>decide (kv.1=k))=true
 ·rw[if_pos e,if_pos e];exact r.repl k ry
 ·rw[if_neg e,if_neg e];exact Paired.snoc r ⟨rfl,ry⟩
theorem KV.length{kvs:List (κ×V)}{vs:List (κ×Value)}(r:KV kvs vs):kvs.length=vs.length:=Paired.length r
end
theorem qP{P:Program}{w:World}{k:Key}{u:Value}(r:RelV (kV k) u):(We P w).is k u=true:=by
 cases k with
 | inl i=>obtain⟨t,e⟩:=(show ∃t,u=Value.int i t from r);subst e;exact vaI P w i t
 | inr x=>obtain⟨t,e⟩:=(show ∃t,u=Value.str x t from r);subst e;exact jaI P w x t
theorem vaq{P:Program}{w:World}:∀{ks:List Key} {us:List Value},Vals (ks.map kV) us->ItemsAre (We P w) ks us
 | [],_,r=>by rw[xl]at r;cases r;exact .nil
 | k::ks,_,r=>by
  rw[uH]at r
  cases r with
  | cons h t=>exact .cons (qP h) (vaq t)
abbrev KT(H:Hp):List (List Key×V)->List (List Key×Addr×Value)->Prop:=Paired fun p q=>p.1=q.1/\H q.2.1=some (.tup (p.1.map kV))/\RelV p.2 q.2.2
theorem KT.val{H:Hp}{kvs:List (List Key×V)}{xs:List (List Key×Addr×Value)}(r:KT H kvs xs)(k:List Key):RelO (Yo kvs k) ((atKey xs k).map (·.2)):=by
 induction r with
 | nil=>exact True.intro
 | @cons p q ps qs h t ih=>
  obtain⟨h1,_,h2⟩:=h
  by_cases e:p.1=k
  ·have e':q.1=k:=h1.symm.trans e
   have b:atKey (q::qs) k=some q.2:=by simp[atKey,uq,e']
   rw[wL e,b];exact h2
  ·have e':¬q.1=k:=fun z=>e (h1.trans z)
   have b:atKey (q::qs) k=atKey qs k:=by simp[atKey,uq,e']
   rw[vL e,b];exact ih
theorem KT.repl{H:Hp}{kvs:List (List Key×V)}{xs:List (List Key×Addr×Value)}(r:KT H kvs xs)(k:List Key){y:V}{u:Value}(ry:RelV y u) :
  KT H (kvs.map fun kv=>if kv.1=k then (kv.1,y) else kv) (xs.map (putAt k u)):=by
 induction r with
 | nil=>exact .nil
 | @cons p q ps qs h t ih=>
  rw[uH,uH]
  refine .cons ?_ ih
  obtain⟨h1,h2,h3⟩:=h
  unfold putAt
  by_cases e:p.1=k
  ·rw[if_pos e,if_pos (h1.symm.trans e)];exact⟨h1,h2,ry⟩
  ·rw[if_neg e,if_neg (fun z=>e (h1.trans z))];exact⟨h1,h2,h3⟩
theorem KT.put{H:Hp}{kvs:List (List Key×V)}{xs:List (List Key×Addr×Value)}(r:KT H kvs xs)(k:List Key){b:Addr}{y:V}{u:Value}(hb:H b=some (.tup (k.map kV)))(ry:RelV y u) :
  KT H (Yl kvs k y) (storedH xs k b u):=by
 have e:(kvs.any fun kv=>decide (kv.1=k))=(atKey xs k).isSome:=by
  rw[Xaz,(r.val k).isSome_eq,Option.isSome_map]
 unfold Yl storedH
 rw[e]
 by_cases q:(atKey xs k).isSome=true
 ·rw[if_pos q,if_pos q];exact r.repl k ry
 ·rw[if_neg q,if_neg q];exact Paired.snoc r ⟨rfl,hb,ry⟩
theorem KT.keeps{H H':Hp}{kvs:List (List Key×V)}{xs:List (List Key×Addr×Value)}(r:KT H kvs xs)(ht:∀b ys,H b=some (.tup ys)->H' b=some (.tup ys)):KT H' kvs xs:=
 Paired.mapP r fun _ _ z=>⟨z.1,ht _ _ z.2.1,z.2.2⟩
section
variable {P:Program} {w:World} {H:Hp} {h:Heap} {a:Addr}
theorem jbe{u:HO}(ok:HOk P w H h)(e:Rd H a u):ObjOk P w H h a u:=e.ok ok
theorem vD{kvs:List (Key×V)}(ok:HOk P w H h)(e:Rd H a (.dK kvs)):kvs.length<=sizeLine/\(a==sysModules)=false/\∃vs,KV kvs vs/\h.DictOf (We P w) a vs:=
 show ObjOk P w H h a (.dK kvs) from jbe ok e
theorem vau{kvs:List (Key×V)}(ok:HOk P w H h)(e:H a=some (.dK kvs)):kvs.length<=sizeLine/\(a==sysModules)=false/\∃vs,KV kvs vs/\h.DictOf (We P w) a vs:=vD ok (.inl e)
theorem wM{ks:List Key}(ok:HOk P w H h)(e:H a=some (.tup (ks.map kV))):(tupleKind (We P w)).is h ks a:=by
 obtain⟨_,its,r,o,h1,h2,n,h3⟩:=(show ObjOk P w H h a (.tup (ks.map kV)) from ok a _ e)
 exact⟨o,its.toArray,n,h1,h2,h3,by simpa using vaq r⟩
theorem vU{kvs:List (List Key×V)}(ok:HOk P w H h)(e:Rd H a (.dT kvs)):kvs.length<=sizeLine/\(a==sysModules)=false ∧
  ∃xs,KT H kvs xs/\h.DictOfH (tupleKind (We P w)) a xs:=by
 obtain⟨z,y,xs,r,o,es,ep,h1,h2,h3,h4,h5⟩:=(show ObjOk P w H h a (.dT kvs) from jbe ok e)
 refine⟨z,y,xs,r,o,es,ep,h1,h2,h3,h4,fun x hx=>?_,h5⟩
 have all:∀{l:List (List Key×V)} {m:List (List Key×Addr×Value)},KT H l m->∀x∈m,(tupleKind (We P w)).is h x.1 x.2.1:=by
  intro l m q
  induction q with
  | nil=>intro x hx;exact nomatch hx
  | @cons p q ps qs hq t ih=>
   intro x hx
   rcases uZ.mp hx with e | hx
   ·subst e
    exact wM ok (by rw[←hq.1];exact hq.2.1)
   ·exact ih x hx
 exact all r x hx
theorem XaR{kvs:List (List Key×V)}(ok:HOk P w H h)(e:H a=some (.dT kvs)):kvs.length<=sizeLine/\(a==sysModules)=false ∧
  ∃xs,KT H kvs xs/\h.DictOfH (tupleKind (We P w)) a xs:=vU ok (.inl e)
end
def DGet(H:Hp)(a:Addr)(y:V)(r:Option V):Prop:=
 (∃kvs k,Rd H a (.dK kvs)/\y=kV k/\r=Yo kvs k)\/∃kvs k b,Rd H a (.dT kvs)/\y=.ref b/\H b=some (.tup (k.map kV))/\r=Yo kvs k
def DPut(H:Hp)(a:Addr)(y v:V)(H':Hp):Prop:=
 (∃kvs k,H a=some (.dK kvs)/\y=kV k/\kvs.length<sizeLine/\H'=upd H a (.dK (Yl kvs k v))) \/
 ∃kvs k b,H a=some (.dT kvs)/\y=.ref b/\H b=some (.tup (k.map kV))/\kvs.length<sizeLine/\H'=upd H a (.dT (Yl kvs k v))
theorem DGet.k{H:Hp}{a:Addr}{kvs:List (Key×V)}{k:Key}(e:H a=some (.dK kvs)):DGet H a (kV k) (Yo kvs k):=.inl ⟨kvs,k,.inl e,rfl,rfl⟩
theorem DGet.t{H:Hp}{a b:Addr}{kvs:List (List Key×V)}{k:List Key}(e:H a=some (.dT kvs))(eb:H b=some (.tup (k.map kV))):DGet H a (.ref b) (Yo kvs k):=.inr ⟨kvs,k,b,.inl e,rfl,eb,rfl⟩
theorem DPut.k{H:Hp}{a:Addr}{kvs:List (Key×V)}{k:Key}{v:V}(e:H a=some (.dK kvs))(hl:kvs.length<sizeLine):DPut H a (kV k) v (upd H a (.dK (Yl kvs k v))):=.inl ⟨kvs,k,e,rfl,hl,rfl⟩
theorem DPut.t{H:Hp}{a b:Addr}{kvs:List (List Key×V)}{k:List Key}{v:V}(e:H a=some (.dT kvs))(eb:H b=some (.tup (k.map kV)))(hl:kvs.length<sizeLine) :
  DPut H a (.ref b) v (upd H a (.dT (Yl kvs k v))):=.inr ⟨kvs,k,b,e,rfl,eb,hl,rfl⟩
section
variable {X:Cx} {pins:ZPO} {σ:St} {H:Hp} {s:Shared} {a:Addr} {y v:V} {u r:Value} {o:Option V} {A:Around} {E:ZVP}
theorem Inv.big(I:Inv X pins σ H s):sysModules<s.heap.objs.size:=by
 have h:mainGlobals<s.heap.objs.size:=(I.mod.glob.keeps I.bk).lt
 exact Nat.lt_trans (by decide) h
theorem ja3{Q:ZVP}(hu:A.units+1<cLine)(I:Inv X pins σ H s)(g:DGet H a y (some v))(ry:RelV y u)(h:∀w' s',Inv X pins σ H s'->RelV v w'->Q w' s') :
  wpAny (model X.prog X.w) A (getItem (.ref a) u) Q E s:=by
 rcases g with ⟨kvs,k,e,ey,l⟩ | ⟨kvs,k,b,e,ey,eb,l⟩
 ·subst ey
  obtain⟨z,hd,vs,rel,dd⟩:=vD I.hok e
  obtain⟨w',hw,rw'⟩:=RelO.some_of (v:=v) (o:=valueAt vs k) (by rw[l];exact rel.val k)
  exact wpAny_getItem_of (qP ry) dd.mapOf hw (h w' _ (I.tok _) rw')
 ·subst ey
  cases (show u=Value.ref b from ry)
  obtain⟨z,hd,xs,rel,dd⟩:=vU I.hok e
  obtain⟨w',hw,rw'⟩:=RelO.some_of (v:=v) (o:=(atKey xs k).map (·.2)) (by rw[l];exact rel.val k)
  obtain⟨p,hp,hp2⟩:=uV.mp hw
  refine wpAny_getItem_heap (tupleKind_room_in1 hu) (wM I.hok eb) dd hp ?_
  rw[hp2]
  exact h w' _ (I.tok _) rw'
theorem ZbC{Q:ZVP}(hu:A.units+1<cLine)(I:Inv X pins σ H s)(g:DGet H a y o)(ry:RelV y u)(h:∀s',Inv X pins σ H s'->Q (.bool o.isSome) s') :
  wpAny (model X.prog X.w) A (compareOp .In u (.ref a)) Q E s:=by
 rcases g with ⟨kvs,k,e,ey,l⟩ | ⟨kvs,k,b,e,ey,eb,l⟩
 ·subst ey
  obtain⟨z,hd,vs,rel,dd⟩:=vD I.hok e
  refine wpAny_in_of (qP ry) hd dd.mapOf ?_
  rw[←(rel.val k).isSome_eq,←l]
  exact h _ (I.tok _)
 ·subst ey
  cases (show u=Value.ref b from ry)
  obtain⟨z,hd,xs,rel,dd⟩:=vU I.hok e
  refine wpAny_in_heap (tupleKind_room_in1 hu) (wM I.hok eb) hd dd ?_
  have q:=(rel.val k).isSome_eq
  rw[Option.isSome_map]at q
  rw[←q,←l]
  exact h _ (I.tok _)
theorem jbg{Q:ZVP}(hu:A.units+1<cLine)(I:Inv X pins σ H s)(g:DGet H a y o)(ry:RelV y u)(h:∀s',Inv X pins σ H s'->Q (.bool (!o.isSome)) s') :
  wpAny (model X.prog X.w) A (compareOp .NotIn u (.ref a)) Q E s:=by
 rcases g with ⟨kvs,k,e,ey,l⟩ | ⟨kvs,k,b,e,ey,eb,l⟩
 ·subst ey
  obtain⟨z,hd,vs,rel,dd⟩:=vD I.hok e
  refine wpAny_notIn_of (qP ry) hd dd.mapOf ?_
  rw[←(rel.val k).isSome_eq,←l]
  exact h _ (I.tok _)
 ·subst ey
  cases (show u=Value.ref b from ry)
  obtain⟨z,hd,xs,rel,dd⟩:=vU I.hok e
  refine wpAny_notIn_heap (tupleKind_room_in1 hu) (wM I.hok eb) hd dd ?_
  have q:=(rel.val k).isSome_eq
  rw[Option.isSome_map]at q
  rw[←q,←l]
  exact h _ (I.tok _)
theorem XL{h':Heap}{t':Nat}{ob:HO}(I:Inv X pins σ H s)(mu:Mut (H a))(hs:yE a s.heap h')(he:∃q,h'.get? a=some q)(new:ObjOk X.prog X.w (upd H a ob) h' a ob) :
  Inv X pins σ (upd H a ob) {s with heap:=h',toks:=t'}:=
 I.write (x:=a) (e:=a) mu (.inl rfl) (fun b q hb z=>(hs.2 b hb).trans z) he new
theorem Xae{P:Program}{w:World}{H':Hp}{h':Heap}{kvs:List (Key×V)}{vs:List (Key×Value)}(z:kvs.length<=sizeLine)(hd:(a==sysModules)=false)(rel:KV kvs vs)(dd:h'.DictOf (We P w) a vs) :
  ObjOk P w H' h' a (.dK kvs):=⟨z,hd,vs,rel,dd⟩
theorem Wa3{H':Hp}{Q:Unit->Shared->Prop}(hu:A.units+1<cLine)(I:Inv X pins σ H s)(g:DPut H a y v H')(ry:RelV y u)(rv:RelV v r)(h:∀s',Inv X pins σ H' s'->Q () s') :
  wpAny (model X.prog X.w) A (setItem (.ref a) u r) Q E s:=by
 rcases g with ⟨kvs,k,e,ey,l,eH⟩ | ⟨kvs,k,b,e,ey,eb,l,eH⟩
 ·subst ey eH
  obtain⟨z,hd,vs,rel,dd⟩:=vau I.hok e
  have hz:vs.length<=sizeLine:=by rw[←rel.length];exact z
  have hl:(Yl kvs k v).length<=sizeLine:=by have:=vB kvs k v;lia
  refine wpAny_setItem_pairs (hsz:=hz) (qP ry) dd fun h' dd' hs=>h _ ?_
  have he:∃q,h'.get? a=some q:=let ⟨q,_,_,hq,_⟩:=dd';⟨q,hq⟩
  exact XL I (by rw[e];exact True.intro) hs he (Xae hl hd (rel.put k rv) dd')
 ·subst ey eH
  cases (show u=Value.ref b from ry)
  obtain⟨z,hd,xs,rel,dd⟩:=XaR I.hok e
  have hz:xs.length<=sizeLine:=by rw[←Paired.length rel];exact z
  have hl:(Yl kvs k v).length<=sizeLine:=by have:=vB kvs k v;lia
  refine wpAny_setItem_heap (hsz:=hz) (tupleKind_room_in1 hu) (wM I.hok eb) dd fun h' dd' hs=>h _ ?_
  obtain⟨q,es,ep,hq,h2,h3,h4,_,h5⟩:=dd'
  refine XL I (by rw[e];exact True.intro) hs ⟨q,hq⟩ ⟨hl,hd,_,(rel.put k eb rv).keeps fun c ys ec=>?_,q,es,ep,hq,h2,h3,h4,h5⟩
  rw[Yd (wbe ec e (fun z=>nomatch z))]
  exact ec
end
def ZaS(i:Expr):Prop:=∀ov iv,subscripted i false ov iv=operate [ov,iv] (getItem ov iv)
theorem Zbk{prog:Program}{w:World}{A:Around}{E:ZVP}{s:Shared}{env:Env}{value slice:Expr}{pos:Pos}{T id:String}{Q:ZVP}
  (hl:typeLookup (.type T) "__getitem__"=pure (some (.builtin id))) (hs:ZaS slice)
  (h:wpAny (model prog w) A (eval value env) (fun o s₁=>wpAny (model prog w) A (eval slice env) (fun i s₂=>s₂.TypeIs o T/\wpAny (model prog w) A (getItem o i) Q E s₂) E s₁) E s) :
  wpAny (model prog w) A (eval (.Subscript value slice pos) env) Q E s:=by
 refine Subscript_ (wpAny_mono h (fun o s₁ h₁=>wpAny_mono h₁ (fun i s₂ h₂=>?_) fun _ _ x=>x) fun _ _ x=>x)
 obtain⟨hT,h₂⟩:=h₂
 unfold subscriptTail
 refine wpAny_bind ?_
 rw[getitemInPython_of_ne hT.not_modules]
 refine wpAny_bind (wpAny_specialOf hT hl ?_)
 have fin:wpAny (model prog w) A (subscripted slice false o i) (fun r s₃=>wpAny (model prog w) A (letTemporaryGo value o r >>= fun _=>pure r) Q E s₃) E s₂:=by
  rw[hs o i]
  exact wpAny_operating (wpAny_mono h₂ (fun r s₃ h₃=>wpAny_bind (wpAny_letTemporaryGo (wpAny_pure h₃))) fun _ _ x=>x)
 first
  | exact wpAny_pure (wpAny_bind fin)
  | exact wpAny_bind (wpAny_pure (wpAny_bind fin))
  | exact wpAny_bind fin
theorem vaH{X:Cx}{pins:ZPO}{σ:St}{H:Hp}{s:Shared}{a:Addr}{y:V}{o:Option V}(I:Inv X pins σ H s)(g:DGet H a y o):s.TypeIs (.ref a) "dict":=by
 rcases g with ⟨kvs,k,e,_,_⟩ | ⟨kvs,k,b,e,_,_,_⟩
 ·obtain⟨_,_,vs,_,dd⟩:=vD I.hok e
  exact dd.typeIs
 ·obtain⟨_,_,xs,_,dd⟩:=vU I.hok e
  exact dd.typeIs
def Xbw(td ty:TE):TE:=fun σ H Q=>td σ H fun x H1=>ty σ H1 fun y H2=>∃a v,x=.ref a/\DGet H2 a y (some v)/\Q v H2
def ZbF(ty td:TE):TE:=fun σ H Q=>ty σ H fun y H1=>td σ H1 fun x H2=>∃a o,x=.ref a/\DGet H2 a y o/\Q (.bl o.isSome) H2
def Wbi(ty td:TE):TE:=fun σ H Q=>ty σ H fun y H1=>td σ H1 fun x H2=>∃a o,x=.ref a/\DGet H2 a y o/\Q (.bl (!o.isSome)) H2
def kby(td ty tv:TE):TS:=fun D σ H=>tv σ H fun v H1=>td σ H1 fun x H2=>ty σ H2 fun y H3=>∃a H4,x=.ref a/\DPut H3 a y v H4/\D.nx σ H4
section
variable {X:Cx} {o i e value:Expr} {pos pos' tpos:Pos} {td ty tv:TE}
theorem YaK(hu:X.A.units+1<cLine)(ho:PE X o td)(hi:PE X i ty)(hs:ZaS i):PE X (.Subscript o i pos) (Xbw td ty):=by
 intro pins s σ H Q I h
 refine Zbk PySem.F.slot_dict_getitem.lookup hs (thn (ho pins s σ H _ I h) fun u s1 w1_=>w1_.elim fun x z_=>z_.elim fun H1 z_=>z_.elim fun I1 z_=>z_.elim fun rx q1=>thn (hi pins s1 σ H1 _ I1 q1) fun iv s2 w1_=>w1_.elim fun y z_=>z_.elim fun H2 z_=>z_.elim fun I2 z_=>z_.elim fun ry z_=>z_.elim fun a z_=>z_.elim fun v z_=>z_.elim fun ex z_=>z_.elim fun g q2=>?_)
 subst ex
 obtain rfl:u=Value.ref a:=rx
 exact⟨vaH I2 g,ja3 hu I2 g ry fun w' s3 I3 rw'=>⟨v,H2,I3,rw',q2⟩⟩
theorem Za1(hu:X.A.units+1<cLine)(hi:PE X i ty)(ho:PE X o td):PC X .In i o (ZbF ty td):=by
 intro pins s σ H Q I h
 refine thn (hi pins s σ H _ I h) fun iv s1 w1_=>w1_.elim fun y z_=>z_.elim fun H1 z_=>z_.elim fun I1 z_=>z_.elim fun ry q1=>thn (ho pins s1 σ H1 _ I1 q1) fun u s2 w1_=>w1_.elim fun x z_=>z_.elim fun H2 z_=>z_.elim fun I2 z_=>z_.elim fun rx z_=>z_.elim fun a z_=>z_.elim fun ov z_=>z_.elim fun ex z_=>z_.elim fun g q2=>?_
 subst ex
 obtain rfl:u=Value.ref a:=rx
 exact ZbC hu I2 g ry fun s3 I3=>⟨.bl ov.isSome,H2,I3,rfl,q2⟩
theorem Za4(hu:X.A.units+1<cLine)(hi:PE X i ty)(ho:PE X o td):PC X .NotIn i o (Wbi ty td):=by
 intro pins s σ H Q I h
 refine thn (hi pins s σ H _ I h) fun iv s1 w1_=>w1_.elim fun y z_=>z_.elim fun H1 z_=>z_.elim fun I1 z_=>z_.elim fun ry q1=>thn (ho pins s1 σ H1 _ I1 q1) fun u s2 w1_=>w1_.elim fun x z_=>z_.elim fun H2 z_=>z_.elim fun I2 z_=>z_.elim fun rx z_=>z_.elim fun a z_=>z_.elim fun ov z_=>z_.elim fun ex z_=>z_.elim fun g q2=>?_
 subst ex
 obtain rfl:u=Value.ref a:=rx
 exact jbg hu I2 g ry fun s3 I3=>⟨.bl (!ov.isSome),H2,I3,rfl,q2⟩
theorem ZaJ(hu:X.A.units+1<cLine)(ho:PE X o td)(hi:PE X i ty)(hv:PE X value tv)(hs:swapsWith value (some (.Subscript o i pos')) pos.line X.env=pure false) :
  PS X (.Assign [.Subscript o i pos'] value pos) (kby td ty tv):=by
 intro pins s σ H D I h
 refine wpAny_Assign_Subscript (thn (hv pins s σ H _ I h) fun r s1 w1_=>w1_.elim fun v z_=>z_.elim fun H1 z_=>z_.elim fun I1 z_=>z_.elim fun rv q1=>thn (ho pins s1 σ H1 _ I1 q1) fun u s2 w1_=>w1_.elim fun x z_=>z_.elim fun H2 z_=>z_.elim fun I2 z_=>z_.elim fun rx q2=>thn (hi pins s2 σ H2 _ I2 q2) fun iv s3 w1_=>w1_.elim fun y z_=>z_.elim fun H3 z_=>z_.elim fun I3 z_=>z_.elim fun ry z_=>z_.elim fun a z_=>z_.elim fun H4 z_=>z_.elim fun ex z_=>z_.elim fun g q3=>?_) hs
 subst ex
 obtain rfl:u=Value.ref a:=rx
 exact Wa3 hu I3 g ry rv fun s4 I4=>⟨σ,H4,I4,q3⟩
end
theorem Xbc{P:Program}{w:World}{H:Hp}(h:Heap)(hb:sysModules<h.objs.size):ObjOk P w H (h.push {cls:=.type "dict",data:=.dict #[]}) h.objs.size (.dK []):=
 ⟨ua _,beq_eq_false_iff_ne.mpr (Ne.symm (uR hb)),[],.nil,Heap.DictOf.new h⟩
theorem kay{P:Program}{w:World}{H:Hp}(h:Heap)(hb:sysModules<h.objs.size):ObjOk P w H (h.push {cls:=.type "dict",data:=.dict #[]}) h.objs.size (.dT []):=
 ⟨ua _,beq_eq_false_iff_ne.mpr (Ne.symm (uR hb)),[],.nil,_,#[],0,uT _ rfl,⟨rfl,rfl,rfl⟩,rfl,rfl,xR⟩
def Xbp:TE:=fun _ H Q=>∀p,H p=none->Q (.ref p) (upd H p (.dK []))
def vbt:TE:=fun _ H Q=>∀p,H p=none->Q (.ref p) (upd H p (.dT []))
section
variable {X:Cx} {pos:Pos}
theorem pe_dnewK:PE X (.Dict [] [] pos) Xbp:=fun pins s σ H Q I h=>
 wpAny_Dict_empty ⟨.ref s.heap.objs.size,_,I.laid (a:=s.heap.objs.size) (o:=.dK []) (t':=s.toks) (fun _ _ q=>uC _ q) (uJ _) (Xbc s.heap I.big),rfl,h _ (I.hok.fresh (uJ _))⟩
theorem pe_dnewT:PE X (.Dict [] [] pos) vbt:=fun pins s σ H Q I h=>
 wpAny_Dict_empty ⟨.ref s.heap.objs.size,_,I.laid (a:=s.heap.objs.size) (o:=.dT []) (t':=s.toks) (fun _ _ q=>uC _ q) (uJ _) (kay s.heap I.big),rfl,h _ (I.hok.fresh (uJ _))⟩
end
noncomputable def vM(kvs more:List (Key×V)):List (Key×V):=more.foldl (fun acc kv=>Yl acc kv.1 kv.2) kvs
theorem KV.merge:∀{more:List (Key×V)} {rs:List (Key×Value)} {kvs:List (Key×V)} {vs:List (Key×Value)},KV more rs->KV kvs vs->KV (vM kvs more) (merged vs rs):=by
 intro more rs kvs vs r
 unfold KV at r
 induction r generalizing kvs vs with
 | nil=>intro q;exact q
 | @cons p q ps qs h t ih=>
  intro r0
  have e:KV (Yl kvs p.1 p.2) (stored vs q.1 q.2):=by
   have:=r0.put p.1 h.2
   rw[←h.1];exact this
  exact ih e
theorem vV:∀(more kvs:List (Key×V)),(vM kvs more).length<=kvs.length+more.length
 | [],kvs=>by show kvs.length<=kvs.length+0;lia
 | p::r,kvs=>by
  have h1:=vV r (Yl kvs p.1 p.2)
  have h2:=vB kvs p.1 p.2
  show(vM (Yl kvs p.1 p.2) r).length<=_
  rw[uj];lia
structure M2(X:Cx)(o:Expr)(m:Str)(apos:Pos)(e f:Expr)(cpos:Pos):Prop where
 base:attributeBase o m X.env (eval o X.env)=eval o X.env
 few:((backTo cpos (starEach [e,f] X.env)).all (fun x=>!x.1)&&(backToKw cpos (keywordEach [] X.env)).all (fun x=>x.1.isSome)
  && decide (([e,f]:List Expr).length+([]:List Keyword).length+(if ([]:List Keyword).isEmpty then 0 else 1)<30))=true
 line:(apos.endLine==cpos.line)=true
 trees:backTo cpos (starEach [e,f] X.env)=[(false,eval e X.env),(false,eval f X.env)]
def IsD(H:Hp)(a:Addr):Prop:=(∃kvs,Rd H a (.dK kvs))\/∃kvs,Rd H a (.dT kvs)
theorem kaw{X:Cx}{pins:ZPO}{σ:St}{H:Hp}{s:Shared}{a:Addr}(I:Inv X pins σ H s)(d:IsD H a) :
  s.TypeIs (.ref a) "dict"/\(∀b,Value.ref a=.ref b->∃ob,s.heap.get? b=some ob/\ob.dict=none)/\(a==sysModules)=false:=by
 rcases d with ⟨kvs,e⟩ | ⟨kvs,e⟩
 ·obtain⟨_,hd,vs,_,dd⟩:=vD I.hok e
  refine⟨dd.typeIs,fun b q=>?_,hd⟩
  cases q
  obtain⟨ob,_,_,h1,h2,_⟩:=dd
  exact⟨ob,h1,h2.2.1⟩
 ·obtain⟨_,hd,xs,_,dd⟩:=vU I.hok e
  refine⟨dd.typeIs,fun b q=>?_,hd⟩
  cases q
  obtain⟨ob,_,_,h1,h2,_⟩:=dd
  exact⟨ob,h1,h2.2.1⟩
section
variable {X:Cx} {pins:ZPO} {σ:St} {H:Hp} {s:Shared} {a:Addr} {y d:V} {u r:Value} {o:Option V} {A:Around} {E:ZVP}
theorem Ybs{Q:ZVP}(hu:A.units+1<cLine)(I:Inv X pins σ H s)(g:DGet H a y o)(ry:RelV y u)(rd:RelV d r)(h:∀w' s',Inv X pins σ H s'->RelV (o.getD d) w'->Q w' s') :
  wpAny (model X.prog X.w) A (call (.builtin "dict.get") [.ref a,u,r]) Q E s:=by
 rcases g with ⟨kvs,k,e,ey,l⟩ | ⟨kvs,k,b,e,ey,eb,l⟩
 ·subst ey
  obtain⟨z,hd,vs,rel,dd⟩:=vD I.hok e
  refine call_meetsIn PySem.F.slot_dict_get dd.typeIs PySem.F.entry_dict_get (PySem.F.args_dict_get_3 _ _ _) (meets_dict_get_default (We X.prog X.w) a (qP ry) hd r) ⟨_,dd.mapOf,h _ _ (I.tok _) ?_⟩
  rw[l]
  exact(rel.val k).getD rd
 ·subst ey
  cases (show u=Value.ref b from ry)
  obtain⟨z,hd,xs,rel,dd⟩:=vU I.hok e
  refine call_meetsIn PySem.F.slot_dict_get dd.typeIs PySem.F.entry_dict_get (PySem.F.args_dict_get_3 _ _ _) (meetsH_dict_get_default (tupleKind (We X.prog X.w)) a b hd r) ⟨tupleKind_room_in1 hu,k,xs,wM I.hok eb,dd,h _ _ (I.tok _) ?_⟩
  rw[l]
  exact(rel.val k).getD rd
end
def kbs(td ty tx:TE):TE:=fun σ H Q=>td σ H fun x H1=>∃a,x=.ref a/\IsD H1 a/\ty σ H1 fun y H2=>tx σ H2 fun z H3=>∃o,DGet H3 a y o/\Q (o.getD z) H3
section
variable {X:Cx} {o e f:Expr} {apos cpos:Pos} {td ty tx:TE}
theorem Ybc(hu:X.A.units+1<cLine)(ho:PE X o td)(he:PE X e ty)(hf:PE X f tx)(m:M2 X o "get" apos e f cpos):PE X (.Call (.Attribute o "get" apos) [e,f] [] cpos) (kbs td ty tx):=by
 intro pins s σ H Q I h
 refine wpAny_Call_method m.base m.few m.line yj PySem.F.slot_dict_get PySem.F.type_dict_get (thn (ho pins s σ H _ I h) fun u s1 w1_=>w1_.elim fun x z_=>z_.elim fun H1 z_=>z_.elim fun I1 z_=>z_.elim fun rx z_=>z_.elim fun a z_=>z_.elim fun ex z_=>z_.elim fun d q1=>?_)
 subst ex
 obtain rfl:u=Value.ref a:=rx
 obtain⟨t1,t2,_⟩:=kaw I1 d
 refine⟨t1,t2,?_⟩
 rw[m.trees]
 refine Calls.callWith_builtin rfl (Calls.evalArgs_plain (Calls.spliced_cons (thn (he pins s1 σ H1 _ I1 q1) fun iv s2 w1_=>w1_.elim fun y z_=>z_.elim fun H2 z_=>z_.elim fun I2 z_=>z_.elim fun ry q2=>
  Calls.spliced_cons (thn (hf pins s2 σ H2 _ I2 q2) fun fv s3 w1_=>w1_.elim fun z z_=>z_.elim fun H3 z_=>z_.elim fun I3 z_=>z_.elim fun rz z_=>z_.elim fun ov z_=>z_.elim fun g q3=>Calls.spliced_nil ?_))))
 exact Ybs hu I3 g ry rz fun w' s4 I4 rw'=>⟨_,H3,I4,rw',q3⟩
end
section
variable {X:Cx} {pins:ZPO} {σ:St} {H:Hp} {s:Shared} {a:Addr} {kvs:List (Key×V)} {A:Around} {E:ZVP}
theorem Xba{Q:ZVP}(I:Inv X pins σ H s)(e:Rd H a (.dK kvs))(h:∀p s',H p=none->Inv X pins σ (upd H p (.dK kvs)) s'->Q (.ref p) s'):wpAny (model X.prog X.w) A (call (.type "dict") [.ref a]) Q E s:=by
 obtain⟨z,hd,vs,rel,dd⟩:=vD I.hok e
 refine kt_call_dict hd dd (by rw[←rel.length];exact z) fun h' dd' hs=>?_
 refine h _ _ (I.hok.fresh (uJ _)) (I.laid (a:=s.heap.objs.size) (o:=.dK kvs) (t':=s.toks) (fun b q hq=>?_) (uJ _) (Xae z (beq_eq_false_iff_ne.mpr (Ne.symm (uR I.big))) rel dd'))
 exact(hs.2 b (uR (uM hq))).trans (uC _ hq)
end
noncomputable def wl:Key->D
 | .inl i=>.int i
 | .inr x=>.str x
theorem YF{K:KF}{H:Hp}{M:HpD}{k:Key}{v:V}(r:RepD K H M (wl k) v):v=kV k:=by
 cases k<;>(unfold wl RepD at r;exact r)
noncomputable def Wr{β:Type}(kvs:List (Key×β))(k:Key):Option β:=(kvs.find? fun kv=>decide (kv.1=k)).map (·.2)
noncomputable def ju{β:Type}(kvs:List (Key×β))(k:Key)(v:β):List (Key×β):=
 if (kvs.any fun kv=>decide (kv.1=k))=true then kvs.map (fun kv=>if kv.1=k then (kv.1,v) else kv) else kvs++[(k,v)]
theorem ZO{β:Type}{p:Key×β}{r:List (Key×β)}{k:Key}(e:p.1=k):Wr (p::r) k=some p.2:=by simp[Wr,uq,e]
theorem WM{β:Type}{p:Key×β}{r:List (Key×β)}{k:Key}(e:¬p.1=k):Wr (p::r) k=Wr r k:=by simp[Wr,uq,e]
structure RepKV(K:KF)(H:Hp)(M:HpD)(kvs:List (Key×D))(vs:List (Key×V)):Prop where
 keys:vs.map (·.1)=kvs.map (·.1)
 vals:RepDs K H M (kvs.map (·.2)) (vs.map (·.2))
section
variable {K:KF} {H:Hp} {M:HpD}
theorem RepKV.cons_inv{p:Key×D}{kvs:List (Key×D)}{vs:List (Key×V)}(h:RepKV K H M (p::kvs) vs):∃q r,vs=q::r/\q.1=p.1/\RepD K H M p.2 q.2/\RepKV K H M kvs r:=by
 obtain⟨k,v⟩:=h
 cases vs with
 | nil=>simp at k
 | cons q r=>
  simp only[uH,List.cons.injEq]at k
  rw[uH,uH]at v
  unfold RepDs at v
  obtain⟨x,xr,e,r1,r2⟩:=v
  cases e
  exact⟨q,r,rfl,k.1,r1,k.2,r2⟩
theorem RepKV.len{kvs:List (Key×D)}{vs:List (Key×V)}(h:RepKV K H M kvs vs):kvs.length=vs.length:=by
 have:=congrArg xV h.keys
 simpa using this.symm
theorem RepKV.val{k:Key}:∀{kvs:List (Key×D)} {vs:List (Key×V)},RepKV K H M kvs vs->(Wr kvs k=none/\Yo vs k=none)\/∃d v,Wr kvs k=some d/\Yo vs k=some v/\RepD K H M d v
 | [],vs,h=>by
  have:vs=[]:=ut.mp h.len.symm
  subst this
  exact .inl ⟨rfl,rfl⟩
 | p::kvs,vs,h=>by
  obtain⟨q,r,rfl,e,r1,h2⟩:=h.cons_inv
  by_cases z:p.1=k
  ·exact .inr ⟨p.2,q.2,ZO z,wL (by rw[e];exact z),r1⟩
  ·rw[WM z,vL (by rw[e];exact z)]
   exact RepKV.val h2
theorem RepKV.any{k:Key}{kvs:List (Key×D)}{vs:List (Key×V)}(h:RepKV K H M kvs vs):(vs.any fun kv=>decide (kv.1=k))=kvs.any fun kv=>decide (kv.1=k):=by
 have e:∀{β:Type} (l:List (Key×β)),(l.any fun kv=>decide (kv.1=k))=(l.map (·.1)).any fun x=>decide (x=k):=fun l=>by rw[List.any_map];rfl
 rw[e,e,h.keys]
theorem RepKV.put{k:Key}{d:D}{v:V}(rv:RepD K H M d v){kvs:List (Key×D)}{vs:List (Key×V)}(h:RepKV K H M kvs vs):RepKV K H M (ju kvs k d) (Yl vs k v):=by
 unfold ju Yl
 rw[h.any]
 by_cases z:(kvs.any fun kv=>decide (kv.1=k))=true
 ·rw[if_pos z,if_pos z]
  clear z
  have go:∀{kvs:List (Key×D)} {vs:List (Key×V)},RepKV K H M kvs vs->RepKV K H M (kvs.map fun kv=>if kv.1=k then (kv.1,d) else kv) (vs.map fun kv=>if kv.1=k then (kv.1,v) else kv):=by
   intro kvs
   induction kvs with
   | nil=>
    intro vs h
    have:vs=[]:=ut.mp h.len.symm
    subst this
    exact⟨rfl,.nil⟩
   | cons p kvs ih=>
    intro vs h
    obtain⟨q,r,rfl,e,r1,h2⟩:=h.cons_inv
    obtain⟨i1,i2⟩:=ih h2
    rw[uH,uH]
    by_cases z:p.1=k
    ·rw[if_pos z,if_pos (by rw[e];exact z)]
     exact⟨by simp only[uH];rw[i1,e],.cons rv i2⟩
    ·rw[if_neg z,if_neg (by rw[e];exact z)]
     exact⟨by simp only[uH];rw[i1,e],.cons r1 i2⟩
  exact go h
 ·rw[if_neg z,if_neg z]
  exact⟨by rw[uN,uN,h.keys];rfl,by rw[uN,uN];exact h.vals.append (.cons rv .nil)⟩
end
noncomputable def Zr:D->HpD->Option (List (Key×D))
 | .ref p,M=>match M p with | some (.dct kvs)=>some kvs | _=>none
 | _,_=>none
theorem vC{p:Addr}{M:HpD}{kvs:List (Key×D)}(h:M p=some (.dct kvs)):Zr (.ref p) M=some kvs:=by simp only[Zr,h]
theorem W9{K:KF}{H:Hp}{M:HpD}{d:D}{v:V}{kvs:List (Key×D)}(rh:RepH K H M)(r:RepD K H M d v)(e:Zr d M=some kvs):∃p vs,d=.ref p/\M p=some (.dct kvs)/\v=.ref p/\H p=some (.dK vs)/\RepKV K H M kvs vs:=by
 cases d with
 | ref p=>
  cases q:M p with
  | none=>simp only[Zr,q]at e;cases e
  | some o=>
   cases o with
   | lst l=>simp only[Zr,q]at e;cases e
   | tab _=>simp only[Zr,q]at e;cases e
   | dtt _=>simp only[Zr,q]at e;cases e
   | dct l=>
    simp only[Zr,q]at e;cases e
    obtain⟨o',e',vs,rfl,k,r2⟩:=rh.at_ p _ q
    unfold RepD at r
    exact⟨p,vs,rfl,q,r,e',k,r2⟩
 | _=>cases e
section
variable {X:Cx} {o i:Expr} {td ty tv:TDE} {pos pos':Pos} {k:Nat}
@[irreducible] def kaO(neg:Bool)(ty td:TDE):TDE:=fun σ M Q=>ty σ M fun y M1=>td σ M1 fun x M2=>∃kvs k,Zr x M2=some kvs/\y=wl k/\Q (.bl (neg ^^ (Wr kvs k).isSome)) M2
theorem Ya5{K:uD}{neg:Bool}{σ:St}{H:Hp}{Q:VK}(h:Yg K (kaO neg ty td) σ H Q):Yg K ty σ H fun y H1=>Yg K td σ H1 fun x H2=>∃a ov,x=.ref a/\DGet H2 a y ov/\Q (.bl (neg ^^ ov.isSome)) H2:=by
 obtain⟨F,σD,M,QD,rel,h,p⟩:=h
 unfold kaO at h
 refine lE rel h fun y M1 vy H1 f1 rel1 r1 h1=>?_
 refine lE rel1 h1 fun x M2 vx H2 f2 rel2 r2 h2=>?_
 obtain⟨kvs,k,hd,rfl,q⟩:=h2
 obtain⟨a,vs,rfl,ha,rfl,hH,kv⟩:=W9 rel2.hp r2 hd
 have:=YF r1
 subst this
 refine⟨a,Yo vs k,rfl,.k hH,?_⟩
 have e:(Yo vs k).isSome=(Wr kvs k).isSome:=by
  rcases kv.val (k:=k) with ⟨e1,e2⟩ | ⟨d,v,e1,e2,_⟩<;>rw[e1,e2]<;>rfl
 rw[e]
 exact p _ _ _ _ (f1.trans f2) rel2.hp (by unfold RepD;rfl) q
theorem XbF(hr:Room k X.A)(hi:ED X i ty)(ho:ED X o td):PC X .In i o (Yg X.K (kaO false ty td)):=fun pins s σ H Q I h=>by
 refine Za1 (by have:=hr.un;lia) hi ho pins s σ H Q I ?_
 have:=Ya5 h
 simp only[yR]at this
 exact this
theorem XaQ{K:uD}{t:TDE}{σ:St}{H:Hp}{Q:Bool->Hp->Prop}(h:wG K (Xd t) σ H Q):tB (Yg K t) σ H Q:=by
 obtain⟨F,σD,M,QD,rel,h,p⟩:=h
 unfold Xd at h
 refine lE rel h fun d M1 v H1 f1 rel1 r1 h1=>?_
 obtain⟨b,rfl,q⟩:=h1
 unfold RepD at r1
 exact⟨b,r1,p _ _ _ f1 rel1.hp q⟩
@[irreducible] def Xy(td ty:TDE):TDE:=fun σ M Q=>td σ M fun x M1=>ty σ M1 fun y M2=>∃kvs k d,Zr x M2=some kvs/\y=wl k/\Wr kvs k=some d/\Q d M2
theorem waL{σ:SD}{M:HpD}{Q:KD}(h:td σ M fun x M1=>ty σ M1 fun y M2=>∃kvs k d,Zr x M2=some kvs/\y=wl k/\Wr kvs k=some d/\Q d M2):Xy td ty σ M Q:=by unfold Xy;exact h
theorem wR(hr:Room k X.A)(ho:ED X o td)(hi:ED X i ty)(hs:ZaS i:=by exact fun _ _=>rfl):ED X (.Subscript o i pos) (Xy td ty):=by
 refine(YaK (by have:=hr.un;lia) ho hi hs).wk fun σ H Q h=>?_
 obtain⟨F,σD,M,QD,rel,h,p⟩:=h
 unfold Xy at h
 refine lE rel h fun x M1 vx H1 f1 rel1 r1 h1=>?_
 refine lE rel1 h1 fun y M2 vy H2 f2 rel2 r2 h2=>?_
 obtain⟨kvs,k,d,hd,rfl,hv,q⟩:=h2
 obtain⟨a,vs,rfl,ha,rfl,hH,kv⟩:=W9 rel2.hp (r1.mono f2) hd
 have:=YF r2
 subst this
 rcases kv.val (k:=k) with ⟨e1,e2⟩ | ⟨d',v,e1,e2,rv⟩
 ·rw[hv]at e1;cases e1
 ·rw[hv]at e1;cases e1
  exact⟨a,v,rfl,e2▸DGet.k hH,p _ _ _ _ (f1.trans f2) rel2.hp rv q⟩
end
structure FunC(K:uD)(x qual:Str)(st:Stmt)(f:Addr)(fd:FuncData)(cdv:Value):Prop where
 ex:∃(oc:Value) (od:Option Addr) (kV doc pm:Value) (an:Option Addr) (ct:Value) (osl:Array (Option Value)),fd=xU x qual (ky st) (Zp st) (vc st) .none kV doc pm an cdv ct ∧
  K.lookup f=some ⟨oc,od,.func (xU x qual (ky st) (Zp st) (vc st) .none kV doc pm an cdv ct),osl⟩/\yQ K cdv qual=true
theorem FunC.okD{P:Program}{w:World}{K:uD}{mg:Str->Option Value}{base:Heap}{x qual:Str}{st:Stmt}{f:Addr}{fd:FuncData}{cdv:Value}{N ps:List Str}{k:Nat}{sp:SpD}{t:TSD}(F:FunC K x qual st f fd cdv)(S:Wf N ps (vc st))(len:∀ds M Q,sp ds M Q->ds.length=ps.length)
  (hterm:∀(A:Around) (outer:List Env) (s:Shared) (H:Hp) (E:XK),Room k (A.deeper (envOfC qual (vc st) s.heap.objs.size f cdv)) →
   SsD (qV CX0 P w K mg base N qual (vc st) f cdv A outer s H E).nox (Zp st) t)
  (hread:∀ds M Q,sp ds M Q->t {nx:=fun _ M'=>Q .non M',rt:=Q} (Zg N ds) M):ZE P w K mg base CX0 (k+1) f fd ps (YH K sp):=by
 obtain⟨oc,od,kV,doc,pm,an,ct,osl,rfl,lk,hcd⟩:=F.ex
 refine vbe lk hcd S (fun vs H Q E h=>?_) fun A outer s H vs Q E hr h=>?_
 ·obtain⟨F',ds,M,QD,r,rh,hsp,p⟩:=h
  rw[←r.length]
  exact len _ _ _ hsp
 ·obtain⟨F',ds,M,QD,r,rh,hsp,p⟩:=h
  exact⟨wag K t,(hterm A outer s H E hr).nox,F',Zg N ds,M,_,wap r rh,hread ds M QD hsp,⟨fun σD' M' σ' H' f rel q=>p _ M' _ H' f rel.hp (by unfold RepD;rfl) q,p,fun _ _ _ _ _ _ h=>h.elim,fun _ _ _ _ _ _ h=>h.elim⟩⟩
end L2
namespace L2
open PySem PyProof.Rows
theorem Ybd{m f mv:Nat}{led plain:Bool}{hs:Array Int}{t:SetTable}{o:Array Nat}(h:SetTable.laid m f mv led plain hs=some (t,o)):t.led=led:=by
 unfold SetTable.laid at h
 cases e:SetTable.layClean m hs with
 | none=>rw[e]at h;cases h
 | some ow=>rw[e]at h;cases h;rfl
theorem kaC(t:SetTable)(es:Array (Int×Value))(n:Nat):(relayAll t es n).2.1.led=t.led:=by
 unfold relayAll
 split
 ·rename_i t' o h
  dsimp only
  split
  ·exact Ybd h
  ·rfl
 ·rfl
theorem vaR(t:SetTable)(es:Array (Int×Value))(h:Int)(x:Value):(layNew t es h x).2.1.led=t.led:=by
 unfold layNew
 split
 ·dsimp only
  unfold SetTable.orStandIn
  split<;>rfl
 ·rfl
section
variable {prog:Program} {w:World} {A:Around} {E:ZVP} {s:Shared}
theorem ZaM{h:Heap}{a:Addr}{es:Array (Int×Value)}{ep:Nat}{t:SetTable}(ho:h.get? a=some {cls:=.type "set",dict:=none,data:=.set es ep t,slots:=#[]})(es':Array (Int×Value))(t':SetTable) :
  (h.update a (Obj.putSet es' t')).get? a=some {cls:=.type "set",dict:=none,data:=.set es' (ep+1) t',slots:=#[]}:=by
 have:=uw (Obj.putSet es' t') ho (by rw[putSet_of es' t' rfl];rfl)
 rw[putSet_of es' t' rfl]at this;exact this
end
section
variable {prog:Program} {w:World} {A:Around} {E:ZVP} {s:Shared}
noncomputable def qw(w:World):Obj:={cls:=.type "set",dict:=none,data:=.set #[] 0 (.fresh 0 0 (!w.params.followText "set-order"))}
theorem kbl(a:Value){Q₁:ZVP}
  (h:Q₁ (.ref s.heap.objs.size) {s with heap:=s.heap.push (qw w)}) :
  codeAny (model prog w) A (.call (.builtin "set.__new__") ⟨[.type "set",a],[]⟩) (wants Q₁ E) s:=by
 refine codeAny_of_tree ?_
 show wpAny _ A.in1 (do checkBuiltinCall "set.__new__" ⟨[.type "set",a],[]⟩;again (.builtin "set.__new__" ⟨[.type "set",a],[]⟩)) _ _ s
 refine wpAny_bind (wpAny_of_eq (PySem.F.newCall_set_1 a) (wpAny_pure ⟨plainId_quiet PySem.F.plain_set_new _,codeAny_builtin PySem.F.entry_set_new ?_⟩))
 rw[Around.under_plainId PySem.F.plain_set_new _]
 unfold Builtin.«set.__new__» Builtin.Frozenset.newClass
 have hsub:=sub_set_self
 obtain⟨hp,g,d,tk,os⟩:=s
 dsimp only
 wp_walk
 refine wpAny_askSetting (wpAny_pure ?_)
 dsimp only
 simp only[newObj]
 refine wpAny_bind (wpAny_alloc (wpAny_pure ?_))
 exact wpAny_pure h
end
theorem XW{p:Array Nat}:∀(f hi:Nat),SetTable.below.go p 0 f 0 hi=0
 | 0,hi=>by unfold SetTable.below.go;rfl
 | f+1,hi=>by
  unfold SetTable.below.go
  split
  ·dsimp only
   rw[if_neg (Nat.not_lt_zero _)]
   exact XW f _
  ·rfl
theorem qaP(p:Array Nat):SetTable.below p 0=0:=XW _ _
theorem WaK{α:Type}{f:Nat->Nat}{P:α->Prop}:∀(n k:Nat) (left:List α) (out:Array α),n=left.length->(∀x∈left,P x)->(∀x∈out.toList,P x) →
  (pickOrder.go f n k left out).size=out.size+n/\∀x∈(pickOrder.go f n k left out).toList,P x
 | 0,k,left,out,hn,hl,ho=>by unfold pickOrder.go;exact⟨rfl,ho⟩
 | n+1,k,left,out,hn,hl,ho=>by
  unfold pickOrder.go
  have hlt:f k % left.length<left.length:=Nat.mod_lt _ (by lia)
  rw[uB hlt]
  dsimp only
  obtain⟨a,b⟩:=WaK (f:=f) (P:=P) n (k+1) (left.eraseIdx (f k % left.length)) (out.push left[f k % left.length]) (by rw[yW hlt];lia) (fun x hx=>hl x (List.mem_of_mem_eraseIdx hx)) (fun x hx=>by
   rw[ym]at hx
   rcases uQ.mp hx with q | q
   ·exact ho x q
   ·rw[uL]at q;rw[q];exact hl _ (xS hlt))
  exact⟨by rw[a,Array.size_push];lia,b⟩
theorem wan{α:Type}(f:Nat->Nat)(xs:Array α):(pickOrder f xs).size=xs.size:=by
 have:=(WaK (f:=f) (P:=fun _=>True) xs.size 0 xs.toList #[] (by simp) (fun _ _=>trivial) (fun _ _=>trivial)).1
 unfold pickOrder;rw[this];simp
section
variable {M:Model} {A:Around} {E:ZVP} {s:Shared}
theorem YaG{src:Source}{n:Nat}{Q:Nat->Shared->Prop}(hn:n≠0)(h:∀i,i<n->∀d,Q i {s with drawn:=d}):wpAny M A (choose src n) Q E s:=fun Γ p hΓ=>by
 show Sem.wp M Γ (.choose src n .pure) _ _ p s
 rw[Sem.wp_choose]
 refine⟨hn,?_⟩
 have:=h _ (Nat.mod_lt (M.w.draws src (s.drawn.get src)) (Nat.pos_of_ne_zero hn)) (s.drawn.bump src)
 simpa using this
end
theorem Zak:entryFor table "set.__iter__"=some Builtin.«frozenset.__iter__»:=
 entryFor_alias (id':="frozenset.__iter__") (by kernel_rfl) rfl (by decide +kernel) (by kernel_rfl)
theorem slot_setiter_next:Slot "set_iterator" "__next__" "set_iterator.__next__" :=
 .of (owner:="set_iterator") (n:="__next__") (by rw[typeLookup_type,builtinLookup_eq_fast];kernel_rfl) (by decide +kernel) (by decide +kernel) (by decide +kernel)
  (by first | exact .inl (by decide +kernel) | exact .inr (by decide +kernel)) (by rw[isSubtype_type];kernel_rfl)
theorem X0:entryFor table "set_iterator.__next__"=some Builtin.«set_iterator.__next__»:=entryFor_of_tree (by kernel_rfl)
theorem W6(a:Value):argsOk "set_iterator.__next__" ⟨[a],[]⟩:=by unfold argsOk;kernel_rfl
noncomputable def itO(first:Value)(i:Nat)(S:Addr)(n ep:Nat):Obj:={cls:=.type "set_iterator",data:=.fields #[first,.int i 0,.ref S,.int n 0,.int ep 0]}
noncomputable def vW(es:Array (Int×Value))(ep:Nat)(t:SetTable):Obj:={cls:=.type "set",dict:=none,data:=.set es ep t,slots:=#[]}
section
variable {prog:Program} {w:World} {A:Around} {E:ZVP} {s:Shared} {S it:Addr} {es:Array (Int×Value)} {ep:Nat} {t:SetTable}
theorem XO{Q:Bool->Shared->Prop}(h:Q (w.params.followText "set-order") s):wpAny (model prog w) A setsByText Q E s:=wpAny_bind (wpAny_askSetting (wpAny_pure h))
theorem kbb{sl g:Nat}{Q:Option (Value×Nat)->Shared->Prop}(hS:s.heap.get? S=some (vW es ep t))(hf:t.fits es.size=true)(hw:w.params.followText "set-order"=false)(hd:(!t.plain&&decide (es.size > 1))=false)(hl:t.led=true)
  (h:Q (match es[SetTable.below t.place sl]?,t.place[SetTable.below t.place sl]? with | some (_,x),some j=>some (x,j+1) | _,_=>none) s):wpAny (model prog w) A (setNext S sl g ep) Q E s:=by
 unfold setNext
 refine wpAny_bind (wpAny_setState_of hS rfl hf ?_)
 dsimp only
 refine wpAny_bind (XO ?_)
 rw[hw]
 simp only[ue,if_false]
 show wpAny _ _ (if (!t.plain&&decide (es.size > 1))=true then _ else _) _ _ s
 rw[hd]
 simp only[ue,if_false]
 refine wpAny_bind (m:=(if (!t.led&&!es.isEmpty)=true then unsupported "set:maker-not-led" else pure ())) ?_
 rw[hl]
 exact wpAny_pure (wpAny_pure h)
theorem qaO{pl:Nat}{e:Int×Value}{Q:ZVP}(hS:s.heap.get? S=some (vW es ep t))(hf:t.fits es.size=true)(he:es[pl]?=some e)(h:Q e.2 s):wpAny (model prog w) A (setNextDrawn S pl ep) Q E s:=by
 unfold setNextDrawn
 refine wpAny_bind (wpAny_setState_of hS rfl hf ?_)
 dsimp only
 simp only[bne_self_eq_false,ue,if_false,he]
 exact wpAny_pure h
end
section
variable {prog:Program} {w:World} {A:Around} {E:ZVP} {s:Shared} {S it:Addr} {es:Array (Int×Value)} {ep:Nat} {t:SetTable}
theorem jw{o:Obj}{vs:Array Value}{i:Nat}{x:Value}{h:Heap}(ho:h.get? it=some o)(hd:o.data=.fields vs):(h.update it (Obj.mapFields (·.setIfInBounds i x))).get? it=some {o with data:=.fields (vs.setIfInBounds i x)}:=by
 have:=uw (Obj.mapFields (·.setIfInBounds i x)) ho (Obj.isFreed_of_fields (Obj.data_mapFields hd _))
 rw[this]
 obtain⟨c,d,dt,sl⟩:=o
 simp only at hd;subst hd;rfl
theorem waJ{Q:PySem.Fin->Shared->Prop}{E':ZVP}(hh:A.handled=none)
  (h:∀(h':Heap) (a:Addr),(∃o1 o2,h'=(s.heap.push o1).push o2)->Shared.TypeIs {s with heap:=h'} (.ref a) "StopIteration"->E' (.ref a) {s with heap:=h'}) :
  wpAny (model prog w) A (newExc (.type "StopIteration") [] >>= raiseNew) Q E' s:=by
 refine wpAny_bind ?_
 simp only[newExc,newTuple]
 refine wpAny_bind (wpAny_newObj_type ?_ (by size_fits))
 refine wpAny_bind (m:=firstArgMember _ _) (wpAny_of_eq (a:=Value.none) (by first | rfl | (simp only[firstArgMember];rfl)) ?_)
 refine wpAny_newObj_type ?_ (by size_fits)
 simp only[raiseNew]
 refine wpAny_bind (wpAny_handled ?_)
 rw[hh]
 refine wpAny_bind (wpAny_pure (wpAny_throw ?_))
 exact h _ _ ⟨_,_,rfl⟩ ⟨_,uT _ rfl,rfl⟩
end
end L2
namespace L2
open PySem PySem.W PyProof.Rows
noncomputable def wo:Bool->Keyed->Array Keyed->Nat->Nat->Nat->StateT SortSt Sem (Option Nat):=sortPriv% PySem.Builtin.gallop
noncomputable def k8:Array Keyed->Array Keyed->StateT SortSt Sem (Array Keyed):=sortPriv% PySem.Builtin.mergeLo
noncomputable def Wab:Array Keyed->Array Keyed->StateT SortSt Sem (Array Keyed):=sortPriv% PySem.Builtin.mergeHi
noncomputable def jq:Nat->StateT SortSt Sem Unit:=sortPriv% PySem.Builtin.setMinGallop
theorem jaP(left:Bool)(key:Keyed)(arr:Array Keyed)(base n hint:Nat):wo left key arr base n hint=(do
 let beyond (i:Nat):StateT SortSt Sem (Option Bool):=do
  let x ←elem' arr (base+i)
  if left then lt' x key else return (←lt' key x).map (!·)
 let mut lastofs:=0
 let mut ofs:=1
 let mut lo:=0
 let mut hi:=0
 let some right ←beyond hint | return none
 if right then
  let maxofs:=n - hint
  for _ in [0:n] do
   if ofs ≥ maxofs then break
   let some more ←beyond (hint+ofs) | return none
   if !more then break
   lastofs:=ofs
   ofs:=2*ofs+1
  lo:=hint+lastofs+1
  hi:=hint+min ofs maxofs
 else
  let maxofs:=hint+1
  for _ in [0:n] do
   if ofs ≥ maxofs then break
   let some found ←beyond (hint - ofs) | return none
   if found then break
   lastofs:=ofs
   ofs:=2*ofs+1
  lo:=hint+1 - min ofs maxofs
  hi:=hint - lastofs
 for _ in [0:n] do
  if lo ≥ hi then break
  let m:=lo+(hi - lo) / 2
  let some more ←beyond m | return none
  if more then lo:=m+1 else hi:=m
 return some hi):=rfl
section
variable {prog:Program} {w:World} {A:Around} {E:ZVP} {s:Shared}
theorem XaV{left:Bool}{key:Keyed}{arr:Array Keyed}{base n hint:Nat}{bey:Nat->Bool}{st:SortSt}{Q:Option Nat->SortSt->Prop}
  (hb:∀i,i<n->∀Q':Option Bool->SortSt->Prop,Q' (some (bey i)) st->wpS (model prog w) A E s (do
   let x ←elem' arr (base+i)
   if left then lt' x key else return (←lt' key x).map (!·)) Q' st)
  (mono:∀i j,i<=j->j<n->bey j=true->bey i=true) (hh:hint<n)
  (h:∀k,k<=n->(∀i,i<k->bey i=true)->(∀i,k<=i->i<n->bey i=false)->Q (some k) st):wpS (model prog w) A E s (wo left key arr base n hint) Q st:=by
 have monoF:∀i j,i<=j->j<n->bey i=false->bey j=false:=fun i j hij hj z=>by
  cases q:bey j with
  | false=>rfl
  | true=>rw[mono i j hij hj q]at z;cases z
 have fin:∀lo hi:Nat,lo<=hi->hi<=n->(∀i,i<lo->bey i=true)->(∀i,hi<=i->i<n->bey i=false) →
   wpS (model prog w) A E s (do
    let mut lo:=lo
    let mut hi:=hi
    for _ in [0:n] do
     if lo ≥ hi then break
     let m:=lo+(hi - lo) / 2
     let some more ←(do
      let x ←elem' arr (base+m)
      if left then lt' x key else return (←lt' key x).map (!·)) | return none
     if more then lo:=m+1 else hi:=m
    return some hi) Q st:=by
  intro lo hi h1 h2 h3 h4
  dsimp only
  refine wpS_bind (wpS_mono (wpS_forRange (I:=fun x c st'=>st'=st/\∃l u,c=(none,l,u)/\l<=u/\u<=n/\(∀i,i<l->bey i=true)/\(∀i,u<=i->i<n->bey i=false)/\(u - l)+x<=n)
   (Q:=fun c st'=>st'=st/\∃l u,c=(none,l,u)/\l=u/\u<=n/\(∀i,i<l->bey i=true)/\(∀i,u<=i->i<n->bey i=false)) ?step ?fin ⟨rfl,lo,hi,rfl,h1,h2,h3,h4,by lia⟩) ?post)
  case fin=>
   rintro c st' ⟨rfl,l,u,rfl,z1,z2,z3,z4,z5⟩
   exact⟨rfl,l,u,rfl,by lia,z2,z3,z4⟩
  case post=>
   rintro c st' ⟨rfl,l,u,rfl,z1,z2,z3,z4⟩
   subst z1
   exact wpS_pure (h l z2 z3 z4)
  case step=>
   rintro x c st' _ hx ⟨rfl,l,u,rfl,z1,z2,z3,z4,z5⟩
   dsimp only
   by_cases c:l ≥ u
   ·rw[if_pos c]
    exact wpS_pure ⟨rfl,l,u,rfl,by lia,z2,z3,z4⟩
   ·rw[if_neg c]
    refine wpS_bind (hb _ (by lia) _ ?_)
    dsimp only
    cases e:bey (l+(u - l) / 2) with
    | true=>
     rw[if_pos rfl]
     exact wpS_pure ⟨rfl,_,u,rfl,by lia,z2,fun i hi=>mono i _ (by lia) (by lia) e,z4,by lia⟩
    | false=>
     rw[if_neg uK]
     exact wpS_pure ⟨rfl,l,_,rfl,by lia,by lia,z3,fun i hi hn=>monoF _ i hi hn e,by lia⟩
 rw[jaP]
 dsimp only
 refine wpS_bind (hb hint hh _ ?_)
 dsimp only
 cases e0:bey hint with
 | true=>
  rw[if_pos rfl]
  refine wpS_bind (wpS_mono (wpS_forRange (I:=fun x c st'=>st'=st/\∃l o,c=(none,l,o)/\l<o/\hint+l<n/\bey (hint+l)=true/\x+1<=o)
   (Q:=fun c st'=>st'=st/\∃l o,c=(none,l,o)/\l<o/\hint+l<n/\bey (hint+l)=true/\(n - hint<=o\/bey (hint+o)=false)) ?step ?fin ⟨rfl,0,1,rfl,by lia,hh,e0,by lia⟩) ?post)
  case fin=>
   rintro c st' ⟨rfl,l,o,rfl,z1,z2,z3,z4⟩
   exact⟨rfl,l,o,rfl,z1,z2,z3,.inl (by lia)⟩
  case post=>
   rintro c st' ⟨rfl,l,o,rfl,z1,z2,z3,z4⟩
   dsimp only
   refine fin (hint+l+1) (hint+min o (n - hint)) (by lia) (by lia) (fun i hi=>mono i _ (by lia) z2 z3) fun i hi hn=>?_
   rcases z4 with z4 | z4
   ·lia
   ·by_cases c:n - hint<=o
    ·lia
    ·exact monoF _ i (by lia) hn z4
  case step=>
   rintro x c st' _ hx ⟨rfl,l,o,rfl,z1,z2,z3,z4⟩
   dsimp only
   by_cases c:o ≥ n - hint
   ·rw[if_pos c]
    exact wpS_pure ⟨rfl,l,o,rfl,z1,z2,z3,.inl c⟩
   ·rw[if_neg c]
    refine wpS_bind (hb _ (by lia) _ ?_)
    dsimp only
    cases e:bey (hint+o) with
    | true=>
     rw[if_neg (by decide)]
     exact wpS_pure ⟨rfl,o,_,rfl,by lia,by lia,e,by lia⟩
    | false=>
     rw[if_pos (by decide)]
     exact wpS_pure ⟨rfl,l,o,rfl,z1,z2,z3,.inr e⟩
 | false=>
  rw[if_neg uK]
  refine wpS_bind (wpS_mono (wpS_forRange (I:=fun x c st'=>st'=st/\∃l o,c=(none,l,o)/\l<o/\l<=hint/\bey (hint - l)=false/\x+1<=o)
   (Q:=fun c st'=>st'=st/\∃l o,c=(none,l,o)/\l<o/\l<=hint/\bey (hint - l)=false/\(hint+1<=o\/bey (hint - o)=true)) ?step ?fin ⟨rfl,0,1,rfl,by lia,by lia,e0,by lia⟩) ?post)
  case fin=>
   rintro c st' ⟨rfl,l,o,rfl,z1,z2,z3,z4⟩
   exact⟨rfl,l,o,rfl,z1,z2,z3,.inl (by lia)⟩
  case post=>
   rintro c st' ⟨rfl,l,o,rfl,z1,z2,z3,z4⟩
   dsimp only
   refine fin (hint+1 - min o (hint+1)) (hint - l) (by lia) (by lia) (fun i hi=>?_) fun i hi hn=>monoF _ i hi hn z3
   rcases z4 with z4 | z4
   ·lia
   ·exact mono i (hint - o) (by lia) (by lia) z4
  case step=>
   rintro x c st' _ hx ⟨rfl,l,o,rfl,z1,z2,z3,z4⟩
   dsimp only
   by_cases c:o ≥ hint+1
   ·rw[if_pos c]
    exact wpS_pure ⟨rfl,l,o,rfl,z1,z2,z3,.inl c⟩
   ·rw[if_neg c]
    refine wpS_bind (hb _ (by lia) _ ?_)
    dsimp only
    cases e:bey (hint - o) with
    | true=>
     rw[if_pos rfl]
     exact wpS_pure ⟨rfl,l,o,rfl,z1,z2,z3,.inr e⟩
    | false=>
     rw[if_neg uK]
     exact wpS_pure ⟨rfl,o,_,rfl,by lia,by lia,e,by lia⟩
end
theorem Wx(g:Nat):jq g=modify (fun s=>SortSt.mk' (kindOf s) (arrOf s) (pendingOf s) g (failedOf s)):=rfl
noncomputable abbrev LoC:=Option (Array Keyed)×Array Keyed×Nat×Nat×Nat×Nat×Nat
noncomputable def Zau(a b out:Array Keyed)(ia ib mg ac bc:Nat):StateT SortSt Sem (ForInStep LoC):=do
 let x ←elem' a ia
 if ia+1+1==a.size then pure (.done (some (out.push x++b.extract ib b.size++a.extract (ia+1) a.size),out.push x,ia+1,ib,mg,ac,bc))
 else if ac<7&&bc<7 then pure (.done (none,out.push x,ia+1,ib,mg,ac,bc)) else pure (.yield (none,out.push x,ia+1,ib,mg,ac,bc))
noncomputable def kat(a b out:Array Keyed)(ia ib mg ac bc:Nat):StateT SortSt Sem (ForInStep LoC):=do
 let y ←elem' b ib
 if ib+1==b.size then pure (.done (some (out.push y++a.extract ia a.size++b.extract (ib+1) b.size),out.push y,ia,ib+1,mg,ac,bc))
 else
  let x ←elem' a ia
  let some k ←wo true x b (ib+1) (b.size - (ib+1)) 0 | pure (.done (some (out.push y++a.extract ia a.size++b.extract (ib+1) b.size),out.push y,ia,ib+1,mg,ac,bc))
  if k > 0 then
    if ib+1+k==b.size then pure (.done (some (out.push y++b.extract (ib+1) (ib+1+k)++a.extract ia a.size++b.extract (ib+1+k) b.size),out.push y++b.extract (ib+1) (ib+1+k),ia,ib+1+k,mg,ac,k))
    else Zau a b (out.push y++b.extract (ib+1) (ib+1+k)) ia (ib+1+k) mg ac k
  else Zau a b (out.push y) ia (ib+1) mg ac k
noncomputable def vat(a b out:Array Keyed)(ia ib mg ac bc:Nat):StateT SortSt Sem (ForInStep LoC):=do
 jq mg
 let y ←elem' b ib
 let some k ←wo false y a ia (a.size - ia) 0 | pure (.done (some (out++a.extract ia a.size++b.extract ib b.size),out,ia,ib,mg,ac,bc))
 if k > 0 then
   if ia+k+1==a.size then pure (.done (some (out++a.extract ia (ia+k)++b.extract ib b.size++a.extract (ia+k) a.size),out++a.extract ia (ia+k),ia+k,ib,mg,k,bc))
   else if ia+k==a.size then pure (.done (some (out++a.extract ia (ia+k)++a.extract (ia+k) a.size++b.extract ib b.size),out++a.extract ia (ia+k),ia+k,ib,mg,k,bc))
   else kat a b (out++a.extract ia (ia+k)) (ia+k) ib mg k bc
 else kat a b out ia ib mg k bc
noncomputable abbrev LoD:=Option (Array Keyed)×Array Keyed×Nat×Nat×Nat×Nat
noncomputable def qbd(a b:Array Keyed)(mg:Nat)(c:LoD):StateT SortSt Sem (ForInStep LoD):=do
 let y ←elem' b c.2.2.2.1
 let x ←elem' a c.2.2.1
 let some bWins ←lt' y x | pure (.done (some (c.2.1++a.extract c.2.2.1 a.size++b.extract c.2.2.2.1 b.size),c.2.1,c.2.2.1,c.2.2.2.1,c.2.2.2.2.1,c.2.2.2.2.2))
 if bWins=true then
   let y ←elem' b c.2.2.2.1
   if c.2.2.2.1+1==b.size then pure (.done (some (c.2.1.push y++a.extract c.2.2.1 a.size++b.extract (c.2.2.2.1+1) b.size),c.2.1.push y,c.2.2.1,c.2.2.2.1+1,0,c.2.2.2.2.2+1))
   else if c.2.2.2.2.2+1 ≥ mg then pure (.done (none,c.2.1.push y,c.2.2.1,c.2.2.2.1+1,0,c.2.2.2.2.2+1)) else pure (.yield (none,c.2.1.push y,c.2.2.1,c.2.2.2.1+1,0,c.2.2.2.2.2+1))
 else
   let x ←elem' a c.2.2.1
   if c.2.2.1+1+1==a.size then pure (.done (some (c.2.1.push x++b.extract c.2.2.2.1 b.size++a.extract (c.2.2.1+1) a.size),c.2.1.push x,c.2.2.1+1,c.2.2.2.1,c.2.2.2.2.1+1,0))
   else if c.2.2.2.2.1+1 ≥ mg then pure (.done (none,c.2.1.push x,c.2.2.1+1,c.2.2.2.1,c.2.2.2.2.1+1,0)) else pure (.yield (none,c.2.1.push x,c.2.2.1+1,c.2.2.2.1,c.2.2.2.2.1+1,0))
noncomputable abbrev LoE:=Option (Array Keyed)×Array Keyed×Nat×Nat×Nat
theorem WaD(a b:Array Keyed):k8 a b=(do
 rule "list.sort.merge-lo"
 let total:=a.size+b.size
 let done (out:Array Keyed) (ia ib:Nat):=out++a.extract ia a.size++b.extract ib b.size
 let lastOfA (out:Array Keyed) (ia ib:Nat):=out++b.extract ib b.size++a.extract ia a.size
 let mut out:Array Keyed:=#[←elem' b 0]
 let mut ia:=0
 let mut ib:=1
 if ib==b.size then return done out ia ib
 if ia+1==a.size then return lastOfA out ia ib
 let mut minGallop:=gallopOf (←get)
 for _ in [0:total] do
  let mut acount:=0
  let mut bcount:=0
  for _ in [0:total] do
   let some bWins ←lt' (←elem' b ib) (←elem' a ia) | return done out ia ib
   if bWins then
    out:=out.push (←elem' b ib);ib:=ib+1;bcount:=bcount+1;acount:=0
    if ib==b.size then return done out ia ib
    if bcount ≥ minGallop then break
   else
    out:=out.push (←elem' a ia);ia:=ia+1;acount:=acount+1;bcount:=0
    if ia+1==a.size then return lastOfA out ia ib
    if acount ≥ minGallop then break
  rule "list.sort.gallop"
  minGallop:=minGallop+1
  for _ in [0:total] do
   if minGallop > 1 then minGallop:=minGallop - 1
   jq minGallop
   let some k ←wo false (←elem' b ib) a ia (a.size - ia) 0 | return done out ia ib
   acount:=k
   if k > 0 then
    out:=out++a.extract ia (ia+k);ia:=ia+k
    if ia+1==a.size then return lastOfA out ia ib
    if ia==a.size then return done out ia ib
   out:=out.push (←elem' b ib);ib:=ib+1
   if ib==b.size then return done out ia ib
   let some k ←wo true (←elem' a ia) b ib (b.size - ib) 0 | return done out ia ib
   bcount:=k
   if k > 0 then
    out:=out++b.extract ib (ib+k);ib:=ib+k
    if ib==b.size then return done out ia ib
   out:=out.push (←elem' a ia);ia:=ia+1
   if ia+1==a.size then return lastOfA out ia ib
   if acount<7&&bcount<7 then break
  minGallop:=minGallop+1
  jq minGallop
 unsupported "internal:list.sort.merge-bound"):=rfl
noncomputable def ar(f:Nat->Keyed)(p:List Nat):Array Keyed:=(p.map f).toArray
section
variable {f:Nat->Keyed} {r:Nat->Int}
theorem Xf(p:List Nat):(ar f p).size=p.length:=by simp[ar]
theorem Ybu{p:List Nat}{i:Nat}(h:i<p.length):(ar f p)[i]?=some (f (p.getD i 0)):=by simp[ar,h]
theorem YD(p:List Nat)(i:Nat):(ar f p).push (f i)=ar f (p++[i]):=by simp[ar]
theorem qR(p q:List Nat):ar f p++ar f q=ar f (p++q):=by simp[ar]
theorem Xa0(p:List Nat):(ar f p).reverse=ar f p.reverse:=by simp[ar]
theorem jN(p:List Nat)(i j:Nat):(ar f p).extract i j=ar f ((p.drop i).take (j - i)):=by
 unfold ar
 rw[List.extract_toArray,List.extract_eq_take_drop,←List.map_drop,←List.map_take]
theorem jaN(p:List Nat)(i:Nat):(ar f p).extract i p.length=ar f (p.drop i):=by
 rw[jN,u9 (by simp)]
def SrtL(r:Nat->Int)(l:List Nat):Prop:=l.Pairwise fun x y=>r x<=r y
theorem SrtL.app{l m:List Nat}(h1:SrtL r l)(h2:SrtL r m)(h:∀x∈l,∀y∈m,r x<=r y):SrtL r (l++m):=xh.mpr ⟨h1,h2,h⟩
structure MI(r:Nat->Int)(pa pb:List Nat)(ia ib:Nat)(po:List Nat):Prop where
 perm:po.Perm (pa.take ia++pb.take ib)
 srt:SrtL r po
 la:∀x∈po,∀y∈pa.drop ia,r x<=r y
 lb:∀x∈po,∀y∈pb.drop ib,r x<=r y
 ha:ia<=pa.length
 hb:ib<=pb.length
variable {pa pb po:List Nat} {ia ib:Nat}
theorem MI.len(h:MI r pa pb ia ib po):po.length=ia+ib:=by
 have:=h.perm.length_eq
 have h1:=h.ha
 have h2:=h.hb
 simp at this
 lia
theorem MI.aK(h:MI r pa pb ia ib po)(sa:SrtL r pa){k:Nat}(hk:ia+k<=pa.length)(hl:∀x∈(pa.drop ia).take k,∀y∈pb.drop ib,r x<=r y):MI r pa pb (ia+k) ib (po++(pa.drop ia).take k):=by
 have sd:SrtL r (pa.drop ia):=sa.sublist (List.drop_sublist _ _)
 have e:(pa.drop ia).take k++pa.drop (ia+k)=pa.drop ia:=by rw[←List.drop_drop];exact uz k _
 rw[←e]at sd
 obtain⟨s1,s2,s3⟩:=xh.mp sd
 refine⟨?_,h.srt.app s1 fun x hx y hy=>h.la x hx y (xF hy),?_,?_,hk,h.hb⟩
 ·have e2:pa.take (ia+k)=pa.take ia++(pa.drop ia).take k:=by rw[List.take_add]
  rw[e2]
  refine(h.perm.append_right _).trans ?_
  rw[uf,uf]
  exact List.Perm.append_left _ xL
 ·intro x hx y hy
  rcases uQ.mp hx with hx | hx
  ·exact h.la x hx y (by rw[←e];exact uY _ hy)
  ·exact s3 x hx y hy
 ·intro x hx y hy
  rcases uQ.mp hx with hx | hx
  ·exact h.lb x hx y hy
  ·exact hl x hx y hy
theorem MI.swap(h:MI r pa pb ia ib po):MI r pb pa ib ia po:=⟨h.perm.trans xL,h.srt,h.lb,h.la,h.hb,h.ha⟩
theorem MI.bK(h:MI r pa pb ia ib po)(sb:SrtL r pb){k:Nat}(hk:ib+k<=pb.length)(hl:∀x∈(pb.drop ib).take k,∀y∈pa.drop ia,r x<=r y):MI r pa pb ia (ib+k) (po++(pb.drop ib).take k):=(h.swap.aK sb hk hl).swap
theorem jaa{p:List Nat}{i:Nat}(h:i<p.length):(p.drop i).take 1=[p.getD i 0]:=by
 rw[x9 h,List.take_succ_cons,List.take_zero,ub,uB h]
 rfl
theorem km{p:List Nat}{i:Nat}{x:Nat}(h:x∈p.drop i):∃j,i<=j/\j<p.length/\x=p.getD j 0:=by
 obtain⟨k,hk,e⟩:=yC.mp h
 rw[xD]at hk
 refine⟨i+k,by lia,by lia,?_⟩
 rw[List.getElem_drop]at e
 rw[←e]
 simp[show i+k<p.length by lia]
theorem SrtL.at_{p:List Nat}(s:SrtL r p){i j:Nat}(hij:i<=j)(hj:j<p.length):r (p.getD i 0)<=r (p.getD j 0):=by
 have hi:i<p.length:=by lia
 have e1:p.getD i 0=p[i]:=by simp[hi]
 have e2:p.getD j 0=p[j]:=by simp[hj]
 rw[e1,e2]
 rcases Nat.lt_or_eq_of_le hij with z | z
 ·exact xH.mp s i j hi hj z
 ·subst z;exact xx _
theorem MI.a1(h:MI r pa pb ia ib po)(sa:SrtL r pa)(hk:ia<pa.length)(hl:∀y∈pb.drop ib,r (pa.getD ia 0)<=r y):MI r pa pb (ia+1) ib (po++[pa.getD ia 0]):=by
 have:=h.aK sa (k:=1) hk (by rw[jaa hk];intro x hx;rw[uL.mp hx];exact hl)
 rw[jaa hk]at this
 exact this
theorem MI.b1(h:MI r pa pb ia ib po)(sb:SrtL r pb)(hk:ib<pb.length)(hl:∀y∈pa.drop ia,r (pb.getD ib 0)<=r y):MI r pa pb ia (ib+1) (po++[pb.getD ib 0]):=(h.swap.a1 sb hk hl).swap
theorem MI.done(h:MI r pa pb ia ib po)(sa:SrtL r pa)(sb:SrtL r pb)(hl:∀x∈pa.drop ia,∀y∈pb.drop ib,r x<=r y):(po++pa.drop ia++pb.drop ib).Perm (pa++pb)/\SrtL r (po++pa.drop ia++pb.drop ib):=by
 have h1:=h.aK sa (k:=pa.length - ia) (by have:=h.ha;lia) (fun x hx y hy=>hl x (xF hx) y hy)
 have e:(pa.drop ia).take (pa.length - ia)=pa.drop ia:=u9 (by simp)
 rw[e]at h1
 have h2:=h1.bK sb (k:=pb.length - ib) (by have:=h.hb;lia) (fun x hx y hy=>by
  rw[show ia+(pa.length - ia)=pa.length by have:=h.ha;lia,List.drop_length]at hy
  cases hy)
 have e2:(pb.drop ib).take (pb.length - ib)=pb.drop ib:=u9 (by simp)
 rw[e2]at h2
 refine⟨?_,h2.srt⟩
 have:=h2.perm
 rw[u9 (by have:=h.ha;lia),u9 (by have:=h.hb;lia)]at this
 exact this
end
noncomputable def Zaw(st:SortSt)(g:Nat):SortSt:=SortSt.mk' (kindOf st) (arrOf st) (pendingOf st) g (failedOf st)
structure SameS(st st':SortSt):Prop where
 kind:kindOf st'=kindOf st
 arr:arrOf st'=arrOf st
 pend:pendingOf st'=pendingOf st
 fail:failedOf st'=failedOf st
theorem ZaQ{A:Prop}{α0 α1 α2 α3:Type}{E B C D F:α0->α1->α2->α3->Prop}(h:A/\∃a0 a1 a2 a3,E a0 a1 a2 a3/\B a0 a1 a2 a3/\C a0 a1 a2 a3/\D a0 a1 a2 a3/\F a0 a1 a2 a3){G:Prop}(k:A->∀a0 a1 a2 a3,E a0 a1 a2 a3->B a0 a1 a2 a3->C a0 a1 a2 a3->D a0 a1 a2 a3->F a0 a1 a2 a3->G):G:=by
 obtain⟨z,a0,a1,a2,a3,e,b,c,d,f⟩:=h
 exact k z a0 a1 a2 a3 e b c d f
theorem Xaj{A:Prop}{α0 α1 α2 α3 α4:Type}{E B C D F:α0->α1->α2->α3->α4->Prop}(h:A/\∃a0 a1 a2 a3 a4,E a0 a1 a2 a3 a4/\B a0 a1 a2 a3 a4/\C a0 a1 a2 a3 a4/\D a0 a1 a2 a3 a4/\F a0 a1 a2 a3 a4){G:Prop}(k:A->∀a0 a1 a2 a3 a4,E a0 a1 a2 a3 a4->B a0 a1 a2 a3 a4->C a0 a1 a2 a3 a4->D a0 a1 a2 a3 a4->F a0 a1 a2 a3 a4->G):G:=by
 obtain⟨z,a0,a1,a2,a3,a4,e,b,c,d,f⟩:=h
 exact k z a0 a1 a2 a3 a4 e b c d f
theorem WaT{A:Prop}{α0 α1 α2 α3 α4 α5:Type}{E B C D F:α0->α1->α2->α3->α4->α5->Prop}(h:A/\∃a0 a1 a2 a3 a4 a5,E a0 a1 a2 a3 a4 a5/\B a0 a1 a2 a3 a4 a5/\C a0 a1 a2 a3 a4 a5/\D a0 a1 a2 a3 a4 a5/\F a0 a1 a2 a3 a4 a5){G:Prop}(k:A->∀a0 a1 a2 a3 a4 a5,E a0 a1 a2 a3 a4 a5->B a0 a1 a2 a3 a4 a5->C a0 a1 a2 a3 a4 a5->D a0 a1 a2 a3 a4 a5->F a0 a1 a2 a3 a4 a5->G):G:=by
 obtain⟨z,a0,a1,a2,a3,a4,a5,e,b,c,d,f⟩:=h
 exact k z a0 a1 a2 a3 a4 a5 e b c d f
theorem SameS.refl(st:SortSt):SameS st st:=⟨rfl,rfl,rfl,rfl⟩
theorem SameS.g{st st':SortSt}(h:SameS st st')(g:Nat):SameS st (Zaw st' g):=⟨h.kind,h.arr,h.pend,h.fail⟩
section
variable {prog:Program} {w:World} {A:Around} {E:ZVP} {s:Shared} {f:Nat->Keyed} {r:Nat->Int} {n:Nat} {κ:SortKind}
def jD(prog:Program)(w:World)(A:Around)(E:ZVP)(s:Shared)(f:Nat->Keyed)(r:Nat->Int)(n:Nat)(κ:SortKind):Prop:=
 ∀i j,i<n->j<n->∀(st:SortSt) (Q:Option Bool->SortSt->Prop),kindOf st=κ->Q (some (decide (r i<r j))) st->wpS (model prog w) A E s (lt' (f i) (f j)) Q st
theorem Yc{α:Type}{c:Prop} [Decidable c] {x y:StateT SortSt Sem α}{st:SortSt}{Q:α->SortSt->Prop}(h:¬c)(q:wpS (model prog w) A E s y Q st):wpS (model prog w) A E s (if c then x else y) Q st:=by rw[if_neg h];exact q
theorem Wc{α:Type}{c:Prop} [Decidable c] {x y:StateT SortSt Sem α}{st:SortSt}{Q:α->SortSt->Prop}(h:c)(q:wpS (model prog w) A E s x Q st):wpS (model prog w) A E s (if c then x else y) Q st:=by rw[if_pos h];exact q
theorem qg{p:List Nat}{i:Nat}{st:SortSt}{Q:Keyed->SortSt->Prop}(h:i<p.length)(q:Q (f (p.getD i 0)) st):wpS (model prog w) A E s (elem' (ar f p) i) Q st:=by
 rw[elem'_eq,Ybu h]
 exact wpS_pure q
theorem j9{left:Bool}{p:List Nat}{key base m hint:Nat}{st:SortSt}{Q:Option Nat->SortSt->Prop}(L:jD prog w A E s f r n κ)(hk:kindOf st=κ)(hp:∀x∈p,x<n)(hkey:key<n)(sp:∀i j,i<=j->j<m->r (p.getD (base+i) 0)<=r (p.getD (base+j) 0))(hm:base+m<=p.length)(hh:hint<m)
  (h:∀k,k<=m->(∀i,i<k->if left then r (p.getD (base+i) 0)<r key else r (p.getD (base+i) 0)<=r key)->(∀i,k<=i->i<m->if left then r key<=r (p.getD (base+i) 0) else r key<r (p.getD (base+i) 0))->Q (some k) st) :
  wpS (model prog w) A E s (wo left (f key) (ar f p) base m hint) Q st:=by
 have inP:∀i,i<m->p.getD (base+i) 0<n:=fun i hi=>hp _ (by
  have:base+i<p.length:=by lia
  have e:p.getD (base+i) 0=p[base+i]:=by simp[this]
  rw[e];exact xS this)
 refine XaV (bey:=fun i=>if left then decide (r (p.getD (base+i) 0)<r key) else !decide (r key<r (p.getD (base+i) 0))) (fun i hi Q' q=>?_) (fun i j hij hj z=>?_) hh fun k k1 k2 k3=>h k k1 (fun i hi=>?_) fun i hi hi2=>?_
 ·refine wpS_bind (qg (by lia) ?_)
  cases left with
  | true=>
   rw[if_pos rfl]
   exact L _ _ (inP i hi) hkey st Q' hk q
  | false=>
   rw[if_neg uK]
   exact wpS_bind (L _ _ hkey (inP i hi) st _ hk (wpS_pure q))
 ·have le:=sp i j hij hj
  cases left with
  | true=>
   have z':r (p.getD (base+j) 0)<r key:=of_decide_eq_true z
   exact decide_eq_true (by lia:r (p.getD (base+i) 0)<r key)
  | false=>
   have z':¬r key<r (p.getD (base+j) 0):=of_decide_eq_false (by simpa using z)
   have z2:¬r key<r (p.getD (base+i) 0):=by lia
   show(!decide (r key<r (p.getD (base+i) 0)))=true
   rw[decide_eq_false z2];rfl
 ·have z:=k2 i hi
  cases left with
  | true=>exact of_decide_eq_true z
  | false=>
   have z':(!decide (r key<r (p.getD (base+i) 0)))=true:=z
   have:=of_decide_eq_false (by rw[Bool.not_eq_true']at z';exact z')
   exact Int.not_lt.mp this
 ·have z:=k3 i hi hi2
  cases left with
  | true=>exact Int.not_lt.mp (of_decide_eq_false z)
  | false=>
   have z':(!decide (r key<r (p.getD (base+i) 0)))=false:=z
   exact of_decide_eq_true (by rw[Bool.not_eq_false']at z';exact z')
theorem k4{left:Bool}{p:List Nat}{key base m hint:Nat}{st:SortSt}{Q:Option Nat->SortSt->Prop}(L:jD prog w A E s f r n κ)(hk:kindOf st=κ)(hp:∀x∈p,x<n)(hkey:key<n)(sp:SrtL r p)(hm:base+m<=p.length)(hh:hint<m)
  (h:∀k,k<=m->(∀i,i<k->if left then r (p.getD (base+i) 0)<r key else r (p.getD (base+i) 0)<=r key)->(∀i,k<=i->i<m->if left then r key<=r (p.getD (base+i) 0) else r key<r (p.getD (base+i) 0))->Q (some k) st) :
  wpS (model prog w) A E s (wo left (f key) (ar f p) base m hint) Q st:=j9 L hk hp hkey (fun i j hij hj=>sp.at_ (by lia) (by lia)) hm hh h
theorem wA{pa pb:List Nat}(po:List Nat)(ia ib:Nat):ar f po++(ar f pa).extract ia (ar f pa).size++(ar f pb).extract ib (ar f pb).size=ar f (po++pa.drop ia++pb.drop ib):=by
 rw[Xf,Xf,jaN,jaN,qR,qR]
theorem qa0{pa:List Nat}(po:List Nat)(ia k:Nat):ar f po++(ar f pa).extract ia (ia+k)=ar f (po++(pa.drop ia).take k):=by
 rw[jN,qR,Nat.add_sub_cancel_left]
theorem MI.last{pa pb po:List Nat}{ia ib:Nat}(h:MI r pa pb ia ib po)(sa:SrtL r pa)(sb:SrtL r pb)(hz:∀y∈pb,r y<=r (pa.getD (pa.length - 1) 0))(hi:ia+1=pa.length):(po++pb.drop ib++pa.drop ia).Perm (pa++pb)/\SrtL r (po++pb.drop ib++pa.drop ia):=by
 have:=h.swap.done sb sa fun x hx y hy=>by
  obtain⟨j,j1,j2,rfl⟩:=km hy
  rw[show j=pa.length - 1 by lia]
  exact hz x (List.mem_of_mem_drop hx)
 exact⟨this.1.trans xL,this.2⟩
theorem MI.full{pa pb po:List Nat}{ia ib:Nat}(h:MI r pa pb ia ib po)(sa:SrtL r pa)(sb:SrtL r pb)(hi:ia=pa.length\/ib=pb.length):(po++pa.drop ia++pb.drop ib).Perm (pa++pb)/\SrtL r (po++pa.drop ia++pb.drop ib):=
 h.done sa sb fun x hx y hy=>by
  rcases hi with z | z
  ·rw[z,List.drop_length]at hx;cases hx
  ·rw[z,List.drop_length]at hy;cases hy
def LoP(st:SortSt)(f:Nat->Keyed)(r:Nat->Int)(pa pb:List Nat)(x:Nat)(d:LoC)(st2:SortSt):Prop:=SameS st st2/\∃po2 ia2 ib2 g ac bc,d=(none,ar f po2,ia2,ib2,g,ac,bc)/\MI r pa pb ia2 ib2 po2/\ia2+1<pa.length/\ib2<pb.length/\x<=po2.length
def LoF(st:SortSt)(f:Nat->Keyed)(r:Nat->Int)(pa pb:List Nat)(d:Option (Array Keyed))(st2:SortSt):Prop:=SameS st st2/\∃po2,d=some (ar f po2)/\po2.Perm (pa++pb)/\SrtL r po2
def LoQ(st:SortSt)(f:Nat->Keyed)(r:Nat->Int)(pa pb:List Nat)(x:Nat):ForInStep LoC->SortSt->Prop
 | .done d,st2=>LoP st f r pa pb x d st2\/LoF st f r pa pb d.1 st2
 | .yield d,st2=>LoP st f r pa pb x d st2
structure LoH(prog:Program)(w:World)(A:Around)(E:ZVP)(s:Shared)(f:Nat->Keyed)(r:Nat->Int)(n:Nat)(κ:SortKind)(pa pb:List Nat):Prop where
 L:jD prog w A E s f r n κ
 ra:∀x∈pa,x<n
 rb:∀x∈pb,x<n
 sa:SrtL r pa
 sb:SrtL r pb
 hz:∀y∈pb,r y<=r (pa.getD (pa.length - 1) 0)
theorem qk{p:List Nat}{i:Nat}(h:i<p.length):p.getD i 0∈p:=by
 have e:p.getD i 0=p[i]:=by simp[h]
 rw[e];exact xS h
variable {pa pb:List Nat} {st st2:SortSt}
theorem jap(H:LoH prog w A E s f r n κ pa pb)(same:SameS st st2){x:Nat}{po:List Nat}{ia ib mg ac bc:Nat}(mi:MI r pa pb ia ib po)(hia:ia+1<pa.length)(hib:ib<pb.length)(hx:x<=po.length)(hl:∀y∈pb.drop ib,r (pa.getD ia 0)<=r y) :
  wpS (model prog w) A E s (Zau (ar f pa) (ar f pb) (ar f po) ia ib mg ac bc) (LoQ st f r pa pb x) st2:=by
 unfold Zau
 refine wpS_bind (qg (by lia) ?_)
 have m2:=mi.a1 H.sa (by lia) hl
 rw[YD,wA (pa:=pb) (pb:=pa),Xf]
 by_cases c:ia+1+1=pa.length
 ·refine Wc (by simpa using c) (wpS_pure (.inr ⟨same,_,rfl,?_⟩))
  exact m2.last H.sa H.sb H.hz c
 ·refine Yc (by simpa using c) ?_
  have P:LoP st f r pa pb x (none,ar f (po++[pa.getD ia 0]),ia+1,ib,mg,ac,bc) st2:=⟨same,_,_,_,_,_,_,rfl,m2,by lia,hib,by rw[uE];lia⟩
  by_cases c2:(decide (ac<7)&&decide (bc<7))=true
  ·exact Wc c2 (wpS_pure (.inl P))
  ·exact Yc c2 (wpS_pure P)
theorem qao(H:LoH prog w A E s f r n κ pa pb)(same:SameS st st2)(hk:kindOf st2=κ){x:Nat}{po:List Nat}{ia ib mg ac bc:Nat}(mi:MI r pa pb ia ib po)(hia:ia+1<pa.length)(hib:ib<pb.length)(hx:x<=po.length)(hl:∀y∈pa.drop ia,r (pb.getD ib 0)<=r y) :
  wpS (model prog w) A E s (kat (ar f pa) (ar f pb) (ar f po) ia ib mg ac bc) (LoQ st f r pa pb x) st2:=by
 unfold kat
 refine wpS_bind (qg hib ?_)
 have m2:=mi.b1 H.sb hib hl
 have hx2:x<=(po++[pb.getD ib 0]).length:=by rw[uE];lia
 rw[YD]
 by_cases c:ib+1=pb.length
 ·refine Wc (by rw[Xf];simpa using c) (wpS_pure (.inr ⟨same,_,?_,m2.full H.sa H.sb (.inr c)⟩))
  rw[wA]
 ·refine Yc (by rw[Xf];simpa using c) ?_
  refine wpS_bind (qg (by lia) ?_)
  rw[Xf]
  refine wpS_bind (k4 (left:=true) (m:=pb.length - (ib+1)) H.L hk H.rb (H.ra _ (qk (by lia))) H.sb (by lia) (by lia) fun k k1 k2 k3=>?_)
  have ge:∀y∈pb.drop (ib+1+k),r (pa.getD ia 0)<=r y:=fun y hy=>by
   obtain⟨j,j1,j2,rfl⟩:=km hy
   have:=k3 (j - (ib+1)) (by lia) (by lia)
   rw[if_pos rfl,show ib+1+(j - (ib+1))=j by lia]at this
   exact this
  dsimp only
  by_cases k0:k > 0
  ·refine Wc k0 ?_
   have m3:=m2.bK H.sb (k:=k) (by lia) fun z hz y hy=>by
    obtain⟨j,j1,j2,rfl⟩:=km hy
    obtain⟨t,t1,e⟩:=yC.mp hz
    rw[uX,xD]at t1
    rw[yA,List.getElem_drop]at e
    have a1:=k2 t (by lia)
    rw[if_pos rfl]at a1
    have e2:pb.getD (ib+1+t) 0=z:=by rw[←e];simp[show ib+1+t<pb.length by lia]
    rw[e2]at a1
    have a2:=H.sa.at_ (i:=ia) (j:=j) j1 j2
    lia
   rw[qa0]
   by_cases c3:ib+1+k=pb.length
   ·refine Wc (by simpa using c3) (wpS_pure (.inr ⟨same,_,?_,m3.full H.sa H.sb (.inr c3)⟩))
    rw[←Xf (f:=f) pb,wA]
   ·refine Yc (by simpa using c3) ?_
    exact jap H same m3 hia (by lia) (by rw[uE];lia) ge
  ·refine Yc k0 ?_
   have:k=0:=by lia
   subst this
   exact jap H same m2 hia (by lia) hx2 ge
theorem Zaq(H:LoH prog w A E s f r n κ pa pb)(same:SameS st st2)(hk:kindOf st2=κ){x:Nat}{po:List Nat}{ia ib mg ac bc:Nat}(mi:MI r pa pb ia ib po)(hia:ia+1<pa.length)(hib:ib<pb.length)(hx:x<=po.length) :
  wpS (model prog w) A E s (vat (ar f pa) (ar f pb) (ar f po) ia ib mg ac bc) (LoQ st f r pa pb x) st2:=by
 unfold vat
 rw[Wx]
 refine wpS_bind (wpS_modify ?_)
 have same2:=same.g mg
 have hk2:kindOf (Zaw st2 mg)=κ:=hk
 show wpS _ _ _ _ _ _ (Zaw st2 mg)
 refine wpS_bind (qg hib ?_)
 rw[Xf]
 refine wpS_bind (k4 (left:=false) (m:=pa.length - ia) H.L hk2 H.ra (H.rb _ (qk hib)) H.sa (by lia) (by lia) fun k k1 k2 k3=>?_)
 have gt:∀y∈pa.drop (ia+k),r (pb.getD ib 0)<=r y:=fun y hy=>by
  obtain⟨j,j1,j2,rfl⟩:=km hy
  have:=k3 (j - ia) (by lia) (by lia)
  rw[if_neg uK,show ia+(j - ia)=j by lia]at this
  lia
 dsimp only
 by_cases k0:k > 0
 ·refine Wc k0 ?_
  have m3:=mi.aK H.sa (k:=k) (by lia) fun z hz y hy=>by
   obtain⟨j,j1,j2,rfl⟩:=km hy
   obtain⟨t,t1,e⟩:=yC.mp hz
   rw[uX,xD]at t1
   rw[yA,List.getElem_drop]at e
   have a1:=k2 t (by lia)
   rw[if_neg uK]at a1
   have e2:pa.getD (ia+t) 0=z:=by rw[←e];simp[show ia+t<pa.length by lia]
   rw[e2]at a1
   have a2:=H.sb.at_ (i:=ib) (j:=j) j1 j2
   lia
  rw[qa0]
  by_cases c1:ia+k+1=pa.length
  ·refine Wc (by simpa using c1) (wpS_pure (.inr ⟨same2,_,?_,m3.last H.sa H.sb H.hz c1⟩))
   rw[←Xf (f:=f) pa,wA (pa:=pb) (pb:=pa)]
  ·refine Yc (by simpa using c1) ?_
   by_cases c2:ia+k=pa.length
   ·refine Wc (by simpa using c2) (wpS_pure (.inr ⟨same2,_,?_,m3.full H.sa H.sb (.inl c2)⟩))
    rw[←Xf (f:=f) pa,wA]
   ·refine Yc (by simpa using c2) ?_
    exact qao H same2 hk2 m3 (by lia) hib (by rw[uE];lia) gt
 ·refine Yc k0 ?_
  have:k=0:=by lia
  subst this
  exact qao H same2 hk2 mi hia hib hx gt
def LoI(st:SortSt)(f:Nat->Keyed)(r:Nat->Int)(pa pb:List Nat)(x:Nat)(c:LoE)(st':SortSt):Prop:=SameS st st'/\∃po ia ib mg,c=(none,ar f po,ia,ib,mg)/\MI r pa pb ia ib po/\ia+1<pa.length/\ib<pb.length/\x+1<=po.length
def Ybt(st:SortSt)(f:Nat->Keyed)(r:Nat->Int)(pa pb:List Nat)(x y:Nat)(d:LoD)(st2:SortSt):Prop:=SameS st st2/\∃po2 ia2 ib2 ac bc,d=(none,ar f po2,ia2,ib2,ac,bc)/\MI r pa pb ia2 ib2 po2/\ia2+1<pa.length/\ib2<pb.length/\x+1+y<=po2.length
def jbs(st:SortSt)(f:Nat->Keyed)(r:Nat->Int)(pa pb:List Nat)(x:Nat)(d:LoD)(st2:SortSt):Prop:=(SameS st st2/\∃po2 ia2 ib2 ac bc,d=(none,ar f po2,ia2,ib2,ac,bc)/\MI r pa pb ia2 ib2 po2/\ia2+1<pa.length/\ib2<pb.length/\x+2<=po2.length)\/LoF st f r pa pb d.1 st2
def WbE(st:SortSt)(f:Nat->Keyed)(r:Nat->Int)(pa pb:List Nat)(x y:Nat):ForInStep LoD->SortSt->Prop
 | .done d,st2=>jbs st f r pa pb x d st2
 | .yield d,st2=>Ybt st f r pa pb x (y+1) d st2
theorem vaV(H:LoH prog w A E s f r n κ pa pb)(hk:kindOf st=κ){x y mg ia2 ib2 ac bc:Nat}{po2:List Nat}(same2:SameS st st2)(mi2:MI r pa pb ia2 ib2 po2)(hia2:ia2+1<pa.length)(hib2:ib2<pb.length)(hpo2:x+1+y<=po2.length) :
  wpS (model prog w) A E s (qbd (ar f pa) (ar f pb) mg (none,ar f po2,ia2,ib2,ac,bc)) (WbE st f r pa pb x y) st2:=by
 unfold qbd
 dsimp only
 refine wpS_bind (qg hib2 (wpS_bind (qg (by lia) (wpS_bind (H.L _ _ (H.rb _ (qk hib2)) (H.ra _ (qk (by lia))) _ _ (same2.kind.trans hk) ?_)))))
 dsimp only
 by_cases lt:r (pb.getD ib2 0)<r (pa.getD ia2 0)
 ·refine Wc (decide_eq_true lt) (wpS_bind (qg hib2 ?_))
  have m3:=mi2.b1 H.sb hib2 fun z hz=>by
   obtain⟨j,j1,j2,rfl⟩:=km hz
   have:=H.sa.at_ (i:=ia2) (j:=j) j1 j2
   lia
  rw[YD]
  by_cases c3:ib2+1=pb.length
  ·refine Wc (by rw[Xf];simpa using c3) (wpS_pure (.inr ⟨same2,_,?_,m3.full H.sa H.sb (.inr c3)⟩))
   rw[wA]
  ·refine Yc (by rw[Xf];simpa using c3) ?_
   by_cases c4:bc+1 ≥ mg
   ·exact Wc c4 (wpS_pure (.inl ⟨same2,_,_,_,_,_,rfl,m3,hia2,by lia,by rw[uE,ur];lia⟩))
   ·exact Yc c4 (wpS_pure ⟨same2,_,_,_,_,_,rfl,m3,hia2,by lia,by rw[uE,ur];lia⟩)
 ·refine Yc (by rw[decide_eq_false lt];exact uK) (wpS_bind (qg (by lia) ?_))
  have m3:=mi2.a1 H.sa (by lia) fun z hz=>by
   obtain⟨j,j1,j2,rfl⟩:=km hz
   have:=H.sb.at_ (i:=ib2) (j:=j) j1 j2
   lia
  rw[YD]
  by_cases c3:ia2+1+1=pa.length
  ·refine Wc (by rw[Xf];simpa using c3) (wpS_pure (.inr ⟨same2,_,?_,m3.last H.sa H.sb H.hz c3⟩))
   rw[wA (pa:=pb) (pb:=pa)]
  ·refine Yc (by rw[Xf];simpa using c3) ?_
   by_cases c4:ac+1 ≥ mg
   ·exact Wc c4 (wpS_pure (.inl ⟨same2,_,_,_,_,_,rfl,m3,by lia,hib2,by rw[uE,ur];lia⟩))
   ·exact Yc c4 (wpS_pure ⟨same2,_,_,_,_,_,rfl,m3,by lia,hib2,by rw[uE,ur];lia⟩)
theorem qaH{Q:Array Keyed->SortSt->Prop}(H:LoH prog w A E s f r n κ pa pb)(hk:kindOf st=κ)(na:0<pa.length)(nb:0<pb.length)(h0:r (pb.getD 0 0)<=r (pa.getD 0 0))
  (h:∀po st',po.Perm (pa++pb)->SrtL r po->SameS st st'->Q (ar f po) st'):wpS (model prog w) A E s (k8 (ar f pa) (ar f pb)) Q st:=by
 have m0:MI r pa pb 0 0 []:=⟨by simp,List.Pairwise.nil,fun x hx=>(nomatch hx),fun x hx=>(nomatch hx),ua _,ua _⟩
 have m1:MI r pa pb 0 1 [pb.getD 0 0]:=m0.b1 H.sb nb fun y hy=>by
  obtain⟨j,j1,j2,rfl⟩:=km hy
  have:=H.sa.at_ (i:=0) (j:=j) j1 j2
  lia
 rw[WaD]
 refine wpS_bind (wpS_lift (wpAny_rule ⟨rfl,?_⟩))
 refine wpS_bind (qg nb ?_)
 have e1:#[f (pb.getD 0 0)]=ar f [pb.getD 0 0]:=rfl
 rw[e1]
 by_cases c1:1=pb.length
 ·refine Wc (by rw[Xf];simpa using c1) (wpS_pure ?_)
  dsimp only
  rw[wA]
  have:=m1.full H.sa H.sb (.inr c1)
  exact h _ _ this.1 this.2 (SameS.refl _)
 refine Yc (by rw[Xf];simpa using c1) ?_
 by_cases c2:1=pa.length
 ·refine Wc (by rw[Xf];simpa using c2) (wpS_pure ?_)
  dsimp only
  rw[wA (pa:=pb) (pb:=pa)]
  have:=m1.last H.sa H.sb H.hz (by lia)
  exact h _ _ this.1 this.2 (SameS.refl _)
 refine Yc (by rw[Xf];simpa using c2) ?_
 refine wpS_bind (wpS_get ?_)
 refine wpS_bind (wpS_mono (wpS_forRange (I:=LoI st f r pa pb)
  (Q:=fun c st'=>LoF st f r pa pb c.1 st') ?step ?fin ?init) ?post)
 case init=>exact⟨SameS.refl _,_,0,1,_,rfl,m1,by lia,by lia,by simp⟩
 case fin=>
  intro c st' hh
  refine ZaQ hh fun same po ia ib mg zz mi hia hib hpo=>?_
  subst zz
  have:=mi.len
  rw[Xf,Xf]at hpo
  lia
 case post=>
  rintro c st' ⟨same,po,hc,pm,sr⟩
  obtain⟨c1,c2⟩:=c
  dsimp only at hc
  subst hc
  exact wpS_pure (h po st' pm sr same)
 case step=>
  intro x c st' _ hx hh
  refine ZaQ hh fun same po ia ib mg zz mi hia hib hpo=>?_
  subst zz
  refine wpS_bind (wpS_mono (wpS_forRange (I:=Ybt st f r pa pb x) (Q:=jbs st f r pa pb x) ?step1 ?fin1 ?init1) ?post1)
  case init1=>exact⟨same,po,ia,ib,0,0,rfl,mi,hia,hib,by lia⟩
  case fin1=>
   intro d st2 hh
   refine Xaj hh fun same2 po2 ia2 ib2 ac bc zz mi2 hia2 hib2 hpo2=>?_
   subst zz
   have:=mi2.len
   rw[Xf,Xf]at hpo2
   lia
  case step1=>
   intro y d st2 _ hy hh
   refine Xaj hh fun same2 po2 ia2 ib2 ac bc zz mi2 hia2 hib2 hpo2=>?_
   subst zz
   exact wpS_mono (vaV H hk same2 mi2 hia2 hib2 hpo2) fun a st4 ha=>by cases a<;>exact ha
  case post1=>
   rintro d st2 (hh | ⟨same2,po2,hd,pm,sr⟩)
   ·refine Xaj hh fun same2 po2 ia2 ib2 ac bc zz mi2 hia2 hib2 hpo2=>?_
    subst zz
    refine wpS_bind (wpS_lift (wpAny_rule ⟨rfl,?_⟩))
    refine wpS_bind (wpS_mono (wpS_forRange (I:=fun y d st2=>LoP st f r pa pb (x+2) d st2) (Q:=fun d st2=>LoP st f r pa pb (x+2) d st2\/LoF st f r pa pb d.1 st2) ?step2 ?fin2 ?init2) ?post2)
    case init2=>exact⟨same2,po2,ia2,ib2,_,ac,bc,rfl,mi2,hia2,hib2,hpo2⟩
    case fin2=>exact fun d st3 h3=>.inl h3
    case step2=>
     intro y d st3 _ hy hh
     refine WaT hh fun same3 po3 ia3 ib3 g3 ac3 bc3 zz mi3 hia3 hib3 hpo3=>?_
     subst zz
     show wpS _ _ _ _ (if g3 > 1 then vat (ar f pa) (ar f pb) (ar f po3) ia3 ib3 (g3 - 1) ac3 bc3 else vat (ar f pa) (ar f pb) (ar f po3) ia3 ib3 g3 ac3 bc3) _ _
     by_cases c:g3 > 1
     ·exact Wc c (wpS_mono (Zaq H same3 (same3.kind.trans hk) mi3 hia3 hib3 hpo3) fun a st4 ha=>by cases a<;>exact ha)
     ·exact Yc c (wpS_mono (Zaq H same3 (same3.kind.trans hk) mi3 hia3 hib3 hpo3) fun a st4 ha=>by cases a<;>exact ha)
    case post2=>
     rintro d st3 (hh | ⟨same3,po3,hd,pm,sr⟩)
     ·refine WaT hh fun same3 po3 ia3 ib3 g3 ac3 bc3 zz mi3 hia3 hib3 hpo3=>?_
      subst zz
      refine wpS_bind ?_
      rw[Wx]
      exact wpS_modify (wpS_pure ⟨same3.g _,po3,ia3,ib3,_,rfl,mi3,hia3,hib3,by lia⟩)
     ·obtain⟨d1,d2⟩:=d
      dsimp only at hd
      subst hd
      exact wpS_pure ⟨same3,po3,rfl,pm,sr⟩
   ·obtain⟨d1,d2⟩:=d
    dsimp only at hd
    subst hd
    exact wpS_pure ⟨same2,po2,rfl,pm,sr⟩
end
theorem WaC(a b:Array Keyed):Wab a b=(do
 rule "list.sort.merge-hi"
 let total:=a.size+b.size
 let done (out:Array Keyed) (na nb:Nat):=a.extract 0 na++b.extract 0 nb++out.reverse
 let firstOfB (out:Array Keyed) (na nb:Nat):=b.extract 0 nb++a.extract 0 na++out.reverse
 let mut na:=a.size - 1
 let mut nb:=b.size
 let mut out:Array Keyed:=#[←elem' a na]
 if na==0 then return done out na nb
 if nb==1 then return firstOfB out na nb
 let mut minGallop:=gallopOf (←get)
 for _ in [0:total] do
  let mut acount:=0
  let mut bcount:=0
  for _ in [0:total] do
   let some aWins ←lt' (←elem' b (nb - 1)) (←elem' a (na - 1)) | return done out na nb
   if aWins then
    na:=na - 1;out:=out.push (←elem' a na);acount:=acount+1;bcount:=0
    if na==0 then return done out na nb
    if acount ≥ minGallop then break
   else
    nb:=nb - 1;out:=out.push (←elem' b nb);bcount:=bcount+1;acount:=0
    if nb==1 then return firstOfB out na nb
    if bcount ≥ minGallop then break
  rule "list.sort.gallop"
  minGallop:=minGallop+1
  for _ in [0:total] do
   if minGallop > 1 then minGallop:=minGallop - 1
   jq minGallop
   let some at_ ←wo false (←elem' b (nb - 1)) a 0 na (na - 1) | return done out na nb
   let k:=na - at_
   acount:=k
   if k > 0 then
    out:=out++(a.extract at_ na).reverse;na:=at_
    if na==0 then return done out na nb
   nb:=nb - 1;out:=out.push (←elem' b nb)
   if nb==1 then return firstOfB out na nb
   let some at_ ←wo true (←elem' a (na - 1)) b 0 nb (nb - 1) | return done out na nb
   let k:=nb - at_
   bcount:=k
   if k > 0 then
    out:=out++(b.extract at_ nb).reverse;nb:=at_
    if nb==1 then return firstOfB out na nb
    if nb==0 then return done out na nb
   na:=na - 1;out:=out.push (←elem' a na)
   if na==0 then return done out na nb
   if acount<7&&bcount<7 then break
  minGallop:=minGallop+1
  jq minGallop
 unsupported "internal:list.sort.merge-bound"):=rfl
noncomputable abbrev HiC:=Option (Array Keyed)×Nat×Nat×Array Keyed×Nat×Nat×Nat
noncomputable def Wau(a b out:Array Keyed)(na nb mg ac bc:Nat):StateT SortSt Sem (ForInStep HiC):=do
 let x ←elem' a (na - 1)
 if na - 1==0 then pure (.done (some (a.extract 0 (na - 1)++b.extract 0 nb++(out.push x).reverse),na - 1,nb,out.push x,mg,ac,bc))
 else if ac<7&&bc<7 then pure (.done (none,na - 1,nb,out.push x,mg,ac,bc)) else pure (.yield (none,na - 1,nb,out.push x,mg,ac,bc))
noncomputable def Wav(a b out:Array Keyed)(na nb mg ac bc:Nat):StateT SortSt Sem (ForInStep HiC):=do
 let y ←elem' b (nb - 1)
 if nb - 1==1 then pure (.done (some (b.extract 0 (nb - 1)++a.extract 0 na++(out.push y).reverse),na,nb - 1,out.push y,mg,ac,bc))
 else
  let x ←elem' a (na - 1)
  let some k ←wo true x b 0 (nb - 1) (nb - 1 - 1) | pure (.done (some (a.extract 0 na++b.extract 0 (nb - 1)++(out.push y).reverse),na,nb - 1,out.push y,mg,ac,bc))
  if nb - 1 - k > 0 then
   if k==1 then pure (.done (some (b.extract 0 k++a.extract 0 na++(out.push y++(b.extract k (nb - 1)).reverse).reverse),na,k,out.push y++(b.extract k (nb - 1)).reverse,mg,ac,nb - 1 - k))
   else if k==0 then pure (.done (some (a.extract 0 na++b.extract 0 k++(out.push y++(b.extract k (nb - 1)).reverse).reverse),na,k,out.push y++(b.extract k (nb - 1)).reverse,mg,ac,nb - 1 - k))
   else Wau a b (out.push y++(b.extract k (nb - 1)).reverse) na k mg ac (nb - 1 - k)
  else Wau a b (out.push y) na (nb - 1) mg ac (nb - 1 - k)
noncomputable def wat(a b out:Array Keyed)(na nb mg ac bc:Nat):StateT SortSt Sem (ForInStep HiC):=do
 jq mg
 let y ←elem' b (nb - 1)
 let some k ←wo false y a 0 na (na - 1) | pure (.done (some (a.extract 0 na++b.extract 0 nb++out.reverse),na,nb,out,mg,ac,bc))
 if na - k > 0 then
  if k==0 then pure (.done (some (a.extract 0 k++b.extract 0 nb++(out++(a.extract k na).reverse).reverse),k,nb,out++(a.extract k na).reverse,mg,na - k,bc))
  else Wav a b (out++(a.extract k na).reverse) k nb mg (na - k) bc
 else Wav a b out na nb mg (na - k) bc
noncomputable abbrev HiD:=Option (Array Keyed)×Nat×Nat×Array Keyed×Nat×Nat
noncomputable def Wbe(a b:Array Keyed)(mg:Nat)(c:HiD):StateT SortSt Sem (ForInStep HiD):=do
 let y ←elem' b (c.2.2.1 - 1)
 let x ←elem' a (c.2.1 - 1)
 let some aWins ←lt' y x | pure (.done (some (a.extract 0 c.2.1++b.extract 0 c.2.2.1++c.2.2.2.1.reverse),c.2.1,c.2.2.1,c.2.2.2.1,c.2.2.2.2.1,c.2.2.2.2.2))
 if aWins=true then
  let x ←elem' a (c.2.1 - 1)
  if c.2.1 - 1==0 then pure (.done (some (a.extract 0 (c.2.1 - 1)++b.extract 0 c.2.2.1++(c.2.2.2.1.push x).reverse),c.2.1 - 1,c.2.2.1,c.2.2.2.1.push x,c.2.2.2.2.1+1,0))
  else if c.2.2.2.2.1+1 ≥ mg then pure (.done (none,c.2.1 - 1,c.2.2.1,c.2.2.2.1.push x,c.2.2.2.2.1+1,0)) else pure (.yield (none,c.2.1 - 1,c.2.2.1,c.2.2.2.1.push x,c.2.2.2.2.1+1,0))
 else
  let y ←elem' b (c.2.2.1 - 1)
  if c.2.2.1 - 1==1 then pure (.done (some (b.extract 0 (c.2.2.1 - 1)++a.extract 0 c.2.1++(c.2.2.2.1.push y).reverse),c.2.1,c.2.2.1 - 1,c.2.2.2.1.push y,0,c.2.2.2.2.2+1))
  else if c.2.2.2.2.2+1 ≥ mg then pure (.done (none,c.2.1,c.2.2.1 - 1,c.2.2.2.1.push y,0,c.2.2.2.2.2+1)) else pure (.yield (none,c.2.1,c.2.2.1 - 1,c.2.2.2.1.push y,0,c.2.2.2.2.2+1))
structure MH(r:Nat->Int)(pa pb:List Nat)(na nb:Nat)(po:List Nat):Prop where
 perm:po.Perm (pa.drop na++pb.drop nb)
 srt:po.Pairwise fun x y=>r y<=r x
 la:∀x∈po,∀y∈pa.take na,r y<=r x
 lb:∀x∈po,∀y∈pb.take nb,r y<=r x
 ha:na<=pa.length
 hb:nb<=pb.length
section
variable {r:Nat->Int} {pa pb po:List Nat} {na nb:Nat}
theorem MH.len(h:MH r pa pb na nb po):po.length=(pa.length - na)+(pb.length - nb):=by
 have:=h.perm.length_eq
 simpa using this
theorem MH.swap(h:MH r pa pb na nb po):MH r pb pa nb na po:=⟨h.perm.trans xL,h.srt,h.lb,h.la,h.hb,h.ha⟩
theorem jav{p:List Nat}{m k:Nat}(hm:m<=k):(p.drop m).take (k - m)=(p.take k).drop m:=by rw[List.drop_take]
theorem MH.aK(h:MH r pa pb na nb po)(sa:SrtL r pa){m:Nat}(hm:m<=na)(hl:∀x∈(pa.drop m).take (na - m),∀y∈pb.take nb,r y<=r x):MH r pa pb m nb (po++((pa.drop m).take (na - m)).reverse):=by
 have sp:SrtL r (pa.take na):=sa.sublist (yk _ _)
 have e:pa.take m++(pa.drop m).take (na - m)=pa.take na:=by
  rw[jav hm]
  have:=uz m (pa.take na)
  rw[List.take_take,Nat.min_eq_left hm]at this
  exact this
 rw[←e]at sp
 obtain⟨s1,s2,s3⟩:=xh.mp sp
 have e2:pa.drop m=(pa.drop m).take (na - m)++pa.drop na:=by
  have:=uz (na - m) (pa.drop m)
  rw[List.drop_drop,show m+(na - m)=na by lia]at this
  exact this.symm
 refine⟨?_,xh.mpr ⟨h.srt,List.pairwise_reverse.mpr s2,fun x hx y hy=>?_⟩,fun x hx y hy=>?_,fun x hx y hy=>?_,by have:=h.ha;lia,h.hb⟩
 ·refine List.Perm.trans ?_ (List.Perm.of_eq (congrArg (·++pb.drop nb) e2.symm))
  refine(h.perm.append (List.reverse_perm _)).trans ?_
  rw[uf]
  have:(pa.drop na++(pb.drop nb++(pa.drop m).take (na - m))).Perm ((pa.drop m).take (na - m)++(pa.drop na++pb.drop nb)):=by
   rw[←uf]
   exact xL
  rw[uf]
  exact this
 ·exact h.la x hx y (by rw[←e];exact uY _ (List.mem_reverse.mp hy))
 ·rcases uQ.mp hx with hx | hx
  ·exact h.la x hx y (by rw[←e];exact xg _ hy)
  ·exact s3 y hy x (List.mem_reverse.mp hx)
 ·rcases uQ.mp hx with hx | hx
  ·exact h.lb x hx y hy
  ·exact hl x (List.mem_reverse.mp hx) y hy
theorem MH.bK(h:MH r pa pb na nb po)(sb:SrtL r pb){m:Nat}(hm:m<=nb)(hl:∀x∈(pb.drop m).take (nb - m),∀y∈pa.take na,r y<=r x):MH r pa pb na m (po++((pb.drop m).take (nb - m)).reverse):=(h.swap.aK sb hm hl).swap
theorem XaL{p:List Nat}{k:Nat}(h0:0<k)(h:k<=p.length):(p.drop (k - 1)).take (k - (k - 1))=[p.getD (k - 1) 0]:=by
 rw[show k - (k - 1)=1 by lia]
 exact jaa (by lia)
theorem MH.a1(h:MH r pa pb na nb po)(sa:SrtL r pa)(h0:0<na)(hl:∀y∈pb.take nb,r y<=r (pa.getD (na - 1) 0)):MH r pa pb (na - 1) nb (po++[pa.getD (na - 1) 0]):=by
 have:=h.aK sa (m:=na - 1) (by lia) (by rw[XaL h0 h.ha];intro x hx;rw[uL.mp hx];exact hl)
 rw[XaL h0 h.ha]at this
 exact this
theorem MH.b1(h:MH r pa pb na nb po)(sb:SrtL r pb)(h0:0<nb)(hl:∀y∈pa.take na,r y<=r (pb.getD (nb - 1) 0)):MH r pa pb na (nb - 1) (po++[pb.getD (nb - 1) 0]):=(h.swap.a1 sb h0 hl).swap
theorem Yr{p:List Nat}{i:Nat}{x:Nat}(h:x∈p.take i):∃j,j<i/\j<p.length/\x=p.getD j 0:=by
 obtain⟨k,hk,e⟩:=yC.mp h
 rw[uX]at hk
 refine⟨k,by lia,by lia,?_⟩
 rw[yA]at e
 rw[←e]
 simp[show k<p.length by lia]
theorem MH.done(h:MH r pa pb na nb po)(sa:SrtL r pa)(sb:SrtL r pb)(hl:∀x∈pa.take na,∀y∈pb.take nb,r x<=r y):(pa.take na++pb.take nb++po.reverse).Perm (pa++pb)/\SrtL r (pa.take na++pb.take nb++po.reverse):=by
 constructor
 ·refine(List.Perm.append_left _ ((List.reverse_perm _).trans h.perm)).trans ?_
  have:(pa.take na++pb.take nb++(pa.drop na++pb.drop nb)).Perm ((pa.take na++pa.drop na)++(pb.take nb++pb.drop nb)):=by
   rw[uf,uf]
   refine List.Perm.append_left _ ?_
   rw[←uf,←uf]
   exact List.Perm.append_right _ xL
  rw[uz,uz]at this
  exact this
 ·refine xh.mpr ⟨xh.mpr ⟨sa.sublist (yk _ _),sb.sublist (yk _ _),hl⟩,List.pairwise_reverse.mpr h.srt,fun x hx y hy=>?_⟩
  have hy:=List.mem_reverse.mp hy
  rcases uQ.mp hx with hx | hx
  ·exact h.la y hy x hx
  ·exact h.lb y hy x hx
theorem MH.full(h:MH r pa pb na nb po)(sa:SrtL r pa)(sb:SrtL r pb)(hi:na=0\/nb=0):(pa.take na++pb.take nb++po.reverse).Perm (pa++pb)/\SrtL r (pa.take na++pb.take nb++po.reverse):=
 h.done sa sb fun x hx y hy=>by
  rcases hi with z | z
  ·rw[z]at hx;cases hx
  ·rw[z]at hy;cases hy
theorem MH.first(h:MH r pa pb na nb po)(sa:SrtL r pa)(sb:SrtL r pb)(hz:∀y∈pa,r (pb.getD 0 0)<=r y)(hi:nb=1):(pb.take nb++pa.take na++po.reverse).Perm (pa++pb)/\SrtL r (pb.take nb++pa.take na++po.reverse):=by
 have:=h.swap.done sb sa fun x hx y hy=>by
  obtain⟨j,j1,j2,rfl⟩:=Yr hx
  rw[show j=0 by lia]
  exact hz y (xF hy)
 exact⟨this.1.trans xL,this.2⟩
end
section
variable {prog:Program} {w:World} {A:Around} {E:ZVP} {s:Shared} {f:Nat->Keyed} {r:Nat->Int} {n:Nat} {κ:SortKind}
theorem Xx{pa pb:List Nat}(po:List Nat)(na nb:Nat):(ar f pa).extract 0 na++(ar f pb).extract 0 nb++(ar f po).reverse=ar f (pa.take na++pb.take nb++po.reverse):=by
 rw[jN,jN,Xa0,qR,qR];rfl
theorem qaN{pa:List Nat}(po:List Nat)(m k:Nat):ar f po++((ar f pa).extract m k).reverse=ar f (po++((pa.drop m).take (k - m)).reverse):=by
 rw[jN,Xa0,qR]
def HiP(st:SortSt)(f:Nat->Keyed)(r:Nat->Int)(pa pb:List Nat)(x:Nat)(d:HiC)(st2:SortSt):Prop:=SameS st st2/\∃po2 na2 nb2 g ac bc,d=(none,na2,nb2,ar f po2,g,ac,bc)/\MH r pa pb na2 nb2 po2/\0<na2/\1<nb2/\x<=po2.length
def HiQ(st:SortSt)(f:Nat->Keyed)(r:Nat->Int)(pa pb:List Nat)(x:Nat):ForInStep HiC->SortSt->Prop
 | .done d,st2=>HiP st f r pa pb x d st2\/LoF st f r pa pb d.1 st2
 | .yield d,st2=>HiP st f r pa pb x d st2
structure HiH(prog:Program)(w:World)(A:Around)(E:ZVP)(s:Shared)(f:Nat->Keyed)(r:Nat->Int)(n:Nat)(κ:SortKind)(pa pb:List Nat):Prop where
 L:jD prog w A E s f r n κ
 ra:∀x∈pa,x<n
 rb:∀x∈pb,x<n
 sa:SrtL r pa
 sb:SrtL r pb
 hz:∀y∈pa,r (pb.getD 0 0)<=r y
variable {pa pb:List Nat} {st st2:SortSt}
theorem Yap(H:HiH prog w A E s f r n κ pa pb)(same:SameS st st2){x:Nat}{po:List Nat}{na nb mg ac bc:Nat}(mi:MH r pa pb na nb po)(hna:0<na)(hnb:1<nb)(hx:x<=po.length)(hl:∀y∈pb.take nb,r y<=r (pa.getD (na - 1) 0)) :
  wpS (model prog w) A E s (Wau (ar f pa) (ar f pb) (ar f po) na nb mg ac bc) (HiQ st f r pa pb x) st2:=by
 unfold Wau
 have ha:=mi.ha
 refine wpS_bind (qg (by lia) ?_)
 have m2:=mi.a1 H.sa hna hl
 rw[YD,Xx]
 by_cases c:na - 1=0
 ·exact Wc (by simpa using c) (wpS_pure (.inr ⟨same,_,rfl,m2.full H.sa H.sb (.inl c)⟩))
 ·refine Yc (by simpa using c) ?_
  have P:HiP st f r pa pb x (none,na - 1,nb,ar f (po++[pa.getD (na - 1) 0]),mg,ac,bc) st2:=⟨same,_,_,_,_,_,_,rfl,m2,by lia,hnb,by rw[uE];lia⟩
  by_cases c2:(decide (ac<7)&&decide (bc<7))=true
  ·exact Wc c2 (wpS_pure (.inl P))
  ·exact Yc c2 (wpS_pure P)
theorem Xap(H:HiH prog w A E s f r n κ pa pb)(same:SameS st st2)(hk:kindOf st2=κ){x:Nat}{po:List Nat}{na nb mg ac bc:Nat}(mi:MH r pa pb na nb po)(hna:0<na)(hnb:1<nb)(hx:x<=po.length)(hl:∀y∈pa.take na,r y<=r (pb.getD (nb - 1) 0)) :
  wpS (model prog w) A E s (Wav (ar f pa) (ar f pb) (ar f po) na nb mg ac bc) (HiQ st f r pa pb x) st2:=by
 unfold Wav
 have ha:=mi.ha
 have hb:=mi.hb
 refine wpS_bind (qg (by lia) ?_)
 have m2:=mi.b1 H.sb (by lia) hl
 have hx2:x<=(po++[pb.getD (nb - 1) 0]).length:=by rw[uE];lia
 rw[YD]
 by_cases c:nb - 1=1
 ·refine Wc (by simpa using c) (wpS_pure (.inr ⟨same,_,?_,m2.first H.sa H.sb H.hz c⟩))
  rw[Xx]
 ·refine Yc (by simpa using c) ?_
  refine wpS_bind (qg (by lia) ?_)
  refine wpS_bind (k4 (left:=true) (base:=0) (m:=nb - 1) H.L hk H.rb (H.ra _ (qk (by lia))) H.sb (by lia) (by lia) fun k k1 k2 k3=>?_)
  have ge:∀y∈pb.take k,r y<=r (pa.getD (na - 1) 0):=fun y hy=>by
   obtain⟨j,j1,j2,rfl⟩:=Yr hy
   have:=k2 j j1
   rw[if_pos rfl,Nat.zero_add]at this
   lia
  dsimp only
  by_cases k0:nb - 1 - k > 0
  ·refine Wc k0 ?_
   have m3:=m2.bK H.sb (m:=k) (by lia) fun z hz y hy=>by
    obtain⟨j,j1,j2,rfl⟩:=Yr hy
    rw[jav (by lia)]at hz
    obtain⟨t,t1,t2,rfl⟩:=km hz
    rw[uX]at t2
    have a1:=k3 t t1 (by lia)
    rw[if_pos rfl,Nat.zero_add]at a1
    have e2:(pb.take (nb - 1)).getD t 0=pb.getD t 0:=by simp[yg,show t<nb - 1 by lia]
    rw[e2]
    have a2:=H.sa.at_ (i:=j) (j:=na - 1) (by lia) (by lia)
    lia
   rw[qaN]
   by_cases c3:k=1
   ·refine Wc (by simpa using c3) (wpS_pure (.inr ⟨same,_,?_,m3.first H.sa H.sb H.hz c3⟩))
    rw[Xx]
   ·refine Yc (by simpa using c3) ?_
    by_cases c4:k=0
    ·refine Wc (by simpa using c4) (wpS_pure (.inr ⟨same,_,?_,m3.full H.sa H.sb (.inr c4)⟩))
     rw[Xx]
    ·refine Yc (by simpa using c4) ?_
     exact Yap H same m3 hna (by lia) (by rw[uE];lia) ge
  ·refine Yc k0 ?_
   have:k=nb - 1:=by lia
   subst this
   exact Yap H same m2 hna (by lia) hx2 ge
theorem qaq(H:HiH prog w A E s f r n κ pa pb)(same:SameS st st2)(hk:kindOf st2=κ){x:Nat}{po:List Nat}{na nb mg ac bc:Nat}(mi:MH r pa pb na nb po)(hna:0<na)(hnb:1<nb)(hx:x<=po.length) :
  wpS (model prog w) A E s (wat (ar f pa) (ar f pb) (ar f po) na nb mg ac bc) (HiQ st f r pa pb x) st2:=by
 unfold wat
 have ha:=mi.ha
 have hb:=mi.hb
 rw[Wx]
 refine wpS_bind (wpS_modify ?_)
 have same2:=same.g mg
 have hk2:kindOf (Zaw st2 mg)=κ:=hk
 show wpS _ _ _ _ _ _ (Zaw st2 mg)
 refine wpS_bind (qg (by lia) ?_)
 refine wpS_bind (k4 (left:=false) (base:=0) (m:=na) H.L hk2 H.ra (H.rb _ (qk (by lia))) H.sa (by lia) (by lia) fun k k1 k2 k3=>?_)
 have le:∀y∈pa.take k,r y<=r (pb.getD (nb - 1) 0):=fun y hy=>by
  obtain⟨j,j1,j2,rfl⟩:=Yr hy
  have:=k2 j j1
  rw[if_neg uK,Nat.zero_add]at this
  exact this
 dsimp only
 by_cases k0:na - k > 0
 ·refine Wc k0 ?_
  have m3:=mi.aK H.sa (m:=k) (by lia) fun z hz y hy=>by
   obtain⟨j,j1,j2,rfl⟩:=Yr hy
   rw[jav (by lia)]at hz
   obtain⟨t,t1,t2,rfl⟩:=km hz
   rw[uX]at t2
   have a1:=k3 t t1 (by lia)
   rw[if_neg uK,Nat.zero_add]at a1
   have e2:(pa.take na).getD t 0=pa.getD t 0:=by simp[yg,show t<na by lia]
   rw[e2]
   have a2:=H.sb.at_ (i:=j) (j:=nb - 1) (by lia) (by lia)
   lia
  rw[qaN]
  by_cases c1:k=0
  ·refine Wc (by simpa using c1) (wpS_pure (.inr ⟨same2,_,?_,m3.full H.sa H.sb (.inl c1)⟩))
   rw[Xx]
  ·refine Yc (by simpa using c1) ?_
   exact Xap H same2 hk2 m3 (by lia) hnb (by rw[uE];lia) le
 ·refine Yc k0 ?_
  have:k=na:=by lia
  subst this
  exact Xap H same2 hk2 mi hna hnb hx le
def HiI(st:SortSt)(f:Nat->Keyed)(r:Nat->Int)(pa pb:List Nat)(x:Nat)(c:Option (Array Keyed)×Nat×Nat×Array Keyed×Nat)(st':SortSt):Prop:=SameS st st'/\∃po na nb mg,c=(none,na,nb,ar f po,mg)/\MH r pa pb na nb po/\0<na/\1<nb/\x+1<=po.length
def qbp(st:SortSt)(f:Nat->Keyed)(r:Nat->Int)(pa pb:List Nat)(x y:Nat)(d:HiD)(st2:SortSt):Prop:=SameS st st2/\∃po2 na2 nb2 ac bc,d=(none,na2,nb2,ar f po2,ac,bc)/\MH r pa pb na2 nb2 po2/\0<na2/\1<nb2/\x+1+y<=po2.length
def Xbu(st:SortSt)(f:Nat->Keyed)(r:Nat->Int)(pa pb:List Nat)(x:Nat)(d:HiD)(st2:SortSt):Prop:=(SameS st st2/\∃po2 na2 nb2 ac bc,d=(none,na2,nb2,ar f po2,ac,bc)/\MH r pa pb na2 nb2 po2/\0<na2/\1<nb2/\x+2<=po2.length)\/LoF st f r pa pb d.1 st2
def YbC(st:SortSt)(f:Nat->Keyed)(r:Nat->Int)(pa pb:List Nat)(x y:Nat):ForInStep HiD->SortSt->Prop
 | .done d,st2=>Xbu st f r pa pb x d st2
 | .yield d,st2=>qbp st f r pa pb x (y+1) d st2
theorem XaY(H:HiH prog w A E s f r n κ pa pb)(hk:kindOf st=κ){x y mg na2 nb2 ac bc:Nat}{po2:List Nat}(same2:SameS st st2)(mi2:MH r pa pb na2 nb2 po2)(hna2:0<na2)(hnb2:1<nb2)(hpo2:x+1+y<=po2.length) :
  wpS (model prog w) A E s (Wbe (ar f pa) (ar f pb) mg (none,na2,nb2,ar f po2,ac,bc)) (YbC st f r pa pb x y) st2:=by
 unfold Wbe
 dsimp only
 have ha2:=mi2.ha
 have hb2:=mi2.hb
 refine wpS_bind (qg (by lia) (wpS_bind (qg (by lia) (wpS_bind (H.L _ _ (H.rb _ (qk (by lia))) (H.ra _ (qk (by lia))) _ _ (same2.kind.trans hk) ?_)))))
 dsimp only
 by_cases lt:r (pb.getD (nb2 - 1) 0)<r (pa.getD (na2 - 1) 0)
 ·refine Wc (decide_eq_true lt) (wpS_bind (qg (by lia) ?_))
  have m3:=mi2.a1 H.sa hna2 fun z hz=>by
   obtain⟨j,j1,j2,rfl⟩:=Yr hz
   have:=H.sb.at_ (i:=j) (j:=nb2 - 1) (by lia) (by lia)
   lia
  rw[YD]
  by_cases c3:na2 - 1=0
  ·refine Wc (by simpa using c3) (wpS_pure (.inr ⟨same2,_,?_,m3.full H.sa H.sb (.inl c3)⟩))
   rw[Xx]
  ·refine Yc (by simpa using c3) ?_
   by_cases c4:ac+1 ≥ mg
   ·exact Wc c4 (wpS_pure (.inl ⟨same2,_,_,_,_,_,rfl,m3,by lia,hnb2,by rw[uE,ur];lia⟩))
   ·exact Yc c4 (wpS_pure ⟨same2,_,_,_,_,_,rfl,m3,by lia,hnb2,by rw[uE,ur];lia⟩)
 ·refine Yc (by rw[decide_eq_false lt];exact uK) (wpS_bind (qg (by lia) ?_))
  have m3:=mi2.b1 H.sb (by lia) fun z hz=>by
   obtain⟨j,j1,j2,rfl⟩:=Yr hz
   have:=H.sa.at_ (i:=j) (j:=na2 - 1) (by lia) (by lia)
   lia
  rw[YD]
  by_cases c3:nb2 - 1=1
  ·refine Wc (by simpa using c3) (wpS_pure (.inr ⟨same2,_,?_,m3.first H.sa H.sb H.hz c3⟩))
   rw[Xx]
  ·refine Yc (by simpa using c3) ?_
   by_cases c4:bc+1 ≥ mg
   ·exact Wc c4 (wpS_pure (.inl ⟨same2,_,_,_,_,_,rfl,m3,hna2,by lia,by rw[uE,ur];lia⟩))
   ·exact Yc c4 (wpS_pure ⟨same2,_,_,_,_,_,rfl,m3,hna2,by lia,by rw[uE,ur];lia⟩)
theorem qaI{Q:Array Keyed->SortSt->Prop}(H:HiH prog w A E s f r n κ pa pb)(hk:kindOf st=κ)(ha:0<pa.length)(hb:0<pb.length)(h0:r (pb.getD (pb.length - 1) 0)<=r (pa.getD (pa.length - 1) 0))
  (h:∀po st',po.Perm (pa++pb)->SrtL r po->SameS st st'->Q (ar f po) st'):wpS (model prog w) A E s (Wab (ar f pa) (ar f pb)) Q st:=by
 have m0:MH r pa pb pa.length pb.length []:=⟨by simp,List.Pairwise.nil,fun x hx=>(nomatch hx),fun x hx=>(nomatch hx),uJ _,uJ _⟩
 have m1:MH r pa pb (pa.length - 1) pb.length [pa.getD (pa.length - 1) 0]:=m0.a1 H.sa ha fun y hy=>by
  obtain⟨j,j1,j2,rfl⟩:=Yr hy
  have:=H.sb.at_ (i:=j) (j:=pb.length - 1) (by lia) (by lia)
  lia
 rw[WaC]
 refine wpS_bind (wpS_lift (wpAny_rule ⟨rfl,?_⟩))
 rw[Xf,Xf]
 refine wpS_bind (qg (by lia) ?_)
 have e1:#[f (pa.getD (pa.length - 1) 0)]=ar f [pa.getD (pa.length - 1) 0]:=rfl
 rw[e1]
 by_cases c1:pa.length - 1=0
 ·refine Wc (by simpa using c1) (wpS_pure ?_)
  dsimp only
  rw[Xx]
  have:=m1.full H.sa H.sb (.inl c1)
  exact h _ _ this.1 this.2 (SameS.refl _)
 refine Yc (by simpa using c1) ?_
 by_cases c2:pb.length=1
 ·refine Wc (by simpa using c2) (wpS_pure ?_)
  dsimp only
  rw[Xx (pa:=pb) (pb:=pa)]
  have:=m1.first H.sa H.sb H.hz c2
  exact h _ _ this.1 this.2 (SameS.refl _)
 refine Yc (by simpa using c2) ?_
 refine wpS_bind (wpS_get ?_)
 refine wpS_bind (wpS_mono (wpS_forRange (I:=HiI st f r pa pb)
  (Q:=fun c st'=>LoF st f r pa pb c.1 st') ?step ?fin ?init) ?post)
 case init=>exact⟨SameS.refl _,_,_,_,_,rfl,m1,by lia,by lia,by simp⟩
 case fin=>
  intro c st' hh
  refine ZaQ hh fun same po na nb mg zz mi hna hnb hpo=>?_
  subst zz
  have:=mi.len
  have:=mi.ha
  have:=mi.hb
  lia
 case post=>
  rintro c st' ⟨same,po,hc,pm,sr⟩
  obtain⟨c1,c2⟩:=c
  dsimp only at hc
  subst hc
  exact wpS_pure (h po st' pm sr same)
 case step=>
  intro x c st' _ hx hh
  refine ZaQ hh fun same po na nb mg zz mi hna hnb hpo=>?_
  subst zz
  refine wpS_bind (wpS_mono (wpS_forRange (I:=qbp st f r pa pb x) (Q:=Xbu st f r pa pb x) ?step1 ?fin1 ?init1) ?post1)
  case init1=>exact⟨same,po,na,nb,0,0,rfl,mi,hna,hnb,by lia⟩
  case fin1=>
   intro d st2 hh
   refine Xaj hh fun same2 po2 na2 nb2 ac bc zz mi2 hna2 hnb2 hpo2=>?_
   subst zz
   have:=mi2.len
   have:=mi2.ha
   have:=mi2.hb
   lia
  case step1=>
   intro y d st2 _ hy hh
   refine Xaj hh fun same2 po2 na2 nb2 ac bc zz mi2 hna2 hnb2 hpo2=>?_
   subst zz
   exact wpS_mono (XaY H hk same2 mi2 hna2 hnb2 hpo2) fun a st4 ha=>by cases a<;>exact ha
  case post1=>
   rintro d st2 (hh | ⟨same2,po2,hd,pm,sr⟩)
   ·refine Xaj hh fun same2 po2 na2 nb2 ac bc zz mi2 hna2 hnb2 hpo2=>?_
    subst zz
    refine wpS_bind (wpS_lift (wpAny_rule ⟨rfl,?_⟩))
    refine wpS_bind (wpS_mono (wpS_forRange (I:=fun y d st2=>HiP st f r pa pb (x+2) d st2) (Q:=fun d st2=>HiP st f r pa pb (x+2) d st2\/LoF st f r pa pb d.1 st2) ?step2 ?fin2 ?init2) ?post2)
    case init2=>exact⟨same2,po2,na2,nb2,_,ac,bc,rfl,mi2,hna2,hnb2,hpo2⟩
    case fin2=>exact fun d st3 h3=>.inl h3
    case step2=>
     intro y d st3 _ hy hh
     refine WaT hh fun same3 po3 na3 nb3 g3 ac3 bc3 zz mi3 hna3 hnb3 hpo3=>?_
     subst zz
     show wpS _ _ _ _ (if g3 > 1 then wat (ar f pa) (ar f pb) (ar f po3) na3 nb3 (g3 - 1) ac3 bc3 else wat (ar f pa) (ar f pb) (ar f po3) na3 nb3 g3 ac3 bc3) _ _
     by_cases c:g3 > 1
     ·exact Wc c (wpS_mono (qaq H same3 (same3.kind.trans hk) mi3 hna3 hnb3 hpo3) fun a st4 ha=>by cases a<;>exact ha)
     ·exact Yc c (wpS_mono (qaq H same3 (same3.kind.trans hk) mi3 hna3 hnb3 hpo3) fun a st4 ha=>by cases a<;>exact ha)
    case post2=>
     rintro d st3 (hh | ⟨same3,po3,hd,pm,sr⟩)
     ·refine WaT hh fun same3 po3 na3 nb3 g3 ac3 bc3 zz mi3 hna3 hnb3 hpo3=>?_
      subst zz
      refine wpS_bind ?_
      rw[Wx]
      exact wpS_modify (wpS_pure ⟨same3.g _,po3,na3,nb3,_,rfl,mi3,hna3,hnb3,by lia⟩)
     ·obtain⟨d1,d2⟩:=d
      dsimp only at hd
      subst hd
      exact wpS_pure ⟨same3,po3,rfl,pm,sr⟩
   ·obtain⟨d1,d2⟩:=d
    dsimp only at hd
    subst hd
    exact wpS_pure ⟨same2,po2,rfl,pm,sr⟩
end
section
variable {prog:Program} {w:World} {A:Around} {E:ZVP} {s:Shared} {f:Nat->Keyed} {r:Nat->Int} {n:Nat} {κ:SortKind}
noncomputable abbrev kv(r:Nat->Int)(p:List Nat)(k:Nat):Int:=r (p.getD k 0)
theorem Yab{a:Array Nat}{k:Nat}:a.toList.getD k 0=(a[k]?).getD 0:=by
 rw[ub,xJ]
theorem kbd{p:List Nat}{a:Array Keyed}{b:Array Nat}(hs:a.size=b.size)(h:∀k,k<a.size->a[k]?=(b[k]?).map f):a=ar f b.toList:=by
 apply Array.ext_getElem?
 intro k
 by_cases c:k<a.size
 ·rw[h k c];simp[ar]
 ·rw[uo (by lia),uo (by rw[Xf,uU];lia)]
theorem ar_get?(p:List Nat)(k:Nat):(ar f p)[k]?=(p.toArray[k]?).map f:=by simp[ar]
theorem ja2{p:List Nat}{i j:Nat}(hj:j<=p.length):∃p',mirror (ar f p) i j ((j - i) / 2)=ar f p'/\p'.Perm p/\∀k,p'.getD k 0=if i<=k/\k<j then p.getD (i+j - 1 - k) 0 else p.getD k 0:=by
 refine⟨(mirror p.toArray i j ((j - i) / 2)).toList,kbd (p:=p) (by rw[mirror_size,mirror_size,Xf];simp) fun k _=>?_,?_,fun k=>?_⟩
 ·rw[getElem?_mirror_all (by rw[Xf];exact hj),getElem?_mirror_all (by simpa using hj)]
  split<;>exact ar_get? _ _
 ·have:=mirror_perm p.toArray i j ((j - i) / 2)
  simpa using yX.mp this
 ·rw[Yab,getElem?_mirror_all (by simpa using hj)]
  split<;>simp[ub]
theorem ZaW{p:List Nat}{src d:Nat}(hs:src<p.length)(hd:d<=src):∃p',bubble (ar f p) src d=ar f p'/\p'.Perm p/\∀k,p'.getD k 0=if k=src - d then p.getD src 0 else if src - d<k/\k<=src then p.getD (k - 1) 0 else p.getD k 0:=by
 refine⟨(bubble p.toArray src d).toList,kbd (p:=p) (by rw[bubble_size,bubble_size,Xf];simp) fun k _=>?_,?_,fun k=>?_⟩
 ·rw[getElem?_bubble (by rw[Xf];exact hs) d hd,getElem?_bubble (by simpa using hs) d hd]
  split
  ·exact ar_get? _ _
  ·split<;>exact ar_get? _ _
 ·have:=bubble_perm p.toArray src d
  simpa using yX.mp this
 ·rw[Yab,getElem?_bubble (by simpa using hs) d hd]
  split
  ·simp[ub]
  ·split<;>simp[ub]
structure RunS(f:Nat->Keyed)(st:SortSt)(lo:Nat)(p:List Nat)(st':SortSt)(p':List Nat):Prop where
 kind:kindOf st'=kindOf st
 pend:pendingOf st'=pendingOf st
 fail:failedOf st'=failedOf st
 arr:arrOf st'=ar f p'
 perm:p'.Perm p
 pre:∀k,k<lo->p'.getD k 0=p.getD k 0
theorem RunS.len{st st':SortSt}{lo:Nat}{p p':List Nat}(h:RunS f st lo p st' p'):p'.length=p.length:=h.perm.length_eq
theorem RunS.set{st st':SortSt}{lo:Nat}{p p' p2:List Nat}(h:RunS f st lo p st' p')(pm:p2.Perm p')(pr:∀k,k<lo->p2.getD k 0=p'.getD k 0):RunS f st lo p (setArr st' (ar f p2)) p2:=
 ⟨h.kind,h.pend,h.fail,rfl,pm.trans h.perm,fun k hk=>(pr k hk).trans (h.pre k hk)⟩
theorem qS{p:List Nat}{i j:Nat}{st:SortSt}{Q:Option Bool->SortSt->Prop}(L:jD prog w A E s f r n κ)(hk:kindOf st=κ)(ha:arrOf st=ar f p)(hp:∀x∈p,x<n)(hi:i<p.length)(hj:j<p.length)(q:Q (some (decide (kv r p i<kv r p j))) st) :
  wpS (model prog w) A E s (ltAt' i j) Q st:=by
 rw[ltAt'_eq]
 refine wpS_bind (wpS_get ?_)
 dsimp only
 rw[ha]
 exact wpS_bind (qg hi (wpS_bind (qg hj (L _ _ (hp _ (qk hi)) (hp _ (qk hj)) st Q hk q))))
theorem Y3{p:List Nat}{i j:Nat}{st:SortSt}{Q:Unit->SortSt->Prop}(ha:arrOf st=ar f p)(hj:j<=p.length)
  (q:∀p',p'.Perm p->(∀k,p'.getD k 0=if i<=k/\k<j then p.getD (i+j - 1 - k) 0 else p.getD k 0)->Q () (setArr st (ar f p'))):wpS (model prog w) A E s (reverseSlice' i j) Q st:=by
 rw[reverseSlice'_eq]
 refine wpS_modify ?_
 rw[ha]
 obtain⟨p',e,pm,g⟩:=ja2 (f:=f) (i:=i) hj
 rw[e]
 exact q p' pm g
def Sg(r:Nat->Int)(p:List Nat)(lo m:Nat):Prop:=∀i j,i<=j->j<m->kv r p (lo+i)<=kv r p (lo+j)
def Fl(r:Nat->Int)(p:List Nat)(lo m:Nat):Prop:=∀i j,i<=j->j<m->kv r p (lo+j)<=kv r p (lo+i)
def Lv(r:Nat->Int)(p:List Nat)(lo a b:Nat):Prop:=∀k,a<=k->k<b->kv r p (lo+k)=kv r p (lo+b - 1)
theorem qaA{p p':List Nat}{lo a b i j:Nat}(h:Lv r p lo a b)(hi:i=lo+a)(hj:j=lo+b)(g:∀k,p'.getD k 0=if i<=k/\k<j then p.getD (i+j - 1 - k) 0 else p.getD k 0)(k:Nat):kv r p' k=kv r p k:=by
 subst hi hj
 unfold kv
 rw[g k]
 by_cases c:lo+a<=k/\k<lo+b
 ·rw[if_pos c]
  have h1:=h (a+b - 1 - (k - lo)) (by lia) (by lia)
  have h2:=h (k - lo) (by lia) (by lia)
  unfold kv at h1 h2
  rw[show lo+a+(lo+b) - 1 - k=lo+(a+b - 1 - (k - lo)) by lia,h1,←h2,show lo+(k - lo)=k by lia]
 ·rw[if_neg c]
theorem YaJ{p:List Nat}{lo nrem m:Nat}{st':SortSt}{Q:Option (Option Nat)×Nat->SortSt->Prop}(L:jD prog w A E s f r n κ)(hk:kindOf st'=κ)(ha:arrOf st'=ar f p)(hp:∀x∈p,x<n)(hl:lo+nrem<=p.length)(h1:1<=m)(hm:m<=nrem)(hs:Sg r p lo m)
  (h:∀m',m<=m'->m'<=nrem->Sg r p lo m'->(m'<nrem->kv r p (lo+m')<kv r p (lo+m' - 1))->Q (none,m') st') :
  wpS (model prog w) A E s (forIn [m:nrem] ((none,m):Option (Option Nat)×Nat) fun _ c=>do
   let some smaller ←ltAt' (lo+c.2) (lo+c.2 - 1) | pure (.done (some none,c.2))
   if smaller then pure (.done (none,c.2)) else pure (.yield (none,c.2+1))) Q st':=by
 refine wpS_mono (wpS_forRange (I:=fun x c st2=>st2=st'/\c=(none,x)/\m<=x/\Sg r p lo x) (Q:=fun c st2=>st2=st'/\∃m',c=(none,m')/\m<=m'/\m'<=nrem/\Sg r p lo m'/\(m'<nrem->kv r p (lo+m')<kv r p (lo+m' - 1))) ?step ?fin ⟨rfl,rfl,uJ _,hs⟩) ?post
 case fin=>
  rintro c st2 ⟨rfl,rfl,z1,z2⟩
  rw[Nat.max_eq_right hm]at *
  exact⟨rfl,nrem,rfl,z1,uJ _,z2,fun z=>absurd z (u7 _)⟩
 case post=>
  rintro c st2 ⟨rfl,m',rfl,z1,z2,z3,z4⟩
  exact h m' z1 z2 z3 z4
 case step=>
  rintro x c st2 _ hx ⟨rfl,rfl,z1,z2⟩
  refine wpS_bind (qS L hk ha hp (by show lo+x<_;lia) (by show lo+x - 1<_;lia) ?_)
  dsimp only
  by_cases lt:kv r p (lo+x)<kv r p (lo+x - 1)
  ·exact Wc (decide_eq_true lt) (wpS_pure ⟨rfl,x,rfl,z1,by lia,z2,fun _=>lt⟩)
  ·refine Yc (by rw[decide_eq_false lt];exact uK) (wpS_pure ⟨rfl,rfl,by lia,fun i j hij hj=>?_⟩)
   by_cases c:j=x
   ·by_cases c2:i=x
    ·rw[c,c2];exact xx _
    ·have:=z2 i (x - 1) (by lia) (by lia)
     rw[show lo+(x - 1)=lo+x - 1 by lia]at this
     rw[c];lia
   ·exact z2 i j hij (by lia)
noncomputable def Y4(lo m nrem:Nat):StateT SortSt Sem (Option Nat):=do
 reverseSlice' lo (lo+m)
 let c ←forIn [m:nrem] ((none,m):Option (Option Nat)×Nat) fun _ c=>do
   let some smaller ←ltAt' (lo+c.2) (lo+c.2 - 1) | pure (.done (some none,c.2))
   if smaller then pure (.done (none,c.2)) else pure (.yield (none,c.2+1))
 match c.1 with
 | some r=>pure r
 | none=>pure (some c.2)
noncomputable def Zbe(lo:Nat)(c:Option (Option Nat)×Nat×Nat):StateT SortSt Sem (ForInStep (Option (Option Nat)×Nat×Nat)):=do
 let some smaller ←ltAt' (lo+c.2.1) (lo+c.2.1 - 1) | pure (.done (some none,c.2.1,c.2.2))
 if smaller then
  if c.2.2 > 0 then
   reverseSlice' (lo+c.2.1 - (c.2.2+1)) (lo+c.2.1)
   pure (.yield (none,c.2.1+1,0))
  else pure (.yield (none,c.2.1+1,0))
 else
  let some larger ←ltAt' (lo+c.2.1 - 1) (lo+c.2.1) | pure (.done (some none,c.2.1,c.2.2))
  if larger then pure (.done (none,c.2.1,c.2.2)) else pure (.yield (none,c.2.1+1,c.2.2+1))
noncomputable def Z4(lo m nrem:Nat):StateT SortSt Sem (Option Nat):=do
 rule "list.sort.descending-run"
 let c ←forIn [m+1:nrem] ((none,m+1,0):Option (Option Nat)×Nat×Nat) fun _ c=>Zbe lo c
 match c.1 with
 | some r=>pure r
 | none=>
  if c.2.2 > 0 then
   reverseSlice' (lo+c.2.1 - (c.2.2+1)) (lo+c.2.1)
   Y4 lo c.2.1 nrem
  else Y4 lo c.2.1 nrem
theorem jar{α:Type}{x y:StateT SortSt Sem α}{st:SortSt}{Q:α->SortSt->Prop}(e:x=y)(h:wpS (model prog w) A E s y Q st):wpS (model prog w) A E s x Q st:=by rw[e];exact h
section
variable {p:List Nat} {lo nrem:Nat} {st st':SortSt} {p':List Nat}
theorem Wao{Q:Option Nat->SortSt->Prop}(L:jD prog w A E s f r n κ)(hk:kindOf st=κ)(hp:∀x∈p,x<n)(hl:lo+nrem<=p.length)(R:RunS f st lo p st' p'){m:Nat}(h1:1<=m)(hm:m<=nrem)(hf:Fl r p' lo m)
  (h:∀m p' st',RunS f st lo p st' p'->1<=m->m<=nrem->Sg r p' lo m->Q (some m) st'):wpS (model prog w) A E s (Y4 lo m nrem) Q st':=by
 unfold Y4
 have ln:=R.len
 refine wpS_bind (Y3 R.arr (by lia) fun p2 pm g=>?_)
 have R2:=R.set pm fun k hk=>by rw[g k,if_neg (by lia)]
 have ln2:=R2.len
 refine wpS_bind (YaJ L (R2.kind.trans hk) R2.arr (fun x hx=>hp x (R2.perm.mem_iff.mp hx)) (by lia) h1 hm (fun i j hij hj=>?_) fun m' m1 m2 sg _=>?_)
 ·unfold kv
  rw[g,g,if_pos (by lia),if_pos (by lia)]
  have:=hf (m - 1 - j) (m - 1 - i) (by lia) (by lia)
  unfold kv at this
  rw[show lo+(lo+m) - 1 - (lo+i)=lo+(m - 1 - i) by lia,show lo+(lo+m) - 1 - (lo+j)=lo+(m - 1 - j) by lia]
  exact this
 ·exact wpS_pure (h m' p2 _ R2 (by lia) m2 sg)
theorem waq{Q:Option Nat->SortSt->Prop}(L:jD prog w A E s f r n κ)(hk:kindOf st=κ)(hp:∀x∈p,x<n)(hl:lo+nrem<=p.length)(R:RunS f st lo p st' p'){m:Nat}(h1:1<=m)(hm:m<nrem)(hf:Fl r p' lo (m+1))
  (h:∀m p' st',RunS f st lo p st' p'->1<=m->m<=nrem->Sg r p' lo m->Q (some m) st'):wpS (model prog w) A E s (Z4 lo m nrem) Q st':=by
 unfold Z4
 refine wpS_bind (wpS_lift (wpAny_rule ⟨rfl,?_⟩))
 refine wpS_bind (wpS_mono (wpS_forRange (I:=fun x c st2=>∃p2 q,c=(none,x,q)/\RunS f st lo p st2 p2/\q+1<=x/\Fl r p2 lo x/\Lv r p2 lo (x - (q+1)) x)
  (Q:=fun c st2=>∃p2 x q,c=(none,x,q)/\RunS f st lo p st2 p2/\q+1<=x/\x<=nrem/\Fl r p2 lo x/\Lv r p2 lo (x - (q+1)) x) ?step ?fin ⟨p',0,rfl,R,by lia,hf,fun k z1 z2=>by rw[show lo+k=lo+(m+1) - 1 by lia]⟩) ?post)
 case fin=>
  rintro c st2 ⟨p2,q,rfl,z1,z2,z3,z4⟩
  rw[Nat.max_eq_right (by lia)]at *
  exact⟨p2,_,q,rfl,z1,z2,uJ _,z3,z4⟩
 case post=>
  rintro c st2 ⟨p2,x,q,rfl,z1,z2,z3,z4,z5⟩
  dsimp only
  have ln:=z1.len
  by_cases c:q > 0
  ·refine Wc c (wpS_bind (Y3 z1.arr (by lia) fun p3 pm g=>?_))
   have ev:=qaA (r:=r) z5 (by lia) rfl g
   refine Wao L hk hp hl (z1.set pm fun k hk=>by rw[g k,if_neg (by lia)]) (by lia) z3 (fun i j hij hj=>?_) h
   rw[ev,ev];exact z4 i j hij hj
  ·exact Yc c (Wao L hk hp hl z1 (by lia) z3 z4 h)
 case step=>
  rintro x c st2 hx1 hx ⟨p2,q,rfl,z1,z2,z3,z4⟩
  have ln:=z1.len
  have hp2:∀y∈p2,y<n:=fun y hy=>hp y (z1.perm.mem_iff.mp hy)
  unfold Zbe
  dsimp only
  refine wpS_bind (qS L (z1.kind.trans hk) z1.arr hp2 (by lia) (by lia) ?_)
  dsimp only
  have fl1:kv r p2 (lo+x)<=kv r p2 (lo+x - 1)->Fl r p2 lo (x+1):=fun le i j hij hj=>by
   by_cases c:j=x
   ·by_cases c2:i=x
    ·rw[c,c2];exact xx _
    ·have:=z3 i (x - 1) (by lia) (by lia)
     rw[show lo+(x - 1)=lo+x - 1 by lia]at this
     rw[c];lia
   ·exact z3 i j hij (by lia)
  have lv1:∀p3,Lv r p3 lo (x+1 - (0+1)) (x+1):=fun p3 k y1 y2=>by rw[show lo+k=lo+(x+1) - 1 by lia]
  by_cases lt:kv r p2 (lo+x)<kv r p2 (lo+x - 1)
  ·refine Wc (decide_eq_true lt) ?_
   by_cases c:q > 0
   ·refine Wc c (wpS_bind (Y3 z1.arr (by lia) fun p3 pm g=>?_))
    have ev:=qaA (r:=r) z4 (by lia) rfl g
    refine wpS_pure ⟨p3,0,rfl,z1.set pm fun k hk=>by rw[g k,if_neg (by lia)],by lia,fun i j hij hj=>?_,lv1 p3⟩
    rw[ev,ev];exact fl1 (by lia) i j hij hj
   ·exact Yc c (wpS_pure ⟨p2,0,rfl,z1,by lia,fl1 (by lia),lv1 p2⟩)
  ·refine Yc (by rw[decide_eq_false lt];exact uK) ?_
   refine wpS_bind (qS L (z1.kind.trans hk) z1.arr hp2 (by lia) (by lia) ?_)
   dsimp only
   by_cases gt:kv r p2 (lo+x - 1)<kv r p2 (lo+x)
   ·exact Wc (decide_eq_true gt) (wpS_pure ⟨p2,x,q,rfl,z1,z2,by lia,z3,z4⟩)
   ·refine Yc (by rw[decide_eq_false gt];exact uK) (wpS_pure ⟨p2,q+1,rfl,z1,by lia,fl1 (by lia),fun k y1 y2=>?_⟩)
    rw[show lo+(x+1) - 1=lo+x by lia]
    by_cases y:k=x
    ·rw[y]
    ·have:=z4 k (by lia) (by lia)
     lia
theorem waU{Q:Option Nat->SortSt->Prop}(L:jD prog w A E s f r n κ)(hk:kindOf st=κ)(ha:arrOf st=ar f p)(hp:∀x∈p,x<n)(hl:lo+nrem<=p.length)(h1:1<=nrem)
  (h:∀m p' st',RunS f st lo p st' p'->1<=m->m<=nrem->Sg r p' lo m->Q (some m) st'):wpS (model prog w) A E s (countRun' lo nrem) Q st:=by
 have R0:RunS f st lo p st p:=⟨rfl,rfl,rfl,ha,List.Perm.refl _,fun _ _=>rfl⟩
 rw[countRun'_eq]
 refine wpS_bind (YaJ (m:=1) L hk ha hp hl (uJ _) h1 (fun i j hij hj=>by rw[show i=j by lia];exact xx _) fun m m1 m2 sg lt=>?_)
 dsimp only
 by_cases c:m=nrem
 ·exact Wc (by simpa using c) (wpS_pure (h m p st R0 m1 m2 sg))
 refine Yc (by simpa using c) ?_
 have lt:=lt (by lia)
 by_cases c1:m > 1
 ·refine Wc c1 ?_
  refine wpS_bind (qS L hk ha hp (by lia) (by lia) ?_)
  dsimp only
  by_cases ro:kv r p lo<kv r p (lo+m - 1)
  ·exact Wc (decide_eq_true ro) (wpS_pure (h m p st R0 m1 m2 sg))
  ·refine Yc (by rw[decide_eq_false ro];exact uK) ?_
   have lv:Lv r p lo 0 m:=fun k y1 y2=>by
    have a1:=sg 0 k (by lia) y2
    have a2:=sg k (m - 1) (by lia) (by lia)
    rw[show lo+(m - 1)=lo+m - 1 by lia]at a2
    rw[xz]at a1
    lia
   refine wpS_bind (Y3 ha (by lia) fun p2 pm g=>?_)
   have ev:=qaA (r:=r) lv (by lia) rfl g
   refine jar (y:=Z4 lo m nrem) (by
    unfold Z4
    congr 1
    funext u
    congr 1
    funext c
    obtain⟨c1,c2,c3⟩:=c
    cases c1 with
    | some r=>rfl
    | none=>
     dsimp only
     unfold Y4
     split
     ·congr 1;funext v;congr 1;funext v2;congr 1;funext c4;obtain⟨a,b⟩:=c4;cases a<;>rfl
     ·congr 1;funext v2;congr 1;funext c4;obtain⟨a,b⟩:=c4;cases a<;>rfl) (waq L hk hp hl (R0.set pm fun k hk=>by rw[g k,if_neg (by lia)]) m1 (by lia) (fun i j hij hj=>?_) h)
   rw[ev,ev]
   by_cases y:j=m
   ·by_cases y2:i=m
    ·rw[y,y2];exact xx _
    ·have:=lv i (by lia) (by lia)
     rw[y];lia
   ·have a1:=lv i (by lia) (by lia)
    have a2:=lv j (by lia) (by lia)
    lia
 ·refine Yc c1 ?_
  refine jar (y:=Z4 lo m nrem) (by
    unfold Z4
    congr 1
    funext u
    congr 1
    funext c
    obtain⟨c1,c2,c3⟩:=c
    cases c1 with
    | some r=>rfl
    | none=>
     dsimp only
     unfold Y4
     split
     ·congr 1;funext v;congr 1;funext v2;congr 1;funext c4;obtain⟨a,b⟩:=c4;cases a<;>rfl
     ·congr 1;funext v2;congr 1;funext c4;obtain⟨a,b⟩:=c4;cases a<;>rfl) (waq L hk hp hl R0 m1 (by lia) (fun i j hij hj=>?_) h)
  by_cases y:i=j
  ·rw[y];exact xx _
  ·rw[show i=0 by lia,show j=m by lia,xz]
   rw[show lo+m - 1=lo by lia]at lt
   exact yS lt
end
end
section
variable {prog:Program} {w:World} {A:Around} {E:ZVP} {s:Shared} {f:Nat->Keyed} {r:Nat->Int} {n:Nat} {κ:SortKind}
variable {p:List Nat} {lo:Nat} {st st':SortSt} {p':List Nat}
theorem Zba{Q:Bool->SortSt->Prop}{m ok:Nat}(L:jD prog w A E s f r n κ)(hk:kindOf st=κ)(hp:∀x∈p,x<n)(hl:lo+m<=p.length)(R:RunS f st lo p st' p')(h1:1<=m)(hm:ok<=m)(hs:Sg r p' lo ok)
  (h:∀p' st',RunS f st lo p st' p'->Sg r p' lo m->Q true st'):wpS (model prog w) A E s (binarySort' lo m ok) Q st':=by
 rw[binarySort'_eq]
 refine wpS_bind (wpS_mono (wpS_forRange (I:=fun k c st2=>c=(none,())/\∃p2,RunS f st lo p st2 p2/\Sg r p2 lo k) (Q:=fun c st2=>c=(none,())/\∃p2,RunS f st lo p st2 p2/\Sg r p2 lo m) ?step ?fin ⟨rfl,p',R,fun i j hij hj=>?init⟩) ?post)
 case init=>
  by_cases c:j<ok
  ·exact hs i j hij c
  ·rw[show i=j by lia];exact xx _
 case fin=>
  rintro c st2 ⟨rfl,p2,R2,sg⟩
  rw[show max (max ok 1) m=m by lia]at sg
  exact⟨rfl,p2,R2,sg⟩
 case post=>
  rintro c st2 ⟨rfl,p2,R2,sg⟩
  exact wpS_pure (h p2 st2 R2 sg)
 case step=>
  rintro k c st2 hk1 hk2 ⟨rfl,p2,R2,sg⟩
  have ln:=R2.len
  have hp2:∀y∈p2,y<n:=fun y hy=>hp y (R2.perm.mem_iff.mp hy)
  refine wpS_bind (wpS_mono (wpS_forRange (I:=fun x c st3=>st3=st2/\∃l u,c=(none,l,u)/\l<=u/\u<=k/\(∀i,i<l->kv r p2 (lo+i)<=kv r p2 (lo+k))/\(∀i,u<=i->i<k->kv r p2 (lo+k)<kv r p2 (lo+i))/\(u - l)+x<=k)
   (Q:=fun c st3=>st3=st2/\∃l u,c=(none,l,u)/\l=u/\u<=k/\(∀i,i<l->kv r p2 (lo+i)<=kv r p2 (lo+k))/\(∀i,u<=i->i<k->kv r p2 (lo+k)<kv r p2 (lo+i))) ?step2 ?fin2 ⟨rfl,0,k,rfl,by lia,by lia,fun i z=>absurd z (by lia),fun i z1 z2=>absurd z1 (by lia),by lia⟩) ?post2)
  case fin2=>
   rintro c st3 ⟨rfl,l,u,rfl,z1,z2,z3,z4,z5⟩
   exact⟨rfl,l,u,rfl,by lia,z2,z3,z4⟩
  case step2=>
   rintro x c st3 _ hx ⟨rfl,l,u,rfl,z1,z2,z3,z4,z5⟩
   dsimp only
   by_cases c:l ≥ u
   ·exact Wc c (wpS_pure ⟨rfl,l,u,rfl,by lia,z2,z3,z4⟩)
   ·refine Yc c (wpS_bind (qS L (R2.kind.trans hk) R2.arr hp2 (by lia) (by lia) ?_))
    dsimp only
    by_cases lt:kv r p2 (lo+k)<kv r p2 (lo+(l+u) / 2)
    ·refine Wc (decide_eq_true lt) (wpS_pure ⟨rfl,l,_,rfl,by lia,by lia,z3,fun i y1 y2=>?_,by lia⟩)
     have:=sg ((l+u) / 2) i y1 y2
     lia
    ·refine Yc (by rw[decide_eq_false lt];exact uK) (wpS_pure ⟨rfl,_,u,rfl,by lia,z2,fun i y=>?_,z4,by lia⟩)
     have:=sg i ((l+u) / 2) (by lia) (by lia)
     lia
  case post2=>
   rintro c st3 ⟨rfl,l,u,rfl,z1,z2,z3,z4⟩
   subst z1
   dsimp only
   rw[moveDown'_eq]
   refine wpS_bind (wpS_modify (wpS_pure ⟨rfl,?_⟩))
   rw[R2.arr,show lo+k - (lo+l)=k - l by lia]
   obtain⟨p3,e,pm,g⟩:=ZaW (f:=f) (p:=p2) (src:=lo+k) (d:=k - l) (by lia) (by lia)
   rw[e]
   rw[show lo+k - (k - l)=lo+l by lia]at g
   refine⟨p3,R2.set pm fun j hj=>by rw[g j,if_neg (by lia),if_neg (by lia)],fun i j hij hj=>?_⟩
   have vl:∀i,i<l->kv r p3 (lo+i)=kv r p2 (lo+i):=fun i hi=>by
    unfold kv;rw[g,if_neg (by lia),if_neg (by lia)]
   have vm:kv r p3 (lo+l)=kv r p2 (lo+k):=by
    unfold kv;rw[g,if_pos rfl]
   have vg:∀i,l<i->i<=k->kv r p3 (lo+i)=kv r p2 (lo+(i - 1)):=fun i hi hi2=>by
    unfold kv;rw[g,if_neg (by lia),if_pos (by lia),show lo+i - 1=lo+(i - 1) by lia]
   by_cases ci:i<l
   ·rw[vl i ci]
    by_cases cj:j<l
    ·rw[vl j cj];exact sg i j hij (by lia)
    ·by_cases cj2:j=l
     ·rw[cj2,vm];exact z3 i ci
     ·rw[vg j (by lia) (by lia)];exact sg i (j - 1) (by lia) (by lia)
   ·by_cases ci2:i=l
    ·rw[ci2,vm]
     by_cases cj2:j=l
     ·rw[cj2,vm];exact xx _
     ·rw[vg j (by lia) (by lia)];exact yS (z4 _ (by lia) (by lia))
    ·rw[vg i (by lia) (by lia),vg j (by lia) (by lia)]
     exact sg _ _ (by lia) (by lia)
end
theorem vaG(i:Nat):mergeAt' i=(do
 let s ←get
 let (some (sa,na,power),some (sb,nb,_)):=((pendingOf s)[i]?,(pendingOf s)[i+1]?) | unsupported "internal:list.sort.pending"
 set (setPending s (((pendingOf s).setIfInBounds i (sa,na+nb,power)).eraseIdxIfInBounds (i+1)))
 let some k ←wo false (←elem' (arrOf s) sb) (arrOf s) sa na 0 | return false
 let (sa,na):=(sa+k,na - k)
 if na==0 then return true
 let some nb ←wo true (←elem' (arrOf s) (sa+na - 1)) (arrOf s) sb nb (nb - 1) | return false
 if nb==0 then return true
 let x:=(arrOf s).extract sa sb
 let y:=(arrOf s).extract sb (sb+nb)
 let merged ←if na<=nb then k8 x y else Wab x y
 modify fun s=>setArr s (merged.toList.zipIdx.foldl (fun a (p,j)=>a.setIfInBounds (sa+j) p) (arrOf s))
 return (failedOf (←get)).isNone):=rfl
section
variable {prog:Program} {w:World} {A:Around} {E:ZVP} {s:Shared} {f:Nat->Keyed} {r:Nat->Int} {n:Nat} {κ:SortKind} {p:List Nat} {st:SortSt}
noncomputable abbrev sgl(p:List Nat)(lo m:Nat):List Nat:=(p.drop lo).take m
theorem qG{lo m:Nat}(h:lo+m<=p.length):(sgl p lo m).length=m:=by simp;lia
theorem XA{lo m i:Nat}(h:lo+m<=p.length)(hi:i<m):(sgl p lo m).getD i 0=p.getD (lo+i) 0:=by
 simp[yg,hi]
theorem vK{lo m:Nat}(h:lo+m<=p.length):Sg r p lo m↔SrtL r (sgl p lo m):=by
 constructor
 ·intro sg
  refine xH.mpr fun i j hi hj hij=>?_
  rw[qG h]at hi hj
  have:=sg i j (by lia) hj
  unfold kv at this
  rw[←XA h hi,←XA h hj]at this
  simpa[hi,hj,qG h] using this
 ·intro sr i j hij hj
  unfold kv
  rw[←XA h (by lia:i<m),←XA h hj]
  exact sr.at_ hij (by rw[qG h];exact hj)
theorem ja0{lo a b:Nat}:sgl p lo (a+b)=sgl p lo a++sgl p (lo+a) b:=by
 unfold sgl
 rw[List.take_add,List.drop_drop]
theorem XS{lo m x:Nat}(h:lo+m<=p.length)(hx:x∈sgl p lo m):∃i,i<m/\x=p.getD (lo+i) 0:=by
 obtain⟨i,hi,e⟩:=yC.mp hx
 rw[qG h]at hi
 refine⟨i,hi,?_⟩
 rw[←XA h hi,←e]
 simp[hi,qG h]
theorem jaz(q:List Nat):∀(po p:List Nat) (a j:Nat),a+j+po.length<=p.length →
  ((po.map f).zipIdx j).foldl (fun(x:Array Keyed) (y:Keyed×Nat)=>x.setIfInBounds (a+y.2) y.1) (ar f p)=ar f (p.take (a+j)++po++p.drop (a+j+po.length))
 | [],p,a,j,_=>by simp
 | x::po,p,a,j,h=>by
  rw[uH,List.zipIdx_cons,List.foldl_cons]
  have e:(ar f p).setIfInBounds (a+j) (f x)=ar f (p.set (a+j) x):=by
   unfold ar
   rw[List.setIfInBounds_toArray,List.map_set]
  rw[uj]at h
  dsimp only
  rw[e,jaz q po (p.set (a+j) x) a (j+1) (by rw[yN];lia)]
  congr 1
  rw[uj,List.drop_set_of_lt (by lia),show a+(j+1)=a+j+1 by lia,List.take_set,show a+j+1+po.length=a+j+(po.length+1) by lia]
  congr 1
  have h2:a+j<p.length:=by lia
  rw[show p.take (a+j+1)=p.take (a+j)++[p[a+j]] by rw[List.take_append_getElem h2]]
  rw[List.set_append_right _ _ (by rw[uX];lia)]
  have:a+j - (p.take (a+j)).length=0:=by rw[uX];lia
  rw[this]
  simp
end
section
variable {prog:Program} {w:World} {A:Around} {E:ZVP} {s:Shared} {f:Nat->Keyed} {r:Nat->Int} {n:Nat} {κ:SortKind} {p:List Nat} {st:SortSt}
theorem wbk{st2:SortSt}{Q:PUnit->SortSt->Prop}(h:Q ⟨⟩ st2):wpS (model prog w) A E s (set st2:StateT SortSt Sem PUnit) Q st:=by
 unfold wpS;rw[StateT.run_set];exact wpAny_pure ⟨rfl,h⟩
theorem WaI{i sa na pw nb pw2:Nat}{Q:Bool->SortSt->Prop}(L:jD prog w A E s f r n κ)(hk:xY st=κ)(ha:arrOf st=ar f p)(hf:failedOf st=none)(hp:∀x∈p,x<n)(h1:(pendingOf st)[i]?=some (sa,na,pw))(h2:(pendingOf st)[i+1]?=some (sa+na,nb,pw2))
  (na0:0<na) (nb0:0<nb) (hl:sa+na+nb<=p.length) (s1:Sg r p sa na) (s2:Sg r p (sa+na) nb)
  (h:∀p' (st':SortSt),xY st'=xY st->failedOf st'=none->pendingOf st'=((pendingOf st).setIfInBounds i (sa,na+nb,pw)).eraseIdxIfInBounds (i+1)->arrOf st'=ar f p'->p'.Perm p->(∀k,(k<sa\/sa+na+nb<=k)->p'.getD k 0=p.getD k 0)->Sg r p' sa (na+nb)->Q true st') :
  wpS (model prog w) A E s (mergeAt' i) Q st:=by
 rw[vaG]
 refine wpS_bind (wpS_get ?_)
 rw[h1,h2]
 dsimp only
 refine wpS_bind (wbk ?_)
 rw[ha]
 generalize e1:setPending st (((pendingOf st).setIfInBounds i (sa,na+nb,pw)).eraseIdxIfInBounds (i+1))=st1
 have k1:xY st1=xY st:=by rw[←e1]
 have f1:failedOf st1=none:=by rw[←e1];exact hf
 have p1:pendingOf st1=((pendingOf st).setIfInBounds i (sa,na+nb,pw)).eraseIdxIfInBounds (i+1):=by rw[←e1]
 have a1:arrOf st1=ar f p:=by rw[←e1];exact ha
 refine wpS_bind (qg (by lia) ?_)
 refine wpS_bind (j9 (left:=false) L (k1.trans hk) hp (hp _ (qk (by lia))) s1 (by lia) na0 fun k kk k2 k3=>?_)
 have k2:∀i,i<k->kv r p (sa+i)<=kv r p (sa+na):=fun i hi=>by have:=k2 i hi;rw[if_neg uK]at this;exact this
 have k3:∀i,k<=i->i<na->kv r p (sa+na)<kv r p (sa+i):=fun i hi hi2=>by have:=k3 i hi hi2;rw[if_neg uK]at this;exact this
 dsimp only
 by_cases c1:na - k=0
 ·refine Wc (by simpa using c1) (wpS_pure (h p st1 k1 f1 p1 a1 (List.Perm.refl _) (fun _ _=>rfl) fun i j hij hj=>?_))
  by_cases cj:j<na
  ·exact s1 i j hij cj
  ·have b1:=s2 0 (j - na) (by lia) (by lia)
   rw[xz,show sa+na+(j - na)=sa+j by lia]at b1
   by_cases ci:i<na
   ·have:=k2 i (by lia);lia
   ·have b2:=s2 (i - na) (j - na) (by lia) (by lia)
    rw[show sa+na+(j - na)=sa+j by lia,show sa+na+(i - na)=sa+i by lia]at b2
    exact b2
 refine Yc (by simpa using c1) ?_
 refine wpS_bind (qg (by lia) ?_)
 have ek:sa+k+(na - k) - 1=sa+(na - 1):=by lia
 rw[ek]
 refine wpS_bind (j9 (left:=true) L (k1.trans hk) hp (hp _ (qk (by lia))) s2 (by lia) (by lia) fun m mm m2 m3=>?_)
 have m2:∀i,i<m->kv r p (sa+na+i)<kv r p (sa+(na - 1)):=fun i hi=>by have:=m2 i hi;rw[if_pos rfl]at this;exact this
 have m3:∀i,m<=i->i<nb->kv r p (sa+(na - 1))<=kv r p (sa+na+i):=fun i hi hi2=>by have:=m3 i hi hi2;rw[if_pos rfl]at this;exact this
 dsimp only
 by_cases c2:m=0
 ·have:=m3 0 (by lia) nb0
  have:=k3 (na - 1) (by lia) (by lia)
  rw[xz]at *
  lia
 refine Yc (by simpa using c2) ?_
 rw[jN,jN,show sa+na - (sa+k)=na - k by lia,show sa+na+m - (sa+na)=m by lia]
 have lpa:=qG (p:=p) (lo:=sa+k) (m:=na - k) (by lia)
 have lpb:=qG (p:=p) (lo:=sa+na) (m:=m) (by lia)
 have srA:SrtL r (sgl p (sa+k) (na - k)):=(vK (by lia)).mp fun i j hij hj=>by
  have:=s1 (k+i) (k+j) (by lia) (by lia)
  rw[←yO,←yO]at this
  exact this
 have srB:SrtL r (sgl p (sa+na) m):=(vK (by lia)).mp fun i j hij hj=>s2 i j hij (by lia)
 have inA:∀x∈sgl p (sa+k) (na - k),∃i,k<=i/\i<na/\x=p.getD (sa+i) 0:=fun x hx=>by
  obtain⟨i,hi,e⟩:=XS (by lia) hx
  exact⟨k+i,by lia,by lia,by rw[e,yO]⟩
 have inB:∀x∈sgl p (sa+na) m,∃i,i<m/\x=p.getD (sa+na+i) 0:=fun x hx=>XS (by lia) hx
 have fin:∀po st',po.Perm (sgl p (sa+k) (na - k)++sgl p (sa+na) m)->SrtL r po->SameS st1 st'->wpS (model prog w) A E s (do
   modify fun s=>setArr s ((ar f po).toList.zipIdx.foldl (fun a (p,j)=>a.setIfInBounds (sa+k+j) p) (arrOf s))
   return (failedOf (←get)).isNone) Q st':=by
  intro po st' pm sr same
  have lpo:po.length=na - k+m:=by
   have:=pm.length_eq
   rw[uE,lpa,lpb]at this
   exact this
  refine wpS_bind (wpS_modify (wpS_bind (wpS_get ?_)))
  have pb:=jaz (f:=f) [] po p (sa+k) 0 (by lia)
  rw[xz]at pb
  have ep:(ar f po).toList.zipIdx=(po.map f).zipIdx 0:=rfl
  rw[same.arr,a1,ep,pb]
  have ef:(failedOf (setArr st' (ar f (p.take (sa+k)++po++p.drop (sa+k+po.length))))).isNone=true:=by
   show(failedOf st').isNone=true
   rw[same.fail,f1];rfl
  rw[ef]
  refine wpS_pure (h _ _ (same.kind.trans k1) (same.fail.trans f1) (same.pend.trans p1) rfl ?_ ?_ ?_)
  ·have e2:p=p.take (sa+k)++(sgl p (sa+k) (na - k)++sgl p (sa+na) m)++p.drop (sa+k+po.length):=by
    have e3:sgl p (sa+k) (na - k)++sgl p (sa+na) m=sgl p (sa+k) (na - k+m):=by
     rw[ja0,show sa+k+(na - k)=sa+na by lia]
    rw[e3,lpo,uf,←List.drop_drop,uz,uz]
   conv=>rhs;rw[e2]
   exact(List.Perm.append_left _ pm).append_right _
  ·intro j hj
   rcases hj with hj | hj
   ·rw[ub,uf,u8 (by rw[uX];lia),yg,if_pos (by lia),←ub]
   ·rw[ub,up (by rw[uE,uX];lia),List.getElem?_drop,←ub]
    congr 1
    rw[uE,uX]
    lia
  ·have lt3:sa+(na+nb)<=(p.take (sa+k)++po++p.drop (sa+k+po.length)).length:=by
    simp only[uE,uX,xD];lia
   rw[vK lt3]
   have e4:sgl (p.take (sa+k)++po++p.drop (sa+k+po.length)) sa (na+nb)=sgl p sa k++po++sgl p (sa+na+m) (nb - m):=by
    unfold sgl
    rw[uf,List.drop_append_of_le_length (by rw[uX];lia),List.drop_take,show sa+k - sa=k by lia,←uf,List.take_append,u9 (by simp only[uE,uX,xD];lia)]
    congr 1
    simp only[uE,uX,xD]
    rw[show sa+k+po.length=sa+na+m by lia]
    congr 1
    lia
   rw[e4]
   have poLe:∀x∈po,(∃i,k<=i/\i<na/\x=p.getD (sa+i) 0)\/∃i,i<m/\x=p.getD (sa+na+i) 0:=fun x hx=>by
    rcases uQ.mp (pm.mem_iff.mp hx) with y | y
    ·exact .inl (inA x y)
    ·exact .inr (inB x y)
   refine(SrtL.app ((vK (by lia)).mp fun i j hij hj=>s1 i j hij (by lia)) sr fun x hx y hy=>?_).app ((vK (by lia)).mp fun i j hij hj=>?_) fun x hx y hy=>?_
   ·obtain⟨i,hi,rfl⟩:=XS (by lia) hx
    rcases poLe y hy with ⟨j,j1,j2,rfl⟩ | ⟨j,j1,rfl⟩
    ·exact s1 i j (by lia) j2
    ·have b1:=k2 i hi
     have b2:=s2 0 j (by lia) (by lia)
     rw[xz]at b2
     exact Int.le_trans b1 b2
   ·have:=s2 (m+i) (m+j) (by lia) (by lia)
    rw[←yO,←yO]at this
    exact this
   ·obtain⟨j,hj,rfl⟩:=XS (by lia) hy
    have b0:=m3 (m+j) (by lia) (by lia)
    rw[←yO]at b0
    rcases uQ.mp hx with hx | hx
    ·obtain⟨i,hi,rfl⟩:=XS (by lia) hx
     have b1:=s1 i (na - 1) (by lia) (by lia)
     exact Int.le_trans b1 b0
    ·rcases poLe x hx with ⟨i,i1,i2,rfl⟩ | ⟨i,i1,rfl⟩
     ·exact Int.le_trans (s1 i (na - 1) (by lia) (by lia)) b0
     ·exact Int.le_trans (yS (m2 i i1)) b0
 by_cases c3:na - k<=m
 ·refine Wc c3 (wpS_bind <| qaH ⟨L,fun x hx=>?_,fun x hx=>?_,srA,srB,fun y hy=>?_⟩ (k1.trans hk) (by rw[lpa];lia) (by rw[lpb];lia) ?_ fin)
  ·obtain⟨i,_,_,rfl⟩:=inA x hx;exact hp _ (qk (by lia))
  ·obtain⟨i,_,rfl⟩:=inB x hx;exact hp _ (qk (by lia))
  ·obtain⟨i,hi,rfl⟩:=inB y hy
   rw[lpa,XA (by lia) (by lia),show sa+k+(na - k - 1)=sa+(na - 1) by lia]
   exact yS (m2 i hi)
  ·rw[XA (by lia) (by lia),XA (by lia) (by lia),xz,xz]
   exact yS (k3 k (by lia) (by lia))
 ·refine Yc c3 (wpS_bind <| qaI ⟨L,fun x hx=>?_,fun x hx=>?_,srA,srB,fun y hy=>?_⟩ (k1.trans hk) (by rw[lpa];lia) (by rw[lpb];lia) ?_ fin)
  ·obtain⟨i,_,_,rfl⟩:=inA x hx;exact hp _ (qk (by lia))
  ·obtain⟨i,_,rfl⟩:=inB x hx;exact hp _ (qk (by lia))
  ·obtain⟨i,hi,hi2,rfl⟩:=inA y hy
   rw[XA (by lia) (by lia),xz]
   exact yS (k3 i hi hi2)
  ·rw[lpa,lpb,XA (by lia) (by lia),XA (by lia) (by lia),show sa+k+(na - k - 1)=sa+(na - 1) by lia]
   exact yS (m2 (m - 1) (by lia))
end
section
variable {prog:Program} {w:World} {A:Around} {E:ZVP} {s:Shared} {f:Nat->Keyed} {r:Nat->Int} {n:Nat} {κ:SortKind} {p p' p0:List Nat} {st:SortSt}
def RunsL(r:Nat->Int)(p:List Nat):Nat->List (Nat×Nat×Nat)->Nat->Prop
 | a,[],b=>a=b
 | a,x::l,b=>x.1=a/\0<x.2.1/\Sg r p a x.2.1/\RunsL r p (a+x.2.1) l b
theorem RunsL.len:∀{a b:Nat} {l:List (Nat×Nat×Nat)},RunsL r p a l b->a+l.length<=b
 | a,b,[],h=>by have:a=b:=h;simp;lia
 | a,b,x::l,⟨_,h1,_,h2⟩=>by have:=h2.len;simp;lia
theorem RunsL.app:∀{a c:Nat} {l m:List (Nat×Nat×Nat)},RunsL r p a (l++m) c↔∃b,RunsL r p a l b/\RunsL r p b m c
 | a,c,[],m=>⟨fun h=>⟨a,rfl,h⟩,fun⟨b,h1,h2⟩=>by have:a=b:=h1;subst this;exact h2⟩
 | a,c,x::l,m=>by
  constructor
  ·rintro ⟨h1,h2,h3,h4⟩
   obtain⟨b,h5,h6⟩:=RunsL.app.mp h4
   exact⟨b,⟨h1,h2,h3,h5⟩,h6⟩
  ·rintro ⟨b,⟨h1,h2,h3,h4⟩,h5⟩
   exact⟨h1,h2,h3,RunsL.app.mpr ⟨b,h4,h5⟩⟩
theorem Sg.congr{a m:Nat}(e:∀k,a<=k->k<a+m->p'.getD k 0=p.getD k 0)(h:Sg r p a m):Sg r p' a m:=fun i j hij hj=>by
 unfold kv
 rw[e _ (by lia) (by lia),e _ (by lia) (by lia)]
 exact h i j hij hj
theorem RunsL.congr:∀{a b:Nat} {l:List (Nat×Nat×Nat)},(∀k,a<=k->k<b->p'.getD k 0=p.getD k 0)->RunsL r p a l b->RunsL r p' a l b
 | a,b,[],_,h=>h
 | a,b,x::l,e,⟨h1,h2,h3,h4⟩=>by
  have:=h4.len
  exact⟨h1,h2,h3.congr fun k k1 k2=>e k k1 (by lia),h4.congr fun k k1 k2=>e k (by lia) k2⟩
structure GS(f:Nat->Keyed)(r:Nat->Int)(κ:SortKind)(p0:List Nat)(lo:Nat)(st:SortSt)(p:List Nat):Prop where
 kind:xY st=κ
 fail:failedOf st=none
 arr:arrOf st=ar f p
 perm:p.Perm p0
 runs:RunsL r p 0 (pendingOf st).toList lo
theorem GS.len{lo:Nat}(h:GS f r κ p0 lo st p):p.length=p0.length:=h.perm.length_eq
theorem vaA{α:Type}:∀{l:List α} {i:Nat} {x y:α},l[i]?=some x->l[i+1]?=some y->∃X Z,l=X++x::y::Z/\X.length=i
 | [],i,x,y,h,_=>by simp at h
 | a::l,0,x,y,h,h2=>by
  have e1:a=x:=by simpa using h
  cases l with
  | nil=>simp at h2
  | cons b l=>
   have e2:b=y:=by simpa using h2
   exact⟨[],l,by rw[e1,e2];rfl,rfl⟩
 | a::l,i+1,x,y,h,h2=>by
  obtain⟨X,Z,e,hX⟩:=vaA (l:=l) (i:=i) (by simpa using h) (by simpa using h2)
  exact⟨a::X,Z,by rw[e];rfl,by simp[hX]⟩
theorem vae{i lo:Nat}{Q:Bool->SortSt->Prop}(L:jD prog w A E s f r n κ)(hp:∀x∈p0,x<n)(G:GS f r κ p0 lo st p)(hlo:lo<=p0.length)(hi:i+1<(pendingOf st).size)
  (h:∀p' st',GS f r κ p0 lo st' p'->(pendingOf st').size+1=(pendingOf st).size->(∀k,lo<=k->p'.getD k 0=p.getD k 0)->Q true st'):wpS (model prog w) A E s (mergeAt' i) Q st:=by
 have hp':∀x∈p,x<n:=fun x hx=>hp x (G.perm.mem_iff.mp hx)
 have gl:=G.len
 obtain⟨⟨sa,na,pw⟩,e1⟩:∃x,(pendingOf st)[i]?=some x:=⟨_,getElem?_pos _ i (by lia)⟩
 obtain⟨⟨sb,nb,pw2⟩,e2⟩:∃x,(pendingOf st)[i+1]?=some x:=⟨_,getElem?_pos _ (i+1) hi⟩
 obtain⟨X,Z,eL,lX⟩:=vaA (l:=(pendingOf st).toList) (i:=i) (by rw[xJ];exact e1) (by rw[xJ];exact e2)
 have R:=G.runs
 rw[eL]at R
 obtain⟨a,R1,⟨h1,h2,h3,h4,h5,h6,R2⟩⟩:=RunsL.app.mp R
 dsimp only at h1 h2 h3 h4 h5 h6 R2
 subst h1
 subst h4
 have len2:=R2.len
 refine WaI L G.kind G.arr G.fail hp' e1 e2 h2 h5 (by lia) h3 h6 fun p' st' k' f' pd' a' pm out sg=>?_
 have eP:(pendingOf st').toList=X++(sa,na+nb,pw)::Z:=by
  rw[pd',Array.toList_eraseIdxIfInBounds,Array.toList_setIfInBounds,eL,←lX,List.set_append_right _ _ (uJ _),Nat.sub_self,List.set_cons_zero,List.eraseIdx_append_of_length_le (xw _),show X.length.succ - X.length=1 by lia]
  rfl
 refine h p' st' ⟨k'.trans G.kind,f',a',pm.trans G.perm,?_⟩ ?_ fun k hk=>out k (.inr (by lia))
 ·rw[eP]
  refine RunsL.app.mpr ⟨sa,R1.congr fun k _ k2=>out k (.inl k2),rfl,by show 0<na+nb;lia,sg,?_⟩
  show RunsL r p' (sa+(na+nb)) Z lo
  rw[←yO]
  exact R2.congr fun k k1 _=>out k (.inr k1)
 ·have c1:=congrArg xV eP
  have c2:=congrArg xV eL
  rw[uE,uj,uU]at c1
  rw[uE,uj,uj,uU]at c2
  lia
theorem RunsL.mod{g:Nat×Nat×Nat->Nat×Nat×Nat}(hg:∀x,(g x).1=x.1/\(g x).2.1=x.2.1):∀{l:List (Nat×Nat×Nat)} {a b j:Nat},RunsL r p a l b->RunsL r p a (l.modify j g) b
 | [],a,b,j,h=>by simpa using h
 | x::l,a,b,0,⟨h1,h2,h3,h4⟩=>by
  rw[List.modify_zero_cons]
  exact⟨(hg x).1.trans h1,by rw[(hg x).2];exact h2,by rw[(hg x).2];exact h3,by rw[(hg x).2];exact h4⟩
 | x::l,a,b,j+1,⟨h1,h2,h3,h4⟩=>by
  rw[List.modify_succ_cons]
  exact⟨h1,h2,h3,RunsL.mod hg h4⟩
def SrQ(f:Nat->Keyed)(r:Nat->Int)(κ:SortKind)(p0:List Nat)(x:Nat):ForInStep (Option Unit×Nat)->SortSt->Prop
 | .done c,st'=>∃p,c=(none,p0.length)/\GS f r κ p0 p0.length st' p
 | .yield c,st'=>∃p lo,c=(none,lo)/\GS f r κ p0 lo st' p/\lo<=p0.length/\x<=lo
theorem qa4{Q:Unit->SortSt->Prop}(L:jD prog w A E s f r n κ)(hp:∀x∈p0,x<n)(h2:2<=p0.length)(hk:xY st=κ)(hf:failedOf st=none)(hpd:pendingOf st=#[])(ha:arrOf st=ar f p0)
  (h:∀p st',arrOf st'=ar f p->failedOf st'=none->p.Perm p0->SrtL r p->Q () st'):wpS (model prog w) A E s sortRuns' Q st:=by
 rw[sortRuns'_eq]
 refine wpS_bind (wpS_get ?_)
 rw[ha,Xf]
 extract_lets size mr lo0
 refine wpS_bind (wpS_mono (wpS_forRange (I:=fun x c st'=>∃p lo,c=(none,lo)/\GS f r κ p0 lo st' p/\lo<=p0.length/\x<=lo)
  (Q:=fun c st'=>∃p,c=(none,p0.length)/\GS f r κ p0 p0.length st' p) ?step ?fin ?init) ?post)
 case init=>exact⟨p0,0,rfl,⟨hk,hf,ha,List.Perm.refl _,by rw[hpd];rfl⟩,ua _,ua _⟩
 case fin=>
  rintro c st' ⟨p,lo,rfl,G,hlo,hx⟩
  have:lo=p0.length:=by
   have:max 0 size=p0.length:=Nat.zero_max _
   lia
  subst this
  exact⟨p,rfl,G⟩
 case step=>
  rintro x c st' _ hx ⟨p,lo,rfl,G,hlo,hxl⟩
  refine wpS_mono (Q:=SrQ f r κ p0 (x+1)) ?_ (fun a st2 h=>by cases a<;>exact h)
  show wpS _ _ _ _ (if lo ≥ p0.length then _ else _) _ _
  by_cases c:lo ≥ p0.length
  ·refine Wc c (wpS_pure ?_)
   have:lo=p0.length:=by lia
   subst this
   exact⟨p,rfl,G⟩
  refine Yc c ?_
  have gl:=G.len
  have hp':∀y∈p,y<n:=fun y hy=>hp y (G.perm.mem_iff.mp hy)
  refine wpS_bind (waU L G.kind G.arr hp' (by show lo+(p0.length - lo)<=_;lia) (by show 1<=p0.length - lo;lia) fun m p1 st1 R1 m1 m2 sg1=>?_)
  have m2:m<=p0.length - lo:=m2
  dsimp -zeta only
  extract_lets m' jp force n2
  have hjp:∀m p2 st2,RunS f st' lo p st2 p2->1<=m->lo+m<=p0.length->Sg r p2 lo m->wpS (model prog w) A E s (jp () m) (SrQ f r κ p0 (x+1)) st2:=by
   intro m p2 st2 R2 q1 q2 sg2
   have G2:GS f r κ p0 lo st2 p2:=⟨R2.kind.trans G.kind,R2.fail.trans G.fail,R2.arr,R2.perm.trans G.perm,by rw[R2.pend];exact G.runs.congr fun k _ k2=>R2.pre k k2⟩
   refine wpS_bind (wpS_get ?_)
   extract_lets lo2 jp2
   have hjp2:∀p3 st3,GS f r κ p0 lo st3 p3->Sg r p3 lo m->wpS (model prog w) A E s (jp2 ()) (SrQ f r κ p0 (x+1)) st3:=by
    intro p3 st3 G3 sg3
    refine wpS_bind (wpS_modify (wpS_pure ⟨p3,_,rfl,⟨G3.kind,G3.fail,G3.arr,G3.perm,?_⟩,q2,by lia⟩))
    show RunsL r p3 0 ((pendingOf st3).push (lo,m,0)).toList (lo+m)
    rw[ym]
    exact RunsL.app.mpr ⟨lo,G3.runs,rfl,q1,sg3,rfl⟩
   cases hb:(pendingOf st2).back? with
   | none=>exact hjp2 p2 st2 G2 sg2
   | some b=>
    obtain⟨s1,n1,b3⟩:=b
    dsimp -zeta only
    extract_lets pw
    refine wpS_bind (wpS_mono (wpS_forRange (I:=fun y c st3=>c=(none,())/\∃p3,GS f r κ p0 lo st3 p3/\Sg r p3 lo m) (Q:=fun c st3=>c=(none,())/\∃p3,GS f r κ p0 lo st3 p3/\Sg r p3 lo m) ?step3 (fun c st3 z=>z) ⟨rfl,p2,G2,sg2⟩) ?post3)
    case step3=>
     rintro y c st3 _ hy ⟨rfl,p3,G3,sg3⟩
     refine wpS_bind (wpS_get ?_)
     by_cases c1:(pendingOf st3).size > 1
     ·obtain⟨⟨o1,o2,older⟩,eo⟩:∃z,(pendingOf st3)[(pendingOf st3).size - 2]?=some z:=⟨_,getElem?_pos _ _ (by lia)⟩
      extract_lets pp
      have epp:(if pp.size > 1 then pp[pp.size - 2]? else none)=some (o1,o2,older):=by
       show(if (pendingOf st3).size > 1 then (pendingOf st3)[(pendingOf st3).size - 2]? else none)=_
       rw[if_pos c1,eo]
      rw[epp]
      dsimp -zeta only
      by_cases c2:older<=pw
      ·exact Wc c2 (wpS_pure ⟨rfl,p3,G3,sg3⟩)
      ·refine Yc c2 (wpS_bind (vae L hp G3 hlo (by show(pendingOf st3).size - 2+1<_;lia) fun p4 st4 G4 _ out=>?_))
       refine Yc (by simp) (wpS_pure ⟨rfl,p4,G4,sg3.congr fun k k1 k2=>out k k1⟩)
     ·extract_lets pp
      have epp:(if pp.size > 1 then pp[pp.size - 2]? else none)=none:=by
       show(if (pendingOf st3).size > 1 then (pendingOf st3)[(pendingOf st3).size - 2]? else none)=_
       rw[if_neg c1]
      rw[epp]
      exact wpS_pure ⟨rfl,p3,G3,sg3⟩
    case post3=>
     rintro c st3 ⟨rfl,p3,G3,sg3⟩
     refine wpS_bind (wpS_modify ?_)
     refine hjp2 p3 _ ⟨G3.kind,G3.fail,G3.arr,G3.perm,?_⟩ sg3
     show RunsL r p3 0 ((pendingOf st3).modify _ _).toList lo
     rw[Array.toList_modify]
     exact RunsL.mod (g:=fun x=>(x.1,x.2.1,pw)) (fun z=>⟨rfl,rfl⟩) G3.runs
  by_cases c2:m'<mr
  ·refine Wc c2 ?_
   refine wpS_bind (wpS_lift (wpAny_rule ⟨rfl,?_⟩))
   have c2':m<mr:=c2
   have ef:force=min (p0.length - lo) mr:=rfl
   refine wpS_bind (Zba (ok:=m) (m:=force) L G.kind hp' (by lia) R1 (by lia) (by lia) sg1 fun p2 st2 R2 sg2=>?_)
   refine Yc (by simp) ?_
   exact hjp force p2 st2 R2 (by lia) (by lia) sg2
  ·exact Yc c2 (hjp m p1 st1 R1 m1 (by lia) sg1)
 case post=>
  rintro c st' ⟨p,rfl,G⟩
  have rl:=G.runs.len
  refine wpS_bind (wpS_mono (wpS_forRange (I:=fun x c st2=>c=(none,())/\∃p2,GS f r κ p0 p0.length st2 p2/\((pendingOf st2).size+x<=p0.length\/(pendingOf st2).size<=1)) (Q:=fun c st2=>c=(none,())/\∃p2,GS f r κ p0 p0.length st2 p2/\(pendingOf st2).size<=1) ?step4 ?fin4 ⟨rfl,p,G,.inl (by rw[uU]at rl;lia)⟩) ?post4)
  case fin4=>
   rintro c st2 ⟨rfl,p2,G2,z⟩
   have:max 0 size=p0.length:=Nat.zero_max _
   exact⟨rfl,p2,G2,by lia⟩
  case step4=>
   rintro x c st2 _ hx ⟨rfl,p2,G2,z⟩
   refine wpS_bind (wpS_get ?_)
   extract_lets pp i bef j
   by_cases c1:(pendingOf st2).size<=1
   ·exact Wc c1 (wpS_pure ⟨rfl,p2,G2,c1⟩)
   ·refine Yc c1 ?_
    have hj:j+1<(pendingOf st2).size:=by
     have ei:i=(pendingOf st2).size - 2:=rfl
     show(if (bef.any fun z=>decide (z<(pp[i+1]?.elim 0 fun y=>y.2.1)))=true then i - 1 else i)+1<_
     split<;>lia
    refine wpS_bind (vae L hp G2 (uJ _) hj fun p3 st3 G3 sz _=>?_)
    exact Yc (by simp) (wpS_pure ⟨rfl,p3,G3,.inl (by lia)⟩)
  case post4=>
   rintro c st2 ⟨rfl,p2,G2,z⟩
   have g2:=G2.len
   refine wpS_pure (h p2 st2 G2.arr G2.fail G2.perm ?_)
   have R:=G2.runs
   have lz:(pendingOf st2).toList.length<=1:=by rw[uU];exact z
   cases e:(pendingOf st2).toList with
   | nil=>
    rw[e]at R
    have:0=p0.length:=R
    lia
   | cons a l=>
    rw[e]at R lz
    have el:l=[]:=by
     cases l with
     | nil=>rfl
     | cons=>simp at lz
    subst el
    obtain⟨_,_,sg,en⟩:=R
    have en:0+a.2.1=p0.length:=en
    rw[show a.2.1=p2.length by lia]at sg
    have:=(vK (by lia)).mp sg
    unfold sgl at this
    rw[List.drop_zero,ug]at this
    exact this
end
section
variable {prog:Program} {w:World} {A:Around} {E:ZVP} {s:Shared}
noncomputable def ZR(vs:List Value)(i:Nat):Keyed:=(vs.getD i Value.none,vs.getD i Value.none)
theorem Zbn(vs:List Value):vs.toArray.zip vs.toArray=ar (ZR vs) (xC vs.length):=by
 apply Array.ext_getElem?
 intro k
 by_cases h:k<vs.length
 ·simp[ar,ZR,h]
 ·rw[uo (by simp;lia),uo (by rw[Xf,List.length_range];lia)]
theorem Ybg{vs:List Value}{r:Nat->Int}{κ:SortKind}(hc:∀i j,i<vs.length->j<vs.length->∀C:Bool->Shared->Prop,C (rlt r i j) s->wpAny (model prog w) A (keyLt' κ (vs.getD i Value.none) (vs.getD j Value.none)) C (fun _ _=>False) s) :
  jD prog w A E s (ZR vs) r vs.length κ:=fun i j hi hj st Q hk q=>by
 rw[lt'_eq]
 refine wpS_bind (wpS_get ?_)
 rw[hk]
 refine wpS_bind (wpS_lift (wpAny_attempt (wpAny_mono (hc i j hi hj (fun b s'=>s'=s/\b=decide (r i<r j)) ⟨rfl,rfl⟩) (fun b s' z=>?_) fun _ _ z=>z.elim)))
 obtain⟨rfl,rfl⟩:=z
 exact⟨rfl,wpS_pure q⟩
theorem jV{a:Addr}{vs:List Value}{n:Nat}{r:Nat->Int}{P:PySem.Fin->Shared->Prop}(ho:s.heap.get? a=some (seqObj "list" vs.toArray n))(h64:vs.length<=1000)(ask:qbz prog w A s vs vs a r)
  (h:∀p:Array Nat,PermN vs.length p->Srt r p vs.length->P (.done (.ret .none)) {s with heap:=sortedHeap s.heap a vs (Yt vs p)}) :
  wpAny (model prog w) A (Builtin.«list.sort» ⟨[.ref a],[]⟩) P E s:=by
 rw[list_sort_plain]
 have ha:a<s.heap.objs.size:=uM ho
 refine wpAny_bind (listItems_at ho rfl ?_)
 refine wpAny_bind (listUpdate_at ho rfl ?_)
 obtain⟨e1,ho1⟩:∃e1,(s.heap.update a (Obj.mapSeq fun _=>#[])).get? a=some (seqObj "list" #[] e1):=⟨_,get?_update_seq ho (fun _=>#[])⟩
 refine wpAny_bind (seqEpoch_at ho1 rfl ?_)
 refine wpAny_bind (wpAny_newTuple ?_)
 refine wpAny_bind (wpAny_newList ?_)
 refine wpAny_holding ?_
 have ho6:(((s.heap.update a (Obj.mapSeq fun _=>#[])).push (seqObj "tuple" vs.toArray 0)).push (seqObj "list" #[] 0)).get? a=some (seqObj "list" #[] e1):=by
  rw[yn _ _ _ (by rw[size_push',Heap.size_update];exact uR (xK ha)),yn _ _ _ (by rw[Heap.size_update];exact uR ha)]
  exact ho1
 have keep:∀b o,b≠a->s.heap.get? b=some o->(((s.heap.update a (Obj.mapSeq fun _=>#[])).push (seqObj "tuple" vs.toArray 0)).push (seqObj "list" #[] 0)).get? b=some o:=fun b o hb q=>
  uC _ (uC _ ((Heap.get?_update_ne _ _ _ _ hb).trans q))
 show wpAny (model prog w) A _ P E {s with heap:=((s.heap.update a (Obj.mapSeq fun _=>#[])).push (seqObj "tuple" vs.toArray 0)).push (seqObj "list" #[] 0)}
 dsimp only
 have hsz:vs.toArray.size=vs.length:=by simp
 by_cases h2:vs.toArray.size<2
 ·rw[if_pos h2,if_pos h2]
  refine wpAny_bind (wpAny_pure ?_)
  rw[StateT.run_pure]
  refine wpAny_bind (wpAny_pure ?_)
  dsimp only
  have e2:(arrOf (SortSt.mk' general' (vs.toArray.zip vs.toArray) #[] 7 none)).map (·.2)=Yt vs (xC vs.length).toArray:=by
   rw[Wah]
   show(vs.toArray.zip vs.toArray).map (·.2)=vs.toArray
   apply Array.ext
   ·simp
   ·intro i _ _;simp
  rw[e2]
  refine wpAny_bind (seqEpoch_at ho6 rfl ?_)
  refine wpAny_bind (listUpdate_at ho6 rfl ?_ (hsz2:=by rw[Wah,sizeLine_eq];lia))
  simp only[bne_self_eq_false,ue,if_false]
  refine wpAny_pure (h _ (Array.Perm.refl _) ?_)
  intro i j hij hj
  rw[show i=j by lia];exact xx _
 ·rw[if_neg h2,if_neg h2]
  obtain⟨κ,hk,hc⟩:=ask (by lia) _ keep
  refine wpAny_bind (hk _ _ ?_)
  refine wpAny_bind (wpAny_mono (qa4 (f:=ZR vs) (r:=r) (n:=vs.length) (κ:=κ) (p0:=xC vs.length) (Q:=fun _ st'=>∃p,arrOf st'=ar (ZR vs) p/\failedOf st'=none/\p.Perm (xC vs.length)/\SrtL r p)
   (Ybg hc) (fun x hx=>xf.mp hx) (by rw[List.length_range];lia) rfl rfl rfl (Zbn vs) fun p st' a1 a2 a3 a4=>⟨p,a1,a2,a3,a4⟩) ?_ fun _ _ e=>e)
  rintro ⟨⟨⟩,st'⟩ s' ⟨rfl,p',har,hf,hpm,hsr⟩
  dsimp only at *
  obtain⟨p,rfl⟩:∃p:Array Nat,p.toList=p':=⟨p'.toArray,rfl⟩
  have hp:PermN vs.length p:=by
   unfold PermN
   exact yX.mpr (by simpa using hpm)
  have hs:Srt r p vs.length:=fun i j hij hj=>by
   have hz:=hp.size
   have:=hsr.at_ (i:=i) (j:=j) hij (by rw[uU];lia)
   have e:∀k,p.toList.getD k 0=p.getD k 0:=fun k=>by rw[Yab,xt]
   rw[e,e]at this
   exact this
  rw[show(arrOf st').map (fun x=>x.2)=Yt vs p from by rw[har];unfold ar Yt;simp[ZR]]
  have hpz:=hp.size
  refine wpAny_bind (seqEpoch_at ho6 rfl ?_)
  refine wpAny_bind (listUpdate_at ho6 rfl ?_ (hsz2:=by unfold Yt;rw[uI,uA,uU,hpz,sizeLine_eq];lia))
  rw[hf]
  simp only[bne_self_eq_false,ue,if_false]
  exact wpAny_pure (h p hp hs)
theorem vaN{l:Addr}{vs:List Value}{r:Nat->Int}{Q:ZVP}(hl:s.heap.IsList l vs.toArray)(h64:vs.length<=1000)
  (ask:2<=vs.length->∀h':Heap,(∀b o,s.heap.get? b=some o->h'.get? b=some o)->∃κ:SortKind,
   (∀(Q:SortKind->Shared->Prop) (E:ZVP),Q κ {s with heap:=h'}->wpAny (model prog w) A.in1.in1 (keyKind' vs.toArray) Q E {s with heap:=h'}) ∧
   ∀i j,i<vs.length->j<vs.length->∀C:Bool->Shared->Prop,C (rlt r i j) {s with heap:=h'}->wpAny (model prog w) A.in1.in1 (keyLt' κ (vs.getD i Value.none) (vs.getD j Value.none)) C (fun _ _=>False) {s with heap:=h'})
  (h:∀p:Array Nat,PermN vs.length p->Srt r p vs.length->Q (.ref (s.heap.objs.size+1)) {s with heap:=sortedAll s.heap vs (Yt vs p)}) :
  wpAny (model prog w) A (call (.builtin "sorted") [.ref l]) Q E s:=by
 refine Calls.call_function_entry kind_sorted plain_sorted entry_sorted (args_sorted1 _) ?_
 unfold Builtin.«sorted»
 refine wpAny_bind (m:=checkCount "sorted" 1 1 _) (wpAny_pure ?_)
 refine wpAny_bind (collect_list hl ?_)
 refine wpAny_bind (wpAny_newList ?_)
 have hsz:((s.heap.push (seqObj "list" #[] 0)).update s.heap.objs.size (Obj.mapSeq (·++vs.toArray))).objs.size=s.heap.objs.size+1:=by
  rw[Heap.size_update,size_push']
 have hoL:(((s.heap.push (seqObj "list" #[] 0)).update s.heap.objs.size (Obj.mapSeq (·++vs.toArray))).push (seqObj "list" vs.toArray 0)).get? (s.heap.objs.size+1)=some (seqObj "list" vs.toArray 0):=by
  rw[←hsz];exact uT _ rfl
 have keep:∀b o,s.heap.get? b=some o->(((s.heap.push (seqObj "list" #[] 0)).update s.heap.objs.size (Obj.mapSeq (·++vs.toArray))).push (seqObj "list" vs.toArray 0)).get? b=some o/\b≠s.heap.objs.size+1:=fun b o q=>by
  have hlt:b<s.heap.objs.size:=uM q
  rw[yn _ _ _ (by rw[hsz];exact uR (xK hlt)),Heap.get?_update_ne _ _ _ _ (uR hlt),yn _ _ _ (uR hlt)]
  exact⟨q,uR (xK hlt)⟩
 show wpAny _ _ _ _ _ {s with heap:=((s.heap.push (seqObj "list" #[] 0)).update s.heap.objs.size (Obj.mapSeq (·++vs.toArray))).push (seqObj "list" vs.toArray 0)}
 rw[hsz]
 refine wpAny_bind (wpAny_holding (wpAny_call_entry slot_list_sort ⟨_,hoL,rfl⟩ entry_list_sort (jV (r:=r) hoL h64 (fun h2 h' kp=>ask h2 h' fun b o q=>kp b o (keep b o q).2 (keep b o q).1) fun p a1 a2=>⟨_,rfl,?_⟩) (args_list_sort _)))
 exact wpAny_pure ⟨_,rfl,h p a1 a2⟩
end
end L2
namespace L2
open PySem PySem.Spec PyProof.Rows
@[irreducible] def Wu:RDn:=fun xs M Q=>∃(α:Type) (enc:α->D) (lt:α->α->Bool) (as:List α) (d:D),xs=[d]/\Zd d M=some (as.map enc)/\as.length<=1000/\Zv lt/\Zam (as.map enc)/\(∀a∈as,∀b∈as,ltD (enc a) (enc b)=lt a b) ∧
 ∀bs:List α,bs.Perm as->bs.Pairwise (fun a b=>lt b a=false)->newL (bs.map enc) M Q
theorem YJ{α:Type}{enc:α->D}{lt:α->α->Bool}{as:List α}{d:D}{M:HpD}{Q:KD}(h:Zd d M=some (as.map enc))(h64:as.length<=1000)(L:Zv lt)(k:Zam (as.map enc))(hlt:∀a∈as,∀b∈as,ltD (enc a) (enc b)=lt a b)
  (q:∀bs:List α,bs.Perm as->bs.Pairwise (fun a b=>lt b a=false)->newL (bs.map enc) M Q):Wu [d] M Q:=by
 unfold Wu;exact⟨α,enc,lt,as,d,rfl,h,h64,L,k,hlt,q⟩
theorem kJ{X:Cx}{k:Nat}(hr:Room k X.A):CallR X (.builtin "sorted") (wt X.K Wu):=by
 intro pins s σ H xs us Q I rx h
 obtain⟨F,ds,M,QD,r,rh,hq,pp⟩:=h
 unfold Wu at hq
 obtain⟨α,enc,lt,as,d,rfl,hd,h64,L,sk,hlt,q⟩:=hq
 obtain⟨v,rfl,r1⟩:=jE r
 obtain⟨a,ys,rfl,hs,rd⟩:=Zm rh r1 hd
 obtain⟨u,rfl,ru⟩:=Zx rx
 cases ru
 obtain⟨its,vi,pl,hz⟩:=I.list hs
 have lds:(as.map enc).length=as.length:=uA _
 have l1:ys.length=as.length:=by rw[←rd.length,lds]
 have l2:its.length=as.length:=by rw[←vi.length,l1]
 have hun:=hr.un
 refine vaN (r:=qL lt as) pl.isList (by lia) (fun h2 h' kp=>?_) fun p hp hsr=>?_
 ·have I':Inv X pins σ H {s with heap:=h'}:=I.kept (t':=s.toks) kp
  obtain⟨κ,hk,hc⟩:=Wbd I' (A:=X.A.in1.in1) (by show X.A.units+1+1+70<cLine;lia) (by lia) sk rd vi
  refine⟨κ,hk,fun i j hi hj C hC=>?_⟩
  have ei:as[i]?=some (as[i]'(by lia)):=uB (by lia)
  have ej:as[j]?=some (as[j]'(by lia)):=uB (by lia)
  refine hc i j _ _ (by rw[uG,ei];rfl) (by rw[uG,ej];rfl) C ?_
  rw[hlt _ (uF ei) _ (uF ej),←kak L (uF ei) (uF ej),←XD ei,←XD ej]
  exact hC
 ·rw[l2]at hp hsr
  obtain⟨hb,hperm,hpw⟩:=Z7 L hp hsr
  have rr:RepDs ⟨X.K,F⟩ H M ((p.toList.filterMap fun i=>as[i]?).map enc) (p.toList.filterMap fun i=>ys[i]?):=by
   rw[←waw]
   exact Xab rd _ fun i hi=>by rw[lds];exact hb i hi
  have rv:=kZ vi p.toList fun i hi=>by rw[l1];exact hb i hi
  have nl:=(q _ hperm hpw).post pp rh rr
  obtain⟨e,he⟩:=sortedAll_at s.heap its (Yt its p)
  refine⟨.ref (s.heap.objs.size+1),_,I.laid (t':=s.toks) (fun b o z=>sortedAll_old z) (xw _) (show ObjOk X.prog X.w _ _ _ (.lst _) from⟨nl.1,_,e,rv,he⟩),rfl,nl.2 _ (I.hok.fresh (xw _))⟩
end L2
namespace L2
open PySem PyProof.Rows
section
variable {prog:Program} {w:World} {A:Around} {E:ZVP} {s:Shared} {S it:Addr} {es:Array (Int×Value)} {ep:Nat} {t:SetTable}
noncomputable def wab(xs:Array Value)(c:Nat):Obj:={cls:=.type "list",dict:=none,data:=.seq xs c,slots:=#[]}
end
end L2
namespace L2
open PySem PySem.W PyProof.Rows
section
variable {prog:Program} {w:World} {A:Around} {E:ZVP} {s:Shared} {S it:Addr} {es:Array (Int×Value)} {ep:Nat} {t:SetTable}
theorem Yat:splitId "set.__len__"=some ("set","__len__"):=by kernel_rfl
theorem wbb{Q:Bool->Shared->Prop}(hT:s.TypeIs (.ref S) "set")(h:Q false s):wpAny (model prog w) A (Builtin.List.listLengthHint (.ref S)) Q E s:=by
 unfold Builtin.List.listLengthHint
 refine wpAny_bind (wpAny_specialOf hT PySem.F.slot_set_len.lookup ?_)
 dsimp only
 rw[Yat]
 dsimp only
 refine wpAny_bind (wpAny_isInstance hT sub_set_self ?_)
 simp only[Bool.not_true,ue,if_false]
 exact wpAny_bind (wpAny_typeOf hT (wpAny_pure h))
end
end L2
namespace L2
open PySem PyProof.Rows
theorem jaU{m f mv:Nat}{led plain:Bool}{hs:Array Int}{t:SetTable}{o:Array Nat}(h:SetTable.laid m f mv led plain hs=some (t,o)):t.plain=plain:=by
 unfold SetTable.laid at h
 cases e:SetTable.layClean m hs with
 | none=>rw[e]at h;cases h
 | some ow=>rw[e]at h;cases h;rfl
theorem wam{t:SetTable}{es:Array (Int×Value)}{n:Nat}(q:t.plain=false):(relayAll t es n).2.1.plain=false:=by
 unfold relayAll
 split
 ·rename_i t' o h
  dsimp only
  split
  ·rw[show t'.plain=t.plain from jaU h];exact q
  ·rfl
 ·rfl
theorem qaw{t:SetTable}{es:Array (Int×Value)}{h:Int}{x:Value}(q:t.plain=false):(layNew t es h x).2.1.plain=false:=by
 unfold layNew
 split
 ·dsimp only
  unfold SetTable.orStandIn
  split
  ·exact q
  ·rfl
 ·rfl
noncomputable def kq(e:Int×Value):Key:=match e.2 with | .int i _=>.inl i | .str x _=>.inr x | _=>.inl 0
theorem XU{k:Key}{e:Int×Value}(h:Xv k e.2=true):kq e=k:=by
 obtain⟨a,v⟩:=e
 rcases jh h with ⟨i,t,rfl,q⟩ | ⟨x,t,rfl,q⟩
 ·cases q;rfl
 ·cases q;rfl
noncomputable def Zaf:Key->Bool
 | .inl _=>false
 | .inr _=>true
def SetM(prog:Program)(w:World)(h:Heap)(a:Addr)(seen:List Key):Prop:=
 ∃es ep t,h.get? a=some (vW es ep t)/\ElemsOf (We prog w) es.toList/\(es.toList.map kq).Nodup/\(∀k,k∈es.toList.map kq↔k∈seen)/\t.fits es.size=true/\t.led = !w.params.followText "set-order" ∧
  ((∃k∈seen,Zaf k=true)->t.plain=false)
section
variable {prog:Program} {w:World} {A:Around} {E:ZVP} {s:Shared}
theorem wn{α:Type} [DecidableEq α]:∀{l m:List α},l.Nodup->(∀x∈l,x∈m)->l.length<=m.length
 | [],m,_,_=>ua _
 | a::l,m,hn,hs=>by
  have ha:a∈m:=hs a uc
  have hn':=uv.mp hn
  have:l.length<=(m.erase a).length:=wn hn'.2 fun x hx=>by
   have hxm:=hs x (uW _ hx)
   have hne:x≠a:=fun e=>hn'.1 (e▸hx)
   exact(List.mem_erase_of_ne hne).mpr hxm
  rw[List.length_erase_of_mem ha]at this
  have:0<m.length:=List.length_pos_of_mem ha
  rw[uj];lia
theorem SetM.add{a:Addr}{seen:List Key}{k:Key}{x:Value}{Q:Bool->Shared->Prop}(hS:SetM prog w s.heap a seen)(hkey:Xv k x=true)(hroom:seen.length+1<scanBound)
  (h:∀h',yE a s.heap h'->SetM prog w h' a (seen++[k])->∀b,Q b {s with heap:=h'}) :
  wpAny (model prog w) A (setAddHashed a x ((We prog w).hash k)) Q E s:=by
 obtain⟨es,ep,t,ho,hel,hnd,hmem,hf,hled,hpl⟩:=hS
 have hkey':(We prog w).is k x=true:=hkey
 have hsc:x.scannable=true:=by rcases jh hkey with ⟨i,t,_,rfl⟩ | ⟨y,t,_,rfl⟩<;>rfl
 have hb:es.size<scanBound:=by
  have:=wn hnd (fun x hx=>(hmem x).mp hx)
  rw[uA,uU]at this;lia
 unfold setAddHashed setAddHashedIn
 refine wpAny_holding (wpAny_bind (wpAny_setState_of ho rfl hf ?_))
 dsimp only
 rw[byScan_of hsc hb hel]
 simp only[↓reduceIte]
 unfold setAddByScan
 refine wpAny_bind ?_
 refine wpAny_bind (wpAny_rule ?_)
 refine wpAny_bind (wpAny_setScan_of hkey' ho rfl hf hel ?_)
 cases hr:List.findIdx? (fun e=>(We prog w).is k e.2) es.toList with
 | some j=>
  dsimp only
  obtain⟨hj,hpj,_⟩:=List.findIdx?_eq_some_iff_getElem.mp hr
  have hk:k∈seen:=(hmem k).mp (uS.mpr ⟨_,xS hj,XU hpj⟩)
  refine wpAny_pure (wpAny_pure (h s.heap (Heap.SameBut.refl a s.heap) ⟨es,ep,t,ho,hel,hnd,fun k'=>?_,hf,hled,fun⟨k',hk',q⟩=>?_⟩ _))
  ·rw[hmem k',uQ,uL]
   exact⟨.inl,fun z=>z.elim id fun z=>z▸hk⟩
  ·rcases uQ.mp hk' with z | z
   ·exact hpl ⟨k',z,q⟩
   ·rw[uL]at z;exact hpl ⟨k,hk,z▸q⟩
 | none=>
  dsimp only
  have hgw:∀(b:Bool) {s₁:Shared} {Q':Unit->Shared->Prop},Q' () s₁->wpAny (model prog w) A (match b with | true=>rule "set.scan.the-table-gave-way" | false=>pure ()) Q' E s₁:=
   fun b s₁ Q' hq=>by cases b<;>first | exact wpAny_pure hq | exact wpAny_rule hq
  have hno:k∉es.toList.map kq:=fun z=>by
   obtain⟨e,he,q⟩:=uS.mp z
   obtain⟨⟨k',hk',_⟩,_⟩:=hel e he
   have:k'=k:=by rw[←XU hk',q]
   have:=List.findIdx?_eq_none_iff.mp hr e he
   rw[‹k'=k›]at hk'
   rw[hk']at this;cases this
  have hperm:=layNew_perm t es ((We prog w).hash k) x
  have hfits:=layNew_fits t es ((We prog w).hash k) x
  have hl1:=vaR t es ((We prog w).hash k) x
  have hp1:t.plain=false->(layNew t es ((We prog w).hash k) x).2.1.plain=false:=qaw
  generalize hL:layNew t es ((We prog w).hash k) x=L at hperm hfits hl1 hp1 ⊢
  obtain⟨es1,t1,wasDummy,gave⟩:=L
  dsimp only at hperm hfits hl1 hp1 ⊢
  rw[ym]at hperm
  have hel1:ElemsOf (We prog w) es1.toList:=(hel.push hkey' hsc).perm hperm
  have hkk:kq ((We prog w).hash k,x)=k:=XU hkey
  have hpk:(es1.toList.map kq).Perm (es.toList.map kq++[k]):=by
   have:=hperm.map kq
   rw[uN,uH,xl,hkk]at this
   exact this
  have hnd1:(es1.toList.map kq).Nodup:=hpk.nodup_iff.mpr (xM.mpr ⟨hnd,uv.mpr ⟨u6,xR⟩,fun y hy z hz e=>by rw[uL]at hz;subst hz;subst e;exact hno hy⟩)
  have hm1:∀k',k'∈es1.toList.map kq↔k'∈seen++[k]:=fun k'=>by
   rw[hpk.mem_iff,uQ,uQ,hmem k']
  have hsz1:es1.size=es.size+1:=by rw[←uU,hperm.length_eq,uE,uU];rfl
  have hb1:es1.size<scanBound:=by
   have:=wn hnd (fun x hx=>(hmem x).mp hx)
   rw[uA,uU]at this;lia
  refine wpAny_bind (hgw _ ?_)
  have tail:∀(wd:Bool) (t2:SetTable),t2.fits es1.size=true->t2.led=t1.led->((∃k'∈seen++[k],Zaf k'=true)->t2.plain=false)->wpAny (model prog w) A (do
    storeSet a es1 t2
    if (!wd&&t2.tooFull)=true then do
      (fun b:Bool=>match b with | true=>rule "set.scan.the-table-gave-way" | false=>(pure ():Sem Unit)) (relayAll t2 es1 (SetTable.grown es1.size)).2.2
      storeSet a (relayAll t2 es1 (SetTable.grown es1.size)).1 (relayAll t2 es1 (SetTable.grown es1.size)).2.1
      pure (some true)
     else pure (some true)) (fun o s'=>∃b,o=some b/\Q b s') E s:=by
   intro wd t2 hf2 hl2' hp2'
   refine wpAny_bind (wpAny_storeSet_of ho rfl ?_ (fits_of_scanBound (by lia)))
   have ho1:=ZaM ho es1 t2
   have hsb1:=Heap.SameBut.update s.heap a (Obj.putSet es1 t2)
   split
   ·have hp2:=relayAll_perm t2 es1 (SetTable.grown es1.size)
    have hfr:=relayAll_fits t2 es1 (SetTable.grown es1.size)
    have hl2:=kaC t2 es1 (SetTable.grown es1.size)
    have hpp:t2.plain=false->(relayAll t2 es1 (SetTable.grown es1.size)).2.1.plain=false:=wam
    generalize hRl:relayAll t2 es1 (SetTable.grown es1.size)=Rl at hp2 hfr hl2 hpp ⊢
    obtain⟨es2,t3,gave2⟩:=Rl
    dsimp only at hp2 hfr hl2 hpp ⊢
    have hsz:es2.size=es1.size:=by rw[←uU,hp2.length_eq,uU]
    refine wpAny_bind (hgw _ ?_)
    refine wpAny_bind (wpAny_storeSet_of ho1 rfl ?_ (fits_of_scanBound (by lia)))
    have hpm:=hp2.map kq
    exact wpAny_pure ⟨_,rfl,h _ (hsb1.trans (Heap.SameBut.update _ a _)) ⟨es2,_,t3,ZaM ho1 es2 t3,hel1.perm hp2,hpm.nodup_iff.mpr hnd1,fun k'=>(hpm.mem_iff).trans (hm1 k'),hfr,by rw[hl2,hl2',hl1];exact hled,fun z=>hpp (hp2' z)⟩ _⟩
   ·exact wpAny_pure ⟨_,rfl,h _ hsb1 ⟨es1,_,t2,ho1,hel1,hnd1,hm1,hf2,by rw[hl2',hl1];exact hled,hp2'⟩ _⟩
  have hold:(∃k'∈seen,Zaf k'=true)->t1.plain=false:=fun z=>hp1 (hpl z)
  split
  ·rw[hashByValue_scannable 8 hsc]
   refine wpAny_bind (wpAny_pure ?_)
   refine wpAny_mono (tail wasDummy (if plainKind x=true then t1 else {t1 with plain:=false}) ?_ ?_ ?_) (fun o s' z=>by
    obtain⟨b,rfl,q⟩:=z
    exact wpAny_pure q) fun _ _ z=>z
   ·split
    ·exact hfits
    ·exact SetTable.fits_plain_off hfits
   ·split<;>rfl
   ·rintro ⟨k',hk',q⟩
    split
    ·rename_i hp
     rcases uQ.mp hk' with z | z
     ·exact hold ⟨k',z,q⟩
     ·rw[uL]at z
      subst z
      rcases jh hkey with ⟨i,t,rfl,rfl⟩ | ⟨y,t,rfl,rfl⟩
      ·cases q
      ·cases hp
    ·rfl
  ·rename_i hnp
   refine wpAny_bind (wpAny_pure ?_)
   simp only[↓reduceIte]
   refine wpAny_mono (tail wasDummy t1 hfits rfl fun _=>by simpa using hnp) (fun o s' z=>?_) fun _ _ z=>z
   obtain⟨b,rfl,q⟩:=z
   exact wpAny_pure q
end
section
variable {prog:Program} {w:World} {A:Around} {R:Result->Shared->Prop} {I:Addr} {fp wr:List Addr} {G:Array GenState->Array GenState->Prop} {n:Nat} {P:Nat->Value->Prop} {St:Nat->Shared->Prop}
theorem SetM.moved{h h':Heap}{a:Addr}{ks:List Key}(q:SetM prog w h a ks)(k:∀o,h.get? a=some o->h'.get? a=some o):SetM prog w h' a ks:=by
 obtain⟨es,ep,t,ho,r⟩:=q
 exact⟨es,ep,t,k _ ho,r⟩
theorem wa1(W:WalksS prog w A.in1 I fp wr G n P St)(S:Addr)(hSf:S∉fp){ks:List Key}(hks:ks.length=n)(hval:∀i v,P i v->∃k,ks[i]?=some k/\Xv k v=true)(hb:n+1<scanBound) :
  ∀(k i:Nat) (s:Shared),n - i=k->i<=n->St i s->SetM prog w s.heap S (ks.take i) →
   (∀s',Moved (S::wr) G s s'->SetM prog w s'.heap S ks->R (.ok (.ret .none)) s') →
   codeAny (model prog w) A (.builtin "set.update.loop" ⟨[.ref S,.ref I],[]⟩) R s:=by
 have hSw:S∉wr:=fun h=>hSf (W.sub _ h)
 have hsub:∀b∈wr,b∈S::wr:=fun b hb=>uW _ hb
 intro k
 induction k with
 | zero=>
  intro i s hk hi hst hS hR
  have hin:i=n:=by lia
  subst hin
  refine codeAny_builtin PyProof.Rows.F.entry_set_update_loop ?_
  rw[Around.under_plainId PyProof.Rows.F.plain_set_update_loop _]
  show wpAny _ A.in1 (pyNext (.ref I) >>= _) _ _ s
  refine wpAny_bind (W.done s _ _ hst fun s' hm=>?_)
  show wpAny _ A.in1 (ret Value.none) _ _ s'
  rw[u9 (by lia)]at hS
  exact wpAny_pure (hR s' (hm.mono hsub) (hS.moved fun o e=>hm.heap S _ hSw e))
 | succ k ih=>
  intro i s hk hi hst hS hR
  have hlt:i<n:=by lia
  refine codeAny_builtin PyProof.Rows.F.entry_set_update_loop ?_
  rw[Around.under_plainId PyProof.Rows.F.plain_set_update_loop _]
  show wpAny _ A.in1 (pyNext (.ref I) >>= _) _ _ s
  refine wpAny_bind (W.item i s _ _ hlt hst fun v s' hP hst' hm=>?_)
  obtain⟨kk,hkk,hk'⟩:=hval i v hP
  have hS':SetM prog w s'.heap S (ks.take i):=hS.moved fun o e=>hm.heap S _ hSw e
  show wpAny _ A.in1 (holding [v] (setAdd S v) >>= _) _ _ s'
  refine wpAny_bind (wpAny_holding ?_)
  unfold setAdd
  refine wpAny_holding ?_
  refine wpAny_bind ((We prog w).pyHash (k:=kk) hk' ?_)
  have htk:ks.take (i+1)=ks.take i++[kk]:=by rw[ud,hkk];rfl
  refine SetM.add (s:={s' with toks:=s'.toks+1}) hS' hk' (by rw[uX];lia) fun h' hsb hSi b=>?_
  rw[←htk]at hSi
  refine wpAny_pure ⟨plainId_quiet PyProof.Rows.F.plain_set_update_loop _,ih (i+1) _ (by lia) hlt (W.frame _ s' _ _ hst' (xw _) fun b hb o e=>?_) hSi fun s'' hm'' hS''=>?_⟩
  ·rw[hsb.2 b (fun h:b=S=>hSf (by rw[←h];exact hb))];exact e
  ·refine hR s'' (Moved.trans W.gtrans ((hm.mono hsub).then_heap (xw _) fun b o hb e=>?_) hm'') hS''
   rw[hsb.2 b (fun h:b=S=>hb (by rw[h];exact uc))];exact e
end
section
variable {prog:Program} {w:World} {A:Around} {E:ZVP} {s:Shared}
theorem XX{l:Addr}{items:Array Value}{ks:List Key}{Q:ZVP}
  (hh:A.handled=none) (hl:s.heap.IsList l items) (hks:ks.length=items.size) (hi:∀(i:Nat) (v:Value),items[i]?=some v->∃k,ks[i]?=some k/\Xv k v=true) (hb:items.size+1<scanBound)
  (h:∀(h':Heap) (tk:Nat),SetM prog w h' s.heap.objs.size ks->s.heap.objs.size<h'.objs.size →
   (∀b o,b<s.heap.objs.size->s.heap.get? b=some o->h'.get? b=some o)->Q (.ref s.heap.objs.size) {s with heap:=h',toks:=tk}) :
  wpAny (model prog w) A (call (.type "set") [.ref l]) Q E s:=by
 obtain⟨c,tl,hmro⟩:=PySem.F.called_set.mro
 have hmade:=PySem.F.called_set.made
 have hsub:=PySem.F.called_set.sub
 refine wpAny_call (codeAny_of_tree ?_)
 show wpAny _ _ (callAny (.type "set") _) _ _ _
 refine wpAny_pure ⟨Code.quiet_builtin _ (by decide +kernel),codeAny_builtin PySem.F.entry_type_call ?_⟩
 rw[Around.under_plain (weight_type_call_type "set" [.ref l] []) rfl]
 have h1:=PySem.F.called_set.notType
 have h2:=PySem.F.called_set.canCreate
 have hct:=PySem.F.typeCall_set_1 (.ref l)
 repeat (any_goals (first | assumption | wp_step))
 refine codeAny_mono (kbl (.ref l) (E:=E) (Q₁:=fun obj s₁=>obj=.ref s.heap.objs.size/\s₁={s with heap:=s.heap.push (qw w)}) ⟨rfl,rfl⟩) fun r s₁ hr=>?_
 cases r with
 | error e=>exact hr
 | ok fl=>
  cases fl with
  | ret obj=>
   obtain⟨rfl,rfl⟩:=hr
   have hS:(s.heap.push (qw w)).get? s.heap.objs.size=some (qw w):=uT _ rfl
   have hT:Shared.TypeIs {s with heap:=s.heap.push (qw w)} (.ref s.heap.objs.size) "set":=⟨_,hS,rfl⟩
   have hli:=PySem.F.called_set.init.lookup
   have hbi:=PySem.F.called_set.init.bind (.ref s.heap.objs.size)
   repeat (any_goals (first | assumption | wp_step))
   refine codeAny_mono (codeAny_call_builtin (R:=wants (fun r s₂=>r=.none/\∃h' tk,s₂={s with heap:=h',toks:=tk} ∧
     SetM prog w h' s.heap.objs.size ks/\(∀b o,b<s.heap.objs.size->s.heap.get? b=some o->h'.get? b=some o)) E) PySem.F.called_set.init.plain PySem.F.entry_set_init (check_set_init_1 hT ?_)) fun r₂ s₂ hr₂=>?_
   ·obtain⟨ol,hol,hcl,nl,hdl⟩:=hl
    obtain⟨ocls,odict,odata,oslots⟩:=ol
    simp only at hcl hdl
    subst hcl;subst hdl
    have hol':(s.heap.push (qw w)).get? l=some {cls:=.type "list",dict:=odict,data:=.seq items nl,slots:=oslots}:=uC _ hol
    have hsls:=PySem.F.sub_list_set
    have hslf:=PySem.F.sub_list_frozenset
    have hne:(Value.type "list"==Value.type "dict")=false:=by decide
    have hl1:(s.heap.push (qw w)).IsList l items:=⟨_,hol',rfl,nl,rfl⟩
    unfold qw at hS hT hol' hl1 ⊢
    unfold Builtin.«set.__init__» noKeywords Builtin.Frozenset.updateFrom
    generalize hPI:pyIter=PIt
    wp_walk
    subst hPI
    refine wpAny_pyIter_list hl1 ?_
    refine wpAny_bind (wpAny_runValue ?_)
    have hlS:l<s.heap.objs.size:=uM hol
    have hh3:A.in1.in1.in1.handled=none:=by simp[hh]
    have hneI:l≠(s.heap.push (qw w)).objs.size:=by
     rw[xO];exact uR (xK hlS)
    have hSf:s.heap.objs.size∉[(s.heap.push (qw w)).objs.size,l]:=by
     rw[xO];simp only[uZ,uL,u6,or_false,not_or]
     exact⟨uR (yU _),xT hlS⟩
    refine wa1 ((Walks.list hh3 _ l hneI items).toS) s.heap.objs.size
     hSf hks (fun i v hv=>hi i v hv) hb (items.size - 0) 0 _ (by lia) (ua _)
     ⟨⟨_,uT _ rfl,rfl,rfl⟩,(hl1.push _)⟩ ?hS0 ?hR
    case hS0=>
     exact⟨#[],0,_,uC _ hS,fun e he=>by simp at he,by simp,fun k=>by simp,by rfl,rfl,fun⟨k,hk,_⟩=>by simp at hk⟩
    case hR=>
     intro s' hm hS'
     obtain⟨h',g',d',tk',os'⟩:=s'
     have eg:g'=s.gens:=hm.gens
     have ed:d'=s.drawn:=hm.drawn
     have eo:os'=s.os:=hm.os
     subst eg;subst ed;subst eo
     show wpAny _ _ _ _ _ _
     refine wpAny_pure ?_
     show wpAny _ _ (ret Value.none) _ _ _
     refine wpAny_pure ⟨rfl,h',tk',rfl,hS',fun b o hb e=>?_⟩
     have hb1:b≠s.heap.objs.size:=uR hb
     have hb2:b≠(s.heap.push (qw w)).objs.size:=by
      rw[xO];exact uR (xK hb)
     exact hm.heap b o (by simp only[uZ,uL,u6,or_false,not_or];exact⟨hb1,hb2⟩) (uC _ (uC _ e))
   ·cases r₂ with
    | error e=>exact hr₂
    | ok fl₂=>
     cases fl₂ with
     | ret r=>
      obtain⟨rfl,h',tk,rfl,hS',hk'⟩:=hr₂
      have hlt:s.heap.objs.size<h'.objs.size:=by obtain⟨_,_,_,q,_⟩:=id hS';exact uM q
      repeat (any_goals (first | assumption | wp_step))
      exact h _ _ hS' hlt hk'
     | _=>exact hr₂.elim
  | _=>exact hr.elim
end
theorem XV{α:Type}:∀{l:List α} {i:Nat} (h:i<l.length),(l[i]::l.eraseIdx i).Perm l
 | a::l,0,h=>by simp
 | a::l,i+1,h=>by
  rw[List.getElem_cons_succ,xo]
  exact(List.Perm.swap _ _ _).trans (List.Perm.cons _ (XV (by simpa using h)))
theorem wY{α:Type}{f:Nat->Nat}:∀(n k:Nat) (left:List α) (out:Array α),n=left.length->(pickOrder.go f n k left out).toList.Perm (out.toList++left)
 | 0,k,left,out,hn=>by
  have:left=[]:=ut.mp hn.symm
  subst this
  unfold pickOrder.go;rw[List.append_nil]
 | n+1,k,left,out,hn=>by
  unfold pickOrder.go
  have hlt:f k % left.length<left.length:=Nat.mod_lt _ (by lia)
  rw[uB hlt]
  dsimp only
  refine(wY n (k+1) _ _ (by rw[yW hlt];lia)).trans ?_
  rw[ym,uf]
  refine List.Perm.append_left _ ?_
  exact XV hlt
theorem kaZ{α:Type}(f:Nat->Nat)(xs:Array α):(pickOrder f xs).toList.Perm xs.toList:=by
 have:=wY (f:=f) xs.size 0 xs.toList #[] (by simp)
 simpa[pickOrder] using this
section
variable {M:Model} {A:Around} {E:ZVP} {s:Shared}
theorem vQ{α:Type}:∀(n:Nat) (xs:List α) (s:Shared) {Q:List α->Shared->Prop},n=xs.length->(∀ys,ys.Perm xs->∀d,Q ys {s with drawn:=d})->wpAny M A (drawOrder n xs) Q E s
 | 0,xs,s,Q,hn,h=>by
  have:xs=[]:=ut.mp hn.symm
  subst this
  unfold drawOrder;exact wpAny_pure (h [] .nil s.drawn)
 | n+1,[],s,Q,hn,h=>by cases hn
 | n+1,x::xs,s,Q,hn,h=>by
  unfold drawOrder
  refine wpAny_bind (YaG (by simp) fun i hi d=>?_)
  rw[uB hi]
  dsimp only
  refine wpAny_bind (vQ n _ _ (by rw[yW hi,←hn];rfl) fun ys hp d'=>wpAny_pure (h _ ?_ d'))
  exact(List.Perm.cons _ hp).trans (XV hi)
end
def SOrd(w:World)(h:Heap)(it S T:Addr)(es:Array (Int×Value))(ep:Nat)(t:SetTable)(vs:List Value)(c:Nat):Prop:=
 ∃(first:Value) (i:Nat),h.get? it=some (itO first i S es.size ep)/\c<=es.size/\vs.length=es.size ∧
  ((w.params.followText "set-order"=true/\(∃sl:Nat,first=.int sl 0)/\i=c/\vs=(pickOrder (w.params.setOrder S ep) es).toList.map (·.2)) \/
   (w.params.followText "set-order"=false/\∃(ps:List Nat),first=.ref T/\h.get? T=some {cls:=.type "tuple",data:=.seq (ps.map fun i:Nat=>rawInt i).toArray}/\ps.length=es.size/\(∀x∈ps,x<es.size)/\i=c/\vs=ps.map fun p=>(es.getD p (0,.none)).2) \/
   (w.params.followText "set-order"=false/\(!t.plain&&decide (es.size > 1))=false/\es.size<=1/\vs=es.toList.map (·.2)/\∃sl:Nat,first=.int sl 0/\(c=0->sl=0)/\(c=1->∀j,t.place[0]?=some j->j<sl)))
theorem SOrd.at_{w:World}{h h':Heap}{it S T:Addr}{es:Array (Int×Value)}{ep:Nat}{t:SetTable}{vs:List Value}{c:Nat}(q:SOrd w h it S T es ep t vs c)(k1:∀o,h.get? it=some o->h'.get? it=some o)(k2:∀o,h.get? T=some o->h'.get? T=some o):SOrd w h' it S T es ep t vs c:=by
 obtain⟨first,i,ho,hcs,hvl,r⟩:=q
 refine⟨first,i,k1 _ ho,hcs,hvl,?_⟩
 rcases r with r | ⟨r1,ps,r2,r3,r4⟩ | r
 ·exact .inl r
 ·exact .inr (.inl ⟨r1,ps,r2,k2 _ r3,r4⟩)
 ·exact .inr (.inr r)
theorem ZaZ{p:Array Nat}{j sl:Nat}(hp:p.size=1)(hj:p[0]?=some j)(h:j<sl):SetTable.below p sl=1:=by
 unfold SetTable.below
 rw[hp]
 unfold SetTable.below.go
 rw[if_pos (by decide)]
 dsimp only
 have:p.getD ((0+1) / 2) sl=j:=by
  rw[xt,show(0+1) / 2=0 from rfl,hj];rfl
 rw[this,if_pos h]
 unfold SetTable.below.go
 rfl
section
variable {prog:Program} {w:World} {A:Around} {E:ZVP} {s:Shared} {S it:Addr} {es:Array (Int×Value)} {ep:Nat} {t:SetTable}
theorem XaU{sl g:Nat}{Q:Option (Value×Nat)->Shared->Prop}(hS:s.heap.get? S=some (vW es ep t))(hf:t.fits es.size=true)(hw:w.params.followText "set-order"=true)
  (h:Q (((pickOrder (w.params.setOrder S ep) es)[g]?).map fun e=>(e.2,sl)) s):wpAny (model prog w) A (setNext S sl g ep) Q E s:=by
 unfold setNext
 refine wpAny_bind (wpAny_setState_of hS rfl hf ?_)
 dsimp only
 refine wpAny_bind (XO ?_)
 rw[hw]
 simp only[↓reduceIte,bne_self_eq_false,ue]
 unfold setWalk
 refine wpAny_bind (wpAny_bind (wpAny_setState_of hS rfl hf ?_))
 dsimp only
 refine wpAny_bind (XO ?_)
 rw[hw]
 simp only[↓reduceIte]
 exact wpAny_bind (wpAny_askSetting (wpAny_pure (wpAny_pure h)))
theorem ZaC{T:Addr}{vs:List Value}{c:Nat}{Q:Option Value->Shared->Prop}(hh:A.handled=none)(hS:s.heap.get? S=some (vW es ep t))(hf:t.fits es.size=true)(hl:t.led = !w.params.followText "set-order")(hI:SOrd w s.heap it S T es ep t vs c)
  (q1:∀v h',vs[c]?=some v->SOrd w h' it S T es ep t vs (c+1)->yE it s.heap h'->Q (some v) {s with heap:=h'})
  (q0:∀h',c=es.size->Heap.ExtBut it s.heap h'->Q none {s with heap:=h'}):wpAny (model prog w) A (pyNext (.ref it)) Q E s:=by
 obtain⟨first,i,ho,hcs,hvl,r⟩:=hI
 have hT:s.TypeIs (.ref it) "set_iterator":=⟨_,ho,rfl⟩
 have hpl:t.place.size=es.size:=by unfold SetTable.fits at hf;simp at hf;exact hf.1
 unfold pyNext
 refine wpAny_bind (wpAny_attempt (wpAny_callSpecial?_slot (name:=Str.ofString "__next__") hT slot_setiter_next
  (wpAny_call_entry slot_setiter_next hT X0 ?_ (W6 _))))
 unfold Builtin.«set_iterator.__next__»
 refine wpAny_bind (m:=slotArgs "__next__" 0 ⟨[.ref it],[]⟩) (wpAny_pure ?_)
 refine wpAny_bind (wpAny_fieldsOf ho rfl ?_)
 dsimp only
 refine wpAny_bind (wpAny_setEntries_of hS rfl hf ?_)
 simp only[bne_self_eq_false,ue,if_false]
 have fin:∀(h1:Heap),yE it s.heap h1->c=es.size->wpAny (model prog w) A.in1 (newExc (.type "StopIteration") [] >>= raiseNew:Sem PySem.Fin) (fun fin s'=>match fin with | .done f=>False | .again _=>False) (fun e s'=>wpAny (model prog w) A (do if ←isInstance e (.type "StopIteration") then pure none else throw e) Q E s') {s with heap:=h1}:=fun h1 sb hz=>by
  refine waJ hh fun h' a hx hty=>?_
  obtain⟨o1,o2,rfl⟩:=hx
  refine wpAny_bind (wpAny_isInstance (T:="StopIteration") (b:=true) hty isSubtype_stop ?_)
  exact wpAny_pure (q0 _ hz ((sb.extBut.push _).push _))
 rcases r with ⟨hw,⟨sl,rfl⟩,rfl,hv⟩ | ⟨hw,ps,rfl,hTp,hpz,hps,rfl,hv⟩ | ⟨hw,hd,h1,hv,sl,rfl,h0,hc1⟩
 ·dsimp only
  refine wpAny_bind (XaU (sl:=(sl:Int).toNat) (g:=(i:Int).toNat) hS hf hw ?_)
  rw[show(i:Int).toNat=i from xW i,show(ep:Int).toNat=ep from xW ep]
  have hz:=wan (w.params.setOrder S ep) es
  by_cases hi:i<es.size
  ·have e1:(pickOrder (w.params.setOrder S ep) es)[i]?=some ((pickOrder (w.params.setOrder S ep) es)[i]'(by lia)):=um (by lia)
   rw[e1]
   simp only[xk]
   refine wpAny_bind (wpAny_setField ho rfl (by simp[itO]) ?_)
   refine wpAny_bind (wpAny_setField (jw ho rfl) rfl (by simp[itO]) ?_)
   refine wpAny_pure ⟨_,rfl,wpAny_pure (q1 _ _ ?_ ?_ ((Heap.SameBut.update ..).trans (Heap.SameBut.update ..)))⟩
   ·rw[hv,uG,xJ,e1];rfl
   ·exact⟨_,i+1,jw (jw ho rfl) rfl,hi,hvl,.inl ⟨hw,⟨_,rfl⟩,rfl,hv⟩⟩
  ·have e1:(pickOrder (w.params.setOrder S ep) es)[i]?=none:=uo (by lia)
   rw[e1]
   simp only[Option.map_none]
   refine wpAny_bind (wpAny_setField ho rfl (by simp[itO]) ?_)
   refine wpAny_mono (fin _ (Heap.SameBut.update ..) (by lia)) (fun f s' z=>?_) fun _ _ z=>z
   cases f<;>exact z.elim
 ·dsimp only
  refine wpAny_bind (wpAny_seqItems hTp rfl ?_)
  dsimp only
  rw[show(i:Int).toNat=i from xW i]
  by_cases hi:i<es.size
  ·have hi2:i<ps.length:=by lia
   have e1:((ps.map fun i:Nat=>rawInt i).toArray)[i]?=some (rawInt (ps[i]:Nat)):=by simp[hi2]
   rw[e1]
   have hx:=hps _ (xS hi2)
   have e2:es[ps[i]]?=some es[ps[i]]:=um hx
   refine wpAny_bind (qaO (pl:=((ps[i]:Nat):Int).toNat) hS hf (by rw[xW];exact e2) ?_)
   refine wpAny_bind (wpAny_setField ho rfl (by simp[itO]) ?_)
   refine wpAny_pure ⟨_,rfl,wpAny_pure (q1 _ _ ?_ ?_ (Heap.SameBut.update ..))⟩
   ·rw[hv,uG,uB hi2]
    simp only[xk]
    rw[xt,e2];rfl
   have hne:T≠it:=fun e=>by subst e;rw[ho]at hTp;exact absurd (show Value.type "set_iterator"=Value.type "tuple" from congrArg Obj.cls (Option.some.inj hTp)) (by decide)
   refine⟨_,i+1,jw ho rfl,hi,hvl,.inr (.inl ⟨hw,ps,rfl,?_,hpz,hps,rfl,hv⟩)⟩
   rw[(Heap.SameBut.update s.heap it _).2 T hne]
   exact hTp
  ·have e1:((ps.map fun i:Nat=>rawInt i).toArray)[i]?=none:=by
    rw[uo];simp;lia
   rw[e1]
   refine wpAny_bind (wpAny_setField ho rfl (by simp[itO]) ?_)
   refine wpAny_bind (wpAny_setField (jw ho rfl) rfl (by simp[itO]) ?_)
   refine wpAny_mono (fin _ ((Heap.SameBut.update ..).trans (Heap.SameBut.update ..)) (by lia)) (fun f s' z=>?_) fun _ _ z=>z
   cases f<;>exact z.elim
 ·dsimp only
  rw[hw]at hl
  refine wpAny_bind (kbb (sl:=(sl:Int).toNat) (g:=(i:Int).toNat) hS hf hw hd hl ?_)
  rw[show(sl:Int).toNat=sl from xW sl]
  by_cases hlt:c<es.size
  ·have hc0:c=0:=by lia
   have hsl:=h0 hc0
   subst hsl
   rw[qaP]
   have hs1:0<es.size:=by lia
   have e1:es[0]?=some es[0]:=um hs1
   have e2:t.place[0]?=some (t.place[0]'(by lia)):=um (by lia)
   rw[e1,e2]
   dsimp only
   refine wpAny_bind (wpAny_setField ho rfl (by simp[itO]) ?_)
   refine wpAny_bind (wpAny_setField (jw ho rfl) rfl (by simp[itO]) ?_)
   refine wpAny_pure ⟨_,rfl,wpAny_pure (q1 _ _ ?_ ?_ ((Heap.SameBut.update ..).trans (Heap.SameBut.update ..)))⟩
   ·rw[hv,hc0,uG,xJ,e1];rfl
   ·exact⟨_,i+1,jw (jw ho rfl) rfl,by lia,hvl,.inr (.inr ⟨hw,hd,h1,hv,_,rfl,fun z=>by lia,fun _ j hj=>by rw[e2]at hj;cases hj;lia⟩)⟩
  ·have hce:c=es.size:=by lia
   have e1:es[SetTable.below t.place sl]?=none:=by
    by_cases hz:es.size=0
    ·exact uo (by lia)
    ·have h11:es.size=1:=by lia
     have e2:t.place[0]?=some (t.place[0]'(by lia)):=um (by lia)
     rw[ZaZ (by lia) e2 (hc1 (by lia) _ e2)]
     exact uo (by lia)
   rw[e1]
   dsimp only
   refine wpAny_bind (wpAny_setField ho rfl (by simp[itO]) ?_)
   refine wpAny_mono (fin _ (Heap.SameBut.update ..) hce) (fun f s' z=>?_) fun _ _ z=>z
   cases f<;>exact z.elim
end
structure Wk(prog:Program)(w:World)(A:Around)(I:Addr)(fp wr:List Addr)(n:Nat)(P:Nat->Value->Prop)(St:Nat->Heap->Prop):Prop where
 sub:∀b∈wr,b∈fp
 frame:∀i h h',St i h->(∀b∈fp,∀o,h.get? b=some o->h'.get? b=some o)->St i h'
 item:∀i (s:Shared) (Q:Option Value->Shared->Prop) (E:ZVP),i<n->St i s.heap->(∀v h' tk,P i v->St (i+1) h' →
  (∀b o,b∉wr->s.heap.get? b=some o->h'.get? b=some o)->Q (some v) {s with heap:=h',toks:=tk})->wpAny (model prog w) A (pyNext (.ref I)) Q E s
 done:∀(s:Shared) (Q:Option Value->Shared->Prop) (E:ZVP),St n s.heap->(∀h' tk,
  (∀b o,b∉wr->s.heap.get? b=some o->h'.get? b=some o)->Q none {s with heap:=h',toks:=tk})->wpAny (model prog w) A (pyNext (.ref I)) Q E s
section
variable {prog:Program} {w:World} {A:Around} {E:ZVP} {s:Shared}
theorem WaF{R:Result->Shared->Prop}{I L:Addr}{res:Value}{fp wr:List Addr}{n:Nat}{P:Nat->Value->Prop}{St:Nat->Heap->Prop}(W:Wk prog w A.in1 I fp wr n P St)(hLf:L∉fp)(hn:n<=1000) :
  ∀(m c:Nat) (s:Shared) (acc:Array Value) (k:Nat),n - c=m->c<=n->St c s.heap->s.heap.get? L=some (wab acc k)->acc.size=c->(∀(i:Nat) v,acc[i]?=some v->P i v) →
   (∀h' tk acc' k',(∀b o,b≠L->b∉wr->s.heap.get? b=some o->h'.get? b=some o)->h'.get? L=some (wab acc' k')->acc'.size=n->(∀(i:Nat) v,acc'[i]?=some v->P i v)->R (.ok (.ret res)) {s with heap:=h',toks:=tk}) →
   codeAny (model prog w) A (.builtin "list.extend.loop" ⟨[.ref L,.ref I,res],[]⟩) R s:=by
 have hLw:L∉wr:=fun z=>hLf (W.sub _ z)
 intro m
 induction m with
 | zero=>
  intro c s acc k hm hc hst hL hz hP hR
  have e:c=n:=by lia
  subst e
  refine codeAny_builtin PySem.F.entry_extend_loop ?_
  rw[Around.under_plainId xb _]
  show wpAny _ A.in1 (pyNext (.ref I) >>= _) _ _ s
  refine wpAny_bind (W.done s _ _ hst fun h' tk kp=>?_)
  exact wpAny_pure (hR h' tk acc k (fun b o _ h2 e=>kp b o h2 e) (kp L _ hLw hL) hz hP)
 | succ m ih=>
  intro c s acc k hm hc hst hL hz hP hR
  refine codeAny_builtin PySem.F.entry_extend_loop ?_
  rw[Around.under_plainId xb _]
  show wpAny _ A.in1 (pyNext (.ref I) >>= _) _ _ s
  refine wpAny_bind (W.item c s _ _ (by lia) hst fun v h' tk hv hst' kp=>?_)
  have hL':h'.get? L=some (wab acc k):=kp L _ hLw hL
  show wpAny _ A.in1 (updateSeq L (·.push v) >>= _) _ _ _
  have hL2:=uw (Obj.mapSeq (·.push v)) hL' rfl
  have oth:∀b o,b≠L->h'.get? b=some o->(h'.update L (Obj.mapSeq (·.push v))).get? b=some o:=fun b o hb e=>(xG _ _ (Ne.symm hb)).trans e
  refine wpAny_bind ?_
  refine wpAny_updateSeq hL' rfl (wpAny_pure ⟨plainId_quiet xb _,ih (c+1) _ (acc.push v) _ (by lia) (by lia) (W.frame _ _ _ hst' fun b hb o e=>oth b o (fun z=>hLf (z▸hb)) e) hL2 (by rw[Array.size_push,hz]) (fun i u hu=>?_) fun h2 tk2 acc' k' a1 a2 a3 a4=>?_⟩) (by rw[sizeLine_eq];lia) (by show(acc.push v).size<=sizeLine+1;rw[Array.size_push,sizeLine_eq];lia)
  ·rw[Array.getElem?_push]at hu
   split at hu
   ·cases hu;rename_i e;subst e;rw[hz];exact hv
   ·exact hP i u hu
  ·exact hR h2 tk2 acc' k' (fun b o h1 h3 e=>a1 b o h1 h3 (oth b o h1 (kp b o h3 e))) a2 a3 a4
theorem kam:splitId "dict.__len__"=some ("dict","__len__"):=by kernel_rfl
theorem kaj:isSubtype (.type "dict") (.type "dict")=pure true:=by rw[isSubtype_type];kernel_rfl
theorem war{S:Addr}{Q:Bool->Shared->Prop}(hT:s.TypeIs (.ref S) "dict")(h:Q false s):wpAny (model prog w) A (Builtin.List.listLengthHint (.ref S)) Q E s:=by
 unfold Builtin.List.listLengthHint
 refine wpAny_bind (wpAny_specialOf hT PySem.F.slot_dict_len.lookup ?_)
 dsimp only
 rw[kam]
 dsimp only
 refine wpAny_bind (wpAny_isInstance hT kaj ?_)
 simp only[Bool.not_true,ue,if_false]
 exact wpAny_bind (wpAny_typeOf hT (wpAny_pure h))
theorem wW{S:Addr}{T:String}{Q:List Value->Shared->Prop}(hTT:T="set"\/T="dict")(hT:s.TypeIs (.ref S) T)
  (hi:wpAny (model prog w) A.in1 (pyIter (.ref S)) (fun itv s1=>∃(I:Addr) (fp wr:List Addr) (n:Nat) (P:Nat->Value->Prop) (St:Nat->Heap->Prop) (d:Drawn),itv=.ref I/\n<=1000/\Wk prog w A.in1 I fp wr n P St/\St 0 s1.heap/\s.heap.objs.size∉fp/\(∀b∈wr,s.heap.objs.size<b) ∧
    (∃h1,s1={s with heap:=h1,drawn:=d}/\∀b o,(s.heap.push {cls:=.type "list",data:=.seq ([]:List Value).toArray}).get? b=some o->h1.get? b=some o) ∧
    ∀(vs:List Value) (h':Heap) (tk:Nat),vs.length=n->(∀(i:Nat) u,vs[i]?=some u->P i u)->s.heap.objs.size<=h'.objs.size->(∀b o,s.heap.get? b=some o->h'.get? b=some o)->Q vs {s with heap:=h',drawn:=d,toks:=tk}) (fun _ _=>False)
   {s with heap:=s.heap.push {cls:=.type "list",data:=.seq ([]:List Value).toArray}}) :
  wpAny (model prog w) A (collect (.ref S)) Q E s:=by
 have hlt:S<s.heap.objs.size:=by obtain⟨o,e,_⟩:=hT;exact uM e
 unfold collect
 refine wpAny_bind (wpAny_runValue (codeAny_builtin PySem.F.entry_proto_collect ?_))
 rw[Around.under_plainId PySem.F.plain_proto_collect _]
 show wpAny _ A.in1 (newList [] >>= fun l=>again (.builtin "list.__iadd__" ⟨[l,.ref S],[]⟩)) _ _ s
 refine wpAny_bind (wpAny_newObj_type ?_)
 refine wpAny_pure ⟨plainId_quiet PySem.F.plain_list_iadd _,codeAny_builtin PySem.F.entry_list_iadd ?_⟩
 rw[Around.under_plainId PySem.F.plain_list_iadd _]
 show wpAny _ A.in1 (Builtin.List.listExtendWith (.ref s.heap.objs.size) (.ref S) (.ref s.heap.objs.size)) _ _ _
 unfold Builtin.List.listExtendWith
 have hT1:Shared.TypeIs {s with heap:=s.heap.push {cls:=.type "list",data:=.seq ([]:List Value).toArray}} (.ref S) T:=by
  obtain⟨o,e,c⟩:=hT
  exact⟨o,uC _ e,c⟩
 refine wpAny_bind (wpAny_typeOf hT1 ?_)
 have h1:Builtin.List.listSameRef (.ref s.heap.objs.size) (.ref S)=false:=by simp only[Builtin.List.listSameRef];exact beq_false_of_ne (xT hlt)
 have h2:(Value.type T==Value.type "list")=false:=by rcases hTT with rfl | rfl<;>decide
 have h3:(Value.type T==Value.type "tuple")=false:=by rcases hTT with rfl | rfl<;>decide
 simp only[h1,h2,h3,Bool.or_false,ue,if_false]
 refine wpAny_bind (wpAny_mono hi (fun itv s1 hz=>?_) fun _ _ z=>z.elim)
 obtain⟨I,fp,wr,n,P,St,d,rfl,hn,W,st0,hLf,hwr,⟨h1',rfl,kp⟩,hQ⟩:=hz
 have hT3:Shared.TypeIs {s with heap:=h1',drawn:=d} (.ref S) T:=by
  obtain⟨o,e,c⟩:=hT
  exact⟨o,kp _ _ (uC _ e),c⟩
 have hint:wpAny (model prog w) A.in1 (Builtin.List.listLengthHint (.ref S)) (fun b s'=>b=false/\s'={s with heap:=h1',drawn:=d}) (fun _ _=>False) {s with heap:=h1',drawn:=d}:=by
  rcases hTT with rfl | rfl
  ·exact wbb hT3 ⟨rfl,rfl⟩
  ·exact war hT3 ⟨rfl,rfl⟩
 refine wpAny_bind (wpAny_holding (wpAny_mono hint (fun b s' hz=>?_) fun _ _ z=>z.elim))
 obtain⟨rfl,rfl⟩:=hz
 have hL1:h1'.get? s.heap.objs.size=some {cls:=.type "list",data:=.seq ([]:List Value).toArray}:=kp _ _ (uT _ rfl)
 have go:∀{K:PySem.Fin->Shared->Prop} {E':ZVP},(∀h2 k,(∀b o,b≠s.heap.objs.size->h1'.get? b=some o->h2.get? b=some o)->h2.get? s.heap.objs.size=some (wab #[] k)->K (.again (.builtin "list.extend.loop" ⟨[.ref s.heap.objs.size,.ref I,.ref s.heap.objs.size],[]⟩)) {s with heap:=h2,drawn:=d}) →
   wpAny (model prog w) A.in1 (rule "list.extend.makes-room" >>= fun _=>Builtin.List.listTouch (.ref s.heap.objs.size) >>= fun _=>
    again (.builtin "list.extend.loop" ⟨[.ref s.heap.objs.size,.ref I,.ref s.heap.objs.size],[]⟩)) K E' {s with heap:=h1',drawn:=d}:=by
  intro K E' hK
  refine wpAny_bind (wpAny_rule ?_)
  refine wpAny_bind ?_
  show wpAny _ A.in1 (updateSeq s.heap.objs.size (·.push .none) >>= fun _=>updateSeq s.heap.objs.size (·.pop)) _ _ _
  refine wpAny_bind (wpAny_updateSeq hL1 rfl ?_)
  have hL2:=uw (Obj.mapSeq (·.push Value.none)) hL1 rfl
  refine wpAny_updateSeq hL2 rfl ?_
  have hL3:=uw (Obj.mapSeq (·.pop)) hL2 rfl
  exact wpAny_pure (hK _ _ (fun b o hb e=>(xG _ _ (Ne.symm hb)).trans ((xG _ _ (Ne.symm hb)).trans e)) hL3)
 have fin:∀h2 k,(∀b o,b≠s.heap.objs.size->h1'.get? b=some o->h2.get? b=some o)->h2.get? s.heap.objs.size=some (wab #[] k)->∀{R:Result->Shared->Prop},(∀h' tk acc k',(∀b o,b≠s.heap.objs.size->b∉wr->h2.get? b=some o->h'.get? b=some o)->h'.get? s.heap.objs.size=some (wab acc k')->acc.size=n->(∀(i:Nat) v,acc[i]?=some v->P i v)->R (.ok (.ret (.ref s.heap.objs.size))) {s with heap:=h',drawn:=d,toks:=tk}) →
   codeAny (model prog w) A (.builtin "list.extend.loop" ⟨[.ref s.heap.objs.size,.ref I,.ref s.heap.objs.size],[]⟩) R {s with heap:=h2,drawn:=d}:=fun h2 k oth hL R hR=>
  WaF W hLf hn n 0 _ #[] k (by lia) (ua _) (W.frame _ _ _ st0 fun b hb o e=>oth b o (fun z=>hLf (z▸hb)) e) hL rfl (fun i v hv=>by simp at hv) hR
 rcases hTT with rfl | rfl <;>
 ·show wpAny _ A.in1 (rule "list.extend.makes-room" >>= fun _=>Builtin.List.listTouch (.ref s.heap.objs.size) >>= fun _=>
   again (.builtin "list.extend.loop" ⟨[.ref s.heap.objs.size,.ref I,.ref s.heap.objs.size],[]⟩)) _ _ _
  refine go fun h2 k oth hL=>⟨plainId_quiet xb _,fin h2 k oth hL fun h' tk acc k' kp' hL' hz hP=>?_⟩
  show wpAny _ A (load s.heap.objs.size >>= _) _ _ _
  refine wpAny_bind (wpAny_load hL' ?_)
  refine wpAny_pure (hQ acc.toList h' tk (by rw[uU];exact hz) (fun i u hu=>hP i u (by rw[←xJ];exact hu)) (yi (uM hL')) fun b o e=>?_)
  have hb:b<s.heap.objs.size:=uM e
  exact kp' b o (uR hb) (fun z=>absurd (hwr b z) (Nat.not_lt.mpr (yi hb))) (oth b o (uR hb) (kp _ _ (uC _ e)))
end
section
variable {prog:Program} {w:World} {A:Around} {E:ZVP} {s:Shared} {S it T:Addr} {es:Array (Int×Value)} {ep:Nat} {t:SetTable} {vs:List Value}
theorem jaZ(hh:A.handled=none)(hne:S≠it)(hf:t.fits es.size=true)(hl:t.led = !w.params.followText "set-order") :
  Wk prog w A it [it,S,T] [it] es.size (fun i v=>vs[i]?=some v) (fun c h=>SOrd w h it S T es ep t vs c/\h.get? S=some (vW es ep t)) where
 sub:=fun b hb=>by simp at hb;simp[hb]
 frame:=fun _ _ _ st hk=>⟨st.1.at_ (fun o e=>hk it (by simp) o e) (fun o e=>hk T (by simp) o e),hk S (by simp) _ st.2⟩
 item:=fun i s Q E hi st hQ=>by
  refine ZaC hh st.2 hf hl st.1 (fun v h' hv hI' sb=>?_) fun h' hz _=>absurd hz (uR hi)
  exact hQ v h' s.toks hv ⟨hI',by rw[sb.2 S hne];exact st.2⟩ fun b o hb e=>by rw[sb.2 b (fun z=>hb (by simp[z]))];exact e
 done:=fun s Q E st hQ=>by
  refine ZaC hh st.2 hf hl st.1 (fun v h' hv hI' sb=>?_) fun h' _ ext=>hQ h' s.toks fun b o hb e=>ext b o (fun z=>hb (by simp[z])) e
  obtain⟨_,_,_,q,_⟩:=hI'
  exact absurd q (by lia)
theorem kaP{α:Type}(f:Nat->α)(l:List α)(hl:∀i (h:i<l.length),f i=l[i]):(xC l.length).map f=l:=by
 apply List.ext_getElem
 ·simp
 ·intro i h1 h2
  simp only[xc,List.getElem_range]
  exact hl i h2
theorem Xbb{Q:ZVP}(hS:s.heap.get? S=some (vW es ep t))(hf:t.fits es.size=true)(hz:es.size<scanBound)(hpl:es.size<=1\/t.plain=false)
  (h:∀(h':Heap) (it T:Addr) (d:Drawn) (vs:List Value),vs.Perm (es.toList.map (·.2))->SOrd w h' it S T es ep t vs 0->s.heap.objs.size<=it->s.heap.objs.size<=T->(∀b o,s.heap.get? b=some o->h'.get? b=some o)->Q (.ref it) {s with heap:=h',drawn:=d}) :
  wpAny (model prog w) A (pyIter (.ref S)) Q E s:=by
 have hT:s.TypeIs (.ref S) "set":=⟨_,hS,rfl⟩
 refine wpAny_pyIter_slot hT PySem.F.slot_set_iter (wpAny_call_entry PySem.F.slot_set_iter hT Zak ?_ (PySem.F.args_set_iter_1 _))
 unfold Builtin.«frozenset.__iter__»
 refine wpAny_bind (m:=Builtin.Frozenset.slot0 "__iter__" ⟨[.ref S],[]⟩) (wpAny_pure ?_)
 unfold Builtin.Frozenset.sizeOf
 refine wpAny_bind (wpAny_bind (wpAny_setEntries_of hS rfl hf (wpAny_pure ?_)))
 unfold setDrawn
 refine wpAny_bind (wpAny_bind (wpAny_setState_of hS rfl hf ?_))
 dsimp only
 refine wpAny_bind (XO (wpAny_pure ?_))
 show wpAny _ _ (if (!w.params.followText "set-order"&&(!t.plain&&decide (es.size > 1)))=true then _ else _) _ _ s
 by_cases hw:w.params.followText "set-order"=true
 ·rw[hw]
  simp only[Bool.not_true,Bool.false_and,ue,if_false]
  refine wpAny_bind (wpAny_pure ?_)
  refine wpAny_bind (wpAny_setEpoch_of hS rfl hf ?_)
  refine wpAny_bind (wpAny_newObj_type (wpAny_pure ⟨_,rfl,"set_iterator",_,⟨_,uT _ rfl,rfl⟩,slot_setiter_next.lookup,?_⟩))
  have hz:=wan (w.params.setOrder S ep) es
  exact h _ _ s.heap.objs.size s.drawn _ ((kaZ (w.params.setOrder S ep) es).map _) ⟨_,0,uT _ rfl,ua _,by rw[uA,uU,hz],.inl ⟨hw,⟨0,rfl⟩,rfl,rfl⟩⟩ (uJ _) (uJ _) fun b o e=>uC _ e
 ·have hw':w.params.followText "set-order"=false:=by simpa using hw
  rw[hw']
  simp only[Bool.not_false,Bool.true_and]
  by_cases hd:(!t.plain&&decide (es.size > 1))=true
  ·rw[if_pos hd]
   refine wpAny_bind (vQ es.size (xC es.size) s (by simp) fun ys hp d=>wpAny_bind ?_)
   have hl:ys.length=es.size:=by rw[hp.length_eq,List.length_range]
   have hzl:es.size<=sizeLine:=fits_of_scanBound hz
   refine wpAny_newTuple ?_ (by rw[uA,hl];exact hzl)
   have hS2:(s.heap.push {cls:=.type "tuple",data:=.seq (ys.map fun i:Nat=>rawInt i).toArray}).get? S=some (vW es ep t):=uC _ hS
   refine wpAny_bind (wpAny_setEpoch_of hS2 rfl hf ?_)
   refine wpAny_bind (wpAny_newObj_type (wpAny_pure ⟨_,rfl,"set_iterator",_,⟨_,uT _ rfl,rfl⟩,slot_setiter_next.lookup,?_⟩))
   refine h _ _ s.heap.objs.size d (ys.map fun p=>(es.getD p (0,.none)).2) ?_ ⟨_,0,uT _ rfl,ua _,by rw[uA,hl],.inr (.inl ⟨hw',ys,rfl,uC _ (uT _ rfl),hl,fun x hx=>xf.mp (hp.mem_iff.mp hx),rfl,rfl⟩)⟩ (by rw[size_push'];exact xw _) (uJ _) fun b o e=>uC _ (uC _ e)
   refine(hp.map _).trans (List.Perm.of_eq ?_)
   have:=kaP (fun p=>(es.getD p (0,Value.none)).2) (es.toList.map (·.2)) fun i hi=>by
    rw[uA,uU]at hi
    rw[xt,um hi,xc,Array.getElem_toList];rfl
   rw[uA,uU]at this
   exact this
  ·have hd':(!t.plain&&decide (es.size > 1))=false:=by simpa using hd
   rw[hd']
   simp only[ue,if_false]
   refine wpAny_bind (wpAny_pure ?_)
   refine wpAny_bind (wpAny_setEpoch_of hS rfl hf ?_)
   refine wpAny_bind (wpAny_newObj_type (wpAny_pure ⟨_,rfl,"set_iterator",_,⟨_,uT _ rfl,rfl⟩,slot_setiter_next.lookup,?_⟩))
   have h1:es.size<=1:=by
    rcases hpl with q | q
    ·exact q
    ·rw[q]at hd'
     simp at hd'
     exact hd'
   exact h _ _ s.heap.objs.size s.drawn _ (List.Perm.refl _) ⟨_,0,uT _ rfl,ua _,by rw[uA,uU],.inr (.inr ⟨hw',hd',h1,rfl,0,rfl,fun _=>rfl,fun z=>absurd z (by decide)⟩)⟩ (uJ _) (uJ _) fun b o e=>uC _ e
theorem ZaG{Q:List Value->Shared->Prop}{seen:List Key}(hh:A.handled=none)(hI:SetM prog w s.heap S seen)(htx:∀k∈seen,Zaf k=true)(hn:seen.length<=1000)
  (h:∀(vs:List Value) (ks:List Key) (h':Heap) (d:Drawn) (tk:Nat),vs.length=ks.length->(∀(i:Nat) v,vs[i]?=some v->∃k,ks[i]?=some k/\Xv k v=true)->ks.Nodup->(∀k,k∈ks↔k∈seen)->s.heap.objs.size<=h'.objs.size->(∀b o,s.heap.get? b=some o->h'.get? b=some o)->Q vs {s with heap:=h',drawn:=d,toks:=tk}) :
  wpAny (model prog w) A (collect (.ref S)) Q E s:=by
 obtain⟨es,ep,t,hS,hel,hnd,hmem,hf,hl,hpl⟩:=hI
 have hsz:es.size<=1000:=by
  have:=wn hnd (fun x hx=>(hmem x).mp hx)
  rw[uA,uU]at this;lia
 have hlt:S<s.heap.objs.size:=uM hS
 have hpl':es.size<=1\/t.plain=false:=by
  by_cases z:es.size=0
  ·exact .inl (by lia)
  ·refine .inr (hpl ?_)
   have hne:0<(es.toList.map kq).length:=by rw[uA,uU];lia
   have hm:=xS hne
   exact⟨_,(hmem _).mp hm,htx _ ((hmem _).mp hm)⟩
 refine wW (.inl rfl) ⟨_,hS,rfl⟩ ?_
 refine Xbb (s:={s with heap:=s.heap.push {cls:=.type "list",data:=.seq ([]:List Value).toArray}}) (uC _ hS) hf (by rw[show scanBound=4096 from rfl];lia) hpl' fun h' it T d vs hp hO hi1 hT1 kp=>?_
 rw[size_push']at hi1 hT1
 have hne:S≠it:=uR (uP hlt (Nat.le_of_succ_le hi1))
 refine⟨it,[it,S,T],[it],es.size,_,_,d,rfl,hsz,jaZ (vs:=vs) (ep:=ep) (T:=T) (by simpa using hh) hne hf hl,⟨hO,kp _ _ (uC _ hS)⟩,?_,?_,⟨h',rfl,kp⟩,?_⟩
 ·simp only[uZ,u6,or_false,not_or]
  exact⟨uR hi1,xT hlt,uR hT1⟩
 ·intro b hb
  rw[uL]at hb
  rw[hb];exact hi1
 ·intro us h2 tk hul hP hge kp2
  have hvl:vs.length=es.size:=by rw[hp.length_eq,uA,uU]
  have heq:us=vs:=by
   apply List.ext_getElem?
   intro i
   by_cases hi:i<us.length
   ·rw[uB hi];exact(hP i _ (uB hi)).symm
   ·rw[xE (by lia),xE (by lia)]
  have hpk:(us.map fun v=>kq (0,v)).Perm (es.toList.map kq):=by
   rw[heq]
   have:=hp.map fun v=>kq (0,v)
   rw[uh]at this
   exact this
  refine h us (us.map fun v=>kq (0,v)) h2 d tk (by rw[uA]) (fun i v hv=>?_) (hpk.nodup_iff.mpr hnd) (fun k=>(hpk.mem_iff).trans (hmem k)) hge kp2
  refine⟨kq (0,v),by rw[uG,hv];rfl,?_⟩
  have hvm:v∈es.toList.map (·.2):=hp.mem_iff.mp (by rw[←heq];exact uF hv)
  obtain⟨e,he,rfl⟩:=uS.mp hvm
  obtain⟨⟨k,hk,_⟩,_⟩:=hel e he
  have:kq (0,e.2)=k:=XU (e:=(0,e.2)) hk
  rw[this];exact hk
end
def DRaw(h:Heap)(d:Addr)(es:Array DictEntry)(ep:Nat):Prop:=∃o,h.get? d=some o/\o.ExactDict/\o.data=.dict es ep
theorem DRaw.typeIs{s:Shared}{d:Addr}{es:Array DictEntry}{ep:Nat}(x:DRaw s.heap d es ep):s.TypeIs (.ref d) "dict":=let ⟨o,e,c,_⟩:=x;⟨o,e,c.1⟩
section
variable {prog:Program} {w:World} {A:Around} {E:ZVP} {s:Shared} {d it:Addr} {es:Array DictEntry} {ep:Nat}
theorem jaC{Q:ZVP}(hd:(d==sysModules)=false)(hm:DRaw s.heap d es ep)
  (hQ:Q (.ref s.heap.objs.size) {s with heap:=s.heap.push {cls:=.type "dict_keyiterator",data:=.fields #[.ref d,.int 0 0,.int es.size 0,.int ep 0]}}):wpAny (model prog w) A (pyIter (.ref d)) Q E s:=by
 obtain⟨ob,hob,_,hdt⟩:=id hm
 have hT':=hm.typeIs
 refine wpAny_pyIter_slot hT' PySem.F.slot_dict_iter (wpAny_call_entry PySem.F.slot_dict_iter hT' PySem.F.entry_dict_iter ?_ (PySem.F.args_dict_iter_1 _))
 unfold Builtin.«dict.__iter__» Builtin.Dict.dictSlotNone
 refine wpAny_bind (wpAny_bind (wpAny_notOrdered_dict hT' ?_))
 show wpAny _ _ (pure (Value.ref d)) _ _ s
 refine wpAny_pure ?_
 show wpAny _ _ (Builtin.Dict.showsAll d >>= _) _ _ s
 unfold Builtin.Dict.showsAll
 rw[if_neg (by rw[hd];exact uK)]
 refine wpAny_bind (wpAny_pure (wpAny_bind (wpAny_dictEntries hob hdt (wpAny_bind (wpAny_dictEpoch hob hdt ?_)))))
 refine wpAny_bind (wpAny_newObj_type (wpAny_pure ⟨_,rfl,"dict_keyiterator",_,⟨_,uT _ rfl,rfl⟩,xI.lookup,?_⟩))
 simpa[rawInt] using hQ
theorem ja6{i:Nat}{Q:Option Value->Shared->Prop}(hit:s.heap.IsKeyIter it d i es.size ep)(hm:DRaw s.heap d es ep)(hlt:i<es.size)
  (hQ:∀h',h'.IsKeyIter it d (i+1) es.size ep->yE it s.heap h'->Q (some es[i].key) {s with heap:=h'}):wpAny (model prog w) A (pyNext (.ref it)) Q E s:=by
 obtain⟨oi,hoi,hci,hdi⟩:=id hit
 obtain⟨ob,hob,_,hdt⟩:=id hm
 unfold pyNext
 refine wpAny_bind (wpAny_attempt (wpAny_callSpecial?_slot (name:=Str.ofString "__next__") hit.typeIs xI (wpAny_call_entry xI hit.typeIs PySem.F.entry_dict_keyiterator_next ?_ (PySem.F.args_dict_keyiterator_next_1 _))))
 refine wpAny_bind (wpAny_pure (wpAny_bind (wpAny_bind ?_)))
 first | refine wpAny_bind (wpAny_typeNameOfWhole_keyiter hit.typeIs (wpAny_pure (wpAny_bind (wpAny_fieldsOf hoi hdi ?_)))) | refine wpAny_bind (wpAny_typeNameOf_keyiter hit.typeIs (wpAny_pure (wpAny_bind (wpAny_fieldsOf hoi hdi ?_))))
 have hw':Builtin.Dict_items.ownsTuple "dict_keyiterator"=false:=by decide
 simp only[hw',ue,if_false]
 show wpAny _ _ (if (Value.ref d==Value.none)=true then _ else _) _ _ s
 rw[if_neg (show ¬((Value.ref d==Value.none)=true) from uK)]
 refine wpAny_bind (wpAny_pure (wpAny_bind (wpAny_dictEntries hob hdt ?_)))
 rw[if_neg (by simp)]
 refine wpAny_bind (wpAny_pure (wpAny_bind (wpAny_dictEpoch hob hdt ?_)))
 rw[if_neg (by simp)]
 refine wpAny_pure ?_
 simp only[show ¬((i:Int)<0) from by lia,if_false,xW,um hlt]
 refine wpAny_bind ?_
 first | refine wpAny_bind (wpAny_typeNameOfWhole_keyiter hit.typeIs (wpAny_pure (wpAny_bind (wpAny_isOneOf_keyiter hit.typeIs ?_)))) | refine wpAny_bind (wpAny_typeNameOf_keyiter hit.typeIs (wpAny_pure (wpAny_bind (wpAny_isOneOf_keyiter hit.typeIs ?_))))
 show wpAny _ _ (setField (.ref it) 1 (rawInt ((i:Int)+1)) >>= _) _ _ s
 refine wpAny_bind (wpAny_setField hoi hdi (by simp) ?_)
 have hit2:(s.heap.update it (Obj.mapFields (·.setIfInBounds 1 (rawInt ((i:Int)+1))))).IsKeyIter it d (i+1) es.size ep:=
  ⟨_,uw _ hoi (Obj.isFreed_of_fields (Obj.data_mapFields hdi _)),(Obj.cls_mapFields ..).trans hci,by rw[Obj.data_mapFields hdi];simp[rawInt]⟩
 refine wpAny_bind (wpAny_holding (wpAny_bind (wpAny_isOneOf_keyiter (s:={s with heap:=s.heap.update it (Obj.mapFields (·.setIfInBounds 1 (rawInt ((i:Int)+1))))}) hit2.typeIs ?_)))
 show wpAny _ _ (pure es[i].key) _ _ _
 exact wpAny_pure (wpAny_pure ⟨_,rfl,wpAny_pure (hQ _ hit2 (Heap.SameBut.update ..))⟩)
theorem Zbg{i:Nat}{Q:Option Value->Shared->Prop}(hh:A.handled=none)(hit:s.heap.IsKeyIter it d i es.size ep)(hm:DRaw s.heap d es ep)(hge:es.size<=i)
  (hQ:∀h',Heap.ExtBut it s.heap h'->Q none {s with heap:=h'}):wpAny (model prog w) A (pyNext (.ref it)) Q E s:=by
 obtain⟨oi,hoi,hci,hdi⟩:=id hit
 obtain⟨ob,hob,_,hdt⟩:=id hm
 unfold pyNext
 refine wpAny_bind (wpAny_attempt (wpAny_callSpecial?_slot (name:=Str.ofString "__next__") hit.typeIs xI (wpAny_call_entry xI hit.typeIs PySem.F.entry_dict_keyiterator_next ?_ (PySem.F.args_dict_keyiterator_next_1 _))))
 refine wpAny_bind (wpAny_pure (wpAny_bind (wpAny_bind ?_)))
 first | refine wpAny_bind (wpAny_typeNameOfWhole_keyiter hit.typeIs (wpAny_pure (wpAny_bind (wpAny_fieldsOf hoi hdi ?_)))) | refine wpAny_bind (wpAny_typeNameOf_keyiter hit.typeIs (wpAny_pure (wpAny_bind (wpAny_fieldsOf hoi hdi ?_))))
 have hw':Builtin.Dict_items.ownsTuple "dict_keyiterator"=false:=by decide
 simp only[hw',ue,if_false]
 show wpAny _ _ (if (Value.ref d==Value.none)=true then _ else _) _ _ s
 rw[if_neg (show ¬((Value.ref d==Value.none)=true) from uK)]
 refine wpAny_bind (wpAny_pure (wpAny_bind (wpAny_dictEntries hob hdt ?_)))
 rw[if_neg (by simp)]
 refine wpAny_bind (wpAny_pure (wpAny_bind (wpAny_dictEpoch hob hdt ?_)))
 rw[if_neg (by simp)]
 refine wpAny_pure ?_
 simp only[show ¬((i:Int)<0) from by lia,if_false,xW,uo hge]
 refine wpAny_bind ?_
 first | refine wpAny_bind (wpAny_typeNameOfWhole_keyiter hit.typeIs (wpAny_pure ?_)) | refine wpAny_bind (wpAny_typeNameOf_keyiter hit.typeIs (wpAny_pure ?_))
 show wpAny _ _ (setField (.ref it) 0 .none >>= _) _ _ s
 refine wpAny_bind (wpAny_setField hoi hdi (by simp) ?_)
 refine wpAny_mono (waJ (s:={s with heap:=s.heap.update it (Obj.mapFields (·.setIfInBounds 0 Value.none))}) (Q:=fun _ _=>False) (E':=fun e s'=>wpAny (model prog w) A (do if ←isInstance e (.type "StopIteration") then pure none else throw e) Q E s') hh fun h' a hx hty=>?_) (fun f s' z=>z.elim) fun _ _ z=>z
 obtain⟨o1,o2,rfl⟩:=hx
 refine wpAny_bind (wpAny_isInstance (T:="StopIteration") (b:=true) hty isSubtype_stop ?_)
 exact wpAny_pure (hQ _ (((Heap.SameBut.update ..).extBut.push _).push _))
theorem jao(hh:A.handled=none)(hne:d≠it):Wk prog w A it [it,d] [it] es.size (fun i v=>∃h:i<es.size,v=es[i].key) (fun i h=>h.IsKeyIter it d i es.size ep/\DRaw h d es ep) where
 sub:=fun b hb=>by simp at hb;simp[hb]
 frame:=fun _ _ _ st hk=>⟨st.1.at fun o e=>hk it (by simp) o e,let ⟨o,e,r⟩:=st.2;⟨o,hk d (by simp) o e,r⟩⟩
 item:=fun i s Q E hi st hQ=>ja6 st.1 st.2 hi fun h' hit' sb=>hQ _ h' s.toks ⟨hi,rfl⟩ ⟨hit',let ⟨o,e,r⟩:=st.2;⟨o,by rw[sb.2 d hne];exact e,r⟩⟩ fun b o hb e=>by rw[sb.2 b (fun z=>hb (by simp[z]))];exact e
 done:=fun s Q E st hQ=>Zbg hh st.1 st.2 (uJ _) fun h' ext=>hQ h' s.toks fun b o hb e=>ext b o (fun z=>hb (by simp[z])) e
theorem XaI{Q:List Value->Shared->Prop}(hh:A.handled=none)(hd:(d==sysModules)=false)(hm:DRaw s.heap d es ep)(hn:es.size<=1000)
  (h:∀(h':Heap) (tk:Nat),s.heap.objs.size<=h'.objs.size->(∀b o,s.heap.get? b=some o->h'.get? b=some o)->Q (es.toList.map (·.key)) {s with heap:=h',toks:=tk}):wpAny (model prog w) A (collect (.ref d)) Q E s:=by
 have hlt:d<s.heap.objs.size:=let ⟨o,e,_⟩:=hm;uM e
 have hm1:DRaw (s.heap.push {cls:=.type "list",data:=.seq ([]:List Value).toArray}) d es ep:=let ⟨o,e,r⟩:=hm;⟨o,uC _ e,r⟩
 refine wW (.inr rfl) hm.typeIs ?_
 refine jaC (s:={s with heap:=s.heap.push {cls:=.type "list",data:=.seq ([]:List Value).toArray}}) hd hm1 ?_
 have hsz:(s.heap.push {cls:=.type "list",data:=.seq ([]:List Value).toArray}).objs.size=s.heap.objs.size+1:=size_push' ..
 have hne:d≠(s.heap.push {cls:=.type "list",data:=.seq ([]:List Value).toArray}).objs.size:=by rw[hsz];exact uR (xK hlt)
 refine⟨_,[_,d],[_],es.size,_,_,s.drawn,rfl,hn,jao (es:=es) (ep:=ep) (by simpa using hh) hne,⟨⟨_,uT _ rfl,rfl,rfl⟩,let ⟨o,e,r⟩:=hm1;⟨o,uC _ e,r⟩⟩,?_,?_,⟨_,rfl,fun b o e=>uC _ e⟩,?_⟩
 ·simp only[uZ,u6,or_false,not_or]
  exact⟨by rw[hsz];exact uR (yU _),xT hlt⟩
 ·intro b hb
  rw[uL]at hb
  rw[hb,hsz];exact yU _
 ·intro us h2 tk hul hP hge kp2
  have heq:us=es.toList.map (·.key):=by
   apply List.ext_getElem?
   intro i
   by_cases hi:i<us.length
   ·obtain⟨h9,e9⟩:=hP i _ (uB hi)
    rw[uB hi,uG,xJ,um h9,e9];rfl
   ·rw[xE (by lia),xE (by rw[uA,uU];lia)]
  rw[heq]
  exact h h2 tk hge kp2
theorem vac{v:Value}{Q:ZVP}(hc:wpAny (model prog w) A.in1 (collect v) (fun us s1=>us.length<=1000/\∃r:Nat->Int,(2<=us.length->∀h':Heap,(∀b o,s1.heap.get? b=some o->h'.get? b=some o)->∃κ:SortKind,
   (∀(Q:SortKind->Shared->Prop) (E:ZVP),Q κ {s1 with heap:=h'}->wpAny (model prog w) A.in1.in1 (keyKind' us.toArray) Q E {s1 with heap:=h'}) ∧
   ∀i j,i<us.length->j<us.length->∀C:Bool->Shared->Prop,C (rlt r i j) {s1 with heap:=h'}->wpAny (model prog w) A.in1.in1 (keyLt' κ (us.getD i Value.none) (us.getD j Value.none)) C (fun _ _=>False) {s1 with heap:=h'}) ∧
   ∀p:Array Nat,PermN us.length p->Srt r p us.length->∀(h':Heap) (c:Nat),(∀b o,s1.heap.get? b=some o->h'.get? b=some o)->h'.get? s1.heap.objs.size=some (seqObj "list" (Yt us p) c)->Q (.ref s1.heap.objs.size) {s1 with heap:=h'}) E s) :
  wpAny (model prog w) A (call (.builtin "sorted") [v]) Q E s:=by
 refine Calls.call_function_entry kind_sorted plain_sorted entry_sorted (args_sorted1 _) ?_
 unfold Builtin.«sorted»
 refine wpAny_bind (m:=checkCount "sorted" 1 1 _) (wpAny_pure ?_)
 refine wpAny_bind (wpAny_mono hc (fun us s1 hz=>?_) fun _ _ z=>z)
 obtain⟨hl,r,ask,fin⟩:=hz
 refine wpAny_bind (wpAny_newList ?_ (by rw[sizeLine_eq];lia))
 have hoL:(s1.heap.push (seqObj "list" us.toArray 0)).get? s1.heap.objs.size=some (seqObj "list" us.toArray 0):=uT _ rfl
 have keep:∀b o,s1.heap.get? b=some o->(s1.heap.push (seqObj "list" us.toArray 0)).get? b=some o/\b≠s1.heap.objs.size:=fun b o q=>⟨uC _ q,uR (uM q)⟩
 show wpAny _ _ _ _ _ {s1 with heap:=s1.heap.push (seqObj "list" us.toArray 0)}
 refine wpAny_bind (wpAny_holding (wpAny_call_entry slot_list_sort ⟨_,hoL,rfl⟩ entry_list_sort (jV (r:=r) hoL hl (fun h2 h' kp=>ask h2 h' fun b o q=>kp b o (keep b o q).2 (keep b o q).1) fun p hp hs=>⟨_,rfl,?_⟩) (args_list_sort _)))
 obtain⟨c,hc'⟩:=sortedHeap_at (out:=Yt us p) hoL
 exact wpAny_pure ⟨_,rfl,fin p hp hs _ c (fun b o q=>by rw[sortedHeap_old (keep b o q).2 (uM (keep b o q).1)];exact(keep b o q).1) hc'⟩
end
end L2
namespace L2
open PySem PySem.Spec PyProof.Rows
section
variable {X:Cx} {o e:Expr} {to te:TDE} {apos cpos:Pos}
@[irreducible] def kP(to te:TDE):TDE:=fun σ M Q=>to σ M fun x M1=>∃p,x=.ref p/\(∃ds1,M1 p=some (.lst ds1))/\te σ M1 fun y M2=>∃(ds:List D) (k:Nat) (z:D),y=.int k/\M2 p=some (.lst ds)/\ds[k]?=some z/\k<=1000/\Q z (wc M2 p (.lst (ds.eraseIdx k)))
theorem Ybq{σ:SD}{M:HpD}{Q:KD}(h:to σ M fun x M1=>∃p,x=.ref p/\(∃ds1,M1 p=some (.lst ds1))/\te σ M1 fun y M2=>∃(ds:List D) (k:Nat) (z:D),y=.int k/\M2 p=some (.lst ds)/\ds[k]?=some z/\k<=1000/\Q z (wc M2 p (.lst (ds.eraseIdx k)))):kP to te σ M Q:=by unfold kP;exact h
theorem RepDs.eraseIdx{K:KF}{H:Hp}{M:HpD}:∀{ds:List D} {vs:List V} (k:Nat),RepDs K H M ds vs->RepDs K H M (ds.eraseIdx k) (vs.eraseIdx k)
 | [],_,k,h=>by unfold RepDs at h;subst h;exact .nil
 | d::ds,_,0,h=>by
  unfold RepDs at h
  obtain⟨x,r,e,h1,h2⟩:=h
  rw[e];exact h2
 | d::ds,_,k+1,h=>by
  unfold RepDs at h
  obtain⟨x,r,e,h1,h2⟩:=h
  rw[e,xo,xo]
  exact .cons h1 (RepDs.eraseIdx k h2)
theorem ZaX(ho:ED X o to)(he:ED X e te)(hbase:attributeBase o "pop" X.env (eval o X.env)=eval o X.env:=by rfl)
  (hfew:((backTo cpos (starEach (e::[]) X.env)).all (fun x=>!x.1)&&(backToKw cpos (keywordEach [] X.env)).all (fun x=>x.1.isSome)
   && decide ((e::[]).length+([]:List Keyword).length+(if ([]:List Keyword).isEmpty then 0 else 1)<30))=true:=by rfl)
  (hline:(apos.endLine==cpos.line)=true:=by rfl) (hs:starEach (e::[]) X.env=(false,eval e X.env)::starEach [] X.env:=by rfl) (hplain:(backTo cpos (starEach [] X.env)).any (·.1)=false:=by rfl) :
  ED X (.Call (.Attribute o "pop" apos) [e] [] cpos) (kP to te):=by
 refine(Yag xn PySem.F.slot_list_pop PySem.F.type_list_pop (r:=Wa0) vba ho (WB he pa_nil hs) hbase hfew hline hs hplain).wk fun σ H Q h=>?_
 obtain⟨F,σD,M,QD,rel,h,p⟩:=h
 unfold kP at h
 refine lE rel h fun d M1 v H1 f1 rel1 r1 h1=>?_
 obtain⟨l,rfl,⟨ds1,e1⟩,h1⟩:=h1
 unfold RepD at r1
 subst r1
 obtain⟨o',e',xs,rfl,hr⟩:=rel1.hp.at_ l _ e1
 refine⟨.inl ⟨rfl,xs,.inl (.inl e')⟩,?_⟩
 show Yg X.K te σ H1 _
 refine lE rel1 h1 fun y M2 u H2 f2 rel2 r2 h2=>?_
 obtain⟨ds,k,z,rfl,e2,hz,hk1,q⟩:=h2
 unfold RepD at r2
 subst r2
 obtain⟨o2,e2',ys,rfl,hr2⟩:=rel2.hp.at_ l _ e2
 obtain⟨zv,hzv,rz⟩:=hr2.get hz
 have hk:k<ys.length:=(uO.mp hzv).1
 have r3:RepO ⟨X.K,F⟩ H2 M2 (.lst (ds.eraseIdx k)) (.lst (ys.eraseIdx k)):=⟨_,rfl,hr2.eraseIdx k⟩
 have hix:ixN ys.length (k:Int)=some k:=by
  unfold ixN
  rw[if_pos (by lia),if_pos (by lia)];simp
 exact⟨l,ys,k,k,zv,rfl,rfl,e2',by lia,by lia,(Zan hix).1,hzv,p _ _ _ _ ((f1.trans f2).trans (wj e2)) (rel2.hp.write e2 r3) (rz.mono (wj e2)) q⟩
@[irreducible] def Wag(to te:TDE):TDE:=fun σ M Q=>to σ M fun x M1=>∃p,x=.ref p/\(∃ds1,M1 p=some (.lst ds1))/\te σ M1 fun y M2=>∃(ds es:List D) (b:Addr),y=.ref b/\M2 p=some (.lst ds)/\M2 b=some (.lst es)/\ds.length+es.length<=sizeLine/\Q .non (wc M2 p (.lst (ds++es)))
theorem Xbm{σ:SD}{M:HpD}{Q:KD}(h:to σ M fun x M1=>∃p,x=.ref p/\(∃ds1,M1 p=some (.lst ds1))/\te σ M1 fun y M2=>∃(ds es:List D) (b:Addr),y=.ref b/\M2 p=some (.lst ds)/\M2 b=some (.lst es)/\ds.length+es.length<=sizeLine/\Q .non (wc M2 p (.lst (ds++es)))):Wag to te σ M Q:=by unfold Wag;exact h
theorem vbo(ho:ED X o to)(he:ED X e te)(hbase:attributeBase o "extend" X.env (eval o X.env)=eval o X.env:=by rfl)
  (hfew:((backTo cpos (starEach (e::[]) X.env)).all (fun x=>!x.1)&&(backToKw cpos (keywordEach [] X.env)).all (fun x=>x.1.isSome)
   && decide ((e::[]).length+([]:List Keyword).length+(if ([]:List Keyword).isEmpty then 0 else 1)<30))=true:=by rfl)
  (hline:(apos.endLine==cpos.line)=true:=by rfl) (hs:starEach (e::[]) X.env=(false,eval e X.env)::starEach [] X.env:=by rfl) (hplain:(backTo cpos (starEach [] X.env)).any (·.1)=false:=by rfl) :
  ED X (.Call (.Attribute o "extend" apos) [e] [] cpos) (Wag to te):=by
 refine(Yag xn PySem.F.slot_list_extend PySem.F.type_list_extend (r:=XaN) vaY ho (WB he pa_nil hs) hbase hfew hline hs hplain).wk fun σ H Q h=>?_
 obtain⟨F,σD,M,QD,rel,h,p⟩:=h
 unfold Wag at h
 refine lE rel h fun d M1 v H1 f1 rel1 r1 h1=>?_
 obtain⟨l,rfl,⟨ds1,e1⟩,h1⟩:=h1
 unfold RepD at r1
 subst r1
 obtain⟨o',e',xs,rfl,hr⟩:=rel1.hp.at_ l _ e1
 refine⟨.inl ⟨rfl,xs,.inl (.inl e')⟩,?_⟩
 show Yg X.K te σ H1 _
 refine lE rel1 h1 fun y M2 u H2 f2 rel2 r2 h2=>?_
 obtain⟨ds,es,b,rfl,e2,e3,hl,q⟩:=h2
 unfold RepD at r2
 subst r2
 obtain⟨o2,e2',ys,rfl,hr2⟩:=rel2.hp.at_ l _ e2
 obtain⟨o3,e3',zs,rfl,hr3⟩:=rel2.hp.at_ b _ e3
 have r3:RepO ⟨X.K,F⟩ H2 M2 (.lst (ds++es)) (.lst (ys++zs)):=⟨_,rfl,hr2.append hr3⟩
 exact⟨l,b,ys,zs,rfl,rfl,e2',e3',by rw[←hr2.length,←hr3.length];exact hl,p _ _ _ _ ((f1.trans f2).trans (wj e2)) (rel2.hp.write e2 r3) (by unfold RepD;rfl) q⟩
end
section
variable {X:Cx} {o i value:Expr} {td ty tv:TDE} {pos pos':Pos} {k:Nat}
@[irreducible] def qv(td ty tv:TDE):TSD:=fun DD σ M=>tv σ M fun v M1=>td σ M1 fun x M2=>ty σ M2 fun y M3=>∃a kvs k,x=.ref a/\M3 a=some (.dct kvs)/\y=wl k/\kvs.length<sizeLine/\DD.nx σ (wc M3 a (.dct (ju kvs k v)))
theorem Wbk{DD:jn}{σ:SD}{M:HpD}(h:tv σ M fun v M1=>td σ M1 fun x M2=>ty σ M2 fun y M3=>∃a kvs k,x=.ref a/\M3 a=some (.dct kvs)/\y=wl k/\kvs.length<sizeLine/\DD.nx σ (wc M3 a (.dct (ju kvs k v)))):qv td ty tv DD σ M:=by unfold qv;exact h
theorem XR(hr:Room k X.A)(ho:ED X o td)(hi:ED X i ty)(hv:ED X value tv)(hs:swapsWith value (some (.Subscript o i pos')) pos.line X.env=pure false:=by rfl) :
  StD X (.Assign [.Subscript o i pos'] value pos) (qv td ty tv):=by
 refine(ZaJ (by have:=hr.un;lia) ho hi hv hs).wk fun D' σ H ⟨F,σD,M,DD,rel,h,p⟩=>?_
 unfold qv at h
 refine lE rel h fun v M1 vv H1 f1 rel1 r1 h1=>?_
 refine lE rel1 h1 fun x M2 xv H2 f2 rel2 r2 h2=>?_
 refine lE rel2 h2 fun y M3 yv H3 f3 rel3 r3 h3=>?_
 obtain⟨a,kvs,kk,rfl,hM,rfl,hl,q⟩:=h3
 unfold RepD at r2
 subst r2
 have:=YF r3
 subst this
 obtain⟨o',e',vs,rfl,hk,hv'⟩:=rel3.hp.at_ a _ hM
 have rv:=r1.mono (f2.trans f3)
 have rk:RepKV ⟨X.K,F⟩ H3 M3 kvs vs:=⟨hk,hv'⟩
 have rp:=rk.put (k:=kk) rv
 have lv:vs.length=kvs.length:=by
  have:=congrArg xV hk
  rw[uA,uA]at this
  exact this
 have r4:RepO ⟨X.K,F⟩ H3 M3 (.dct (ju kvs kk v)) (.dK (Yl vs kk vv)):=⟨_,rfl,rp.keys,rp.vals⟩
 refine⟨a,_,rfl,DPut.k e' (by lia),?_⟩
 exact p.nx _ _ _ _ (((f1.trans f2).trans f3).trans (wj hM)) (rel3.mono (wj hM) (rel3.hp.write hM r4)) q
end
@[irreducible] def kQ(r r':RD2)(ta tb tc:TDE):TDE:=fun σ M Q=>ta σ M fun x M1=>tb σ M1 fun y M2=>r x y M2 fun z M3=>∃k,z=.bl k/\(if k=true then tc σ M3 fun u M4=>r' y u M4 Q else Q (.bl false) M3)
theorem ja5{r r':RD2}{ta tb tc:TDE}{σ:SD}{M:HpD}{Q:KD}(h:ta σ M fun x M1=>tb σ M1 fun y M2=>r x y M2 fun z M3=>∃k,z=.bl k/\(if k=true then tc σ M3 fun u M4=>r' y u M4 Q else Q (.bl false) M3)):kQ r r' ta tb tc σ M Q:=by unfold kQ;exact h
section
variable {X:Cx} {a b c:Expr} {ta tb tc:TDE} {pos:Pos}
theorem Yba{op op':CmpOp}{r r':RD2}(ho:OpR X (compareOp op) (Yk X.K r))(ho':OpR X (compareOp op') (Yk X.K r'))(ha:ED X a ta)(hb:ED X b tb)(hc:ED X c tc)
  (hm:lastMarks [op,op'] [b,c]=false:=by with_unfolding_all rfl):ED X (.Compare a [op,op'] [b,c] pos) (kQ r r' ta tb tc):=by
 refine(vbb ho ho' ha hb hc hm).wk fun σ H Q h=>?_
 obtain⟨F,σD,M,QD,rel,h,p⟩:=h
 unfold kQ at h
 refine lE rel h fun d M1 v H1 f1 rel1 r1 h1=>?_
 refine lE rel1 h1 fun e M2 u H2 f2 rel2 r2 h2=>?_
 refine⟨F,d,e,M2,_,r1.mono f2,r2,rel2.hp,h2,fun z M3 zv H3 f3 rh3 rz hz=>?_⟩
 obtain⟨k,rfl,hz⟩:=hz
 unfold RepD at rz
 refine⟨k,rz,?_⟩
 cases k with
 | false=>
  rw[if_neg (by decide)]at hz ⊢
  exact p _ M3 _ H3 ((f1.trans f2).trans f3) rh3 (by unfold RepD;rfl) hz
 | true=>
  rw[if_pos rfl]at hz ⊢
  refine lE (rel2.mono f3 rh3) hz fun w M4 wv H4 f4 rel4 r4 h4=>?_
  exact⟨F,e,w,M4,QD,(r2.mono f3).mono f4,r4,rel4.hp,h4,p.mono (((f1.trans f2).trans f3).trans f4)⟩
end
@[irreducible] def j4:RDn:=fun xs M Q=>∃d ds,xs=[d]/\Zd d M=some ds/\ds.length<=sizeLine/\Q (.tup ds) M
theorem vbk{d:D}{ds:List D}{M:HpD}{Q:KD}(h:Zd d M=some ds)(hl:ds.length<=sizeLine)(q:Q (.tup ds) M):j4 [d] M Q:=by unfold j4;exact⟨d,ds,rfl,h,hl,q⟩
theorem jbj{X:Cx}:CallR X (.type "tuple") (wt X.K j4):=by
 intro pins s σ H xs us Q I rx h
 obtain⟨F,ds,M,QD,r,rh,hq,p⟩:=h
 unfold j4 at hq
 obtain⟨d,es,rfl,hd,hl,q⟩:=hq
 obtain⟨v,rfl,r1⟩:∃v,xs=[v]/\RepD ⟨X.K,F⟩ H M d v:=by
  unfold RepDs at r
  obtain⟨x,rr,e,r1,r2⟩:=r
  unfold RepDs at r2
  subst r2
  exact⟨x,e,r1⟩
 obtain⟨i,ys,rfl,hz,hr⟩:=Zm rh r1 hd
 obtain⟨u,rfl,ru⟩:=Zx rx
 cases ru
 obtain⟨its,rv,p1,hzz⟩:=I.list hz
 have hsz:its.toArray.size<=sizeLine:=by rw[uI,←rv.length,←hr.length];exact hl
 refine call_tuple_list p1.isList (fun h' hk=>?_) hsz
 have I1:Inv X pins σ H {s with heap:=h'}:=I.kept (t':=s.toks) hk
 have fr:H h'.objs.size=none:=I1.hok.fresh (uJ _)
 have I2:Inv X pins σ (upd H h'.objs.size (.tup ys)) {s with heap:=h'.push {cls:=.type "tuple",data:=.seq its.toArray}}:=I1.laid (t':=s.toks) (fun b o e=>uC _ e) (uJ _)
  ⟨by rw[←hr.length];exact hl,its,rv,⟨_,uT _ rfl,rfl,_,rfl⟩⟩
 refine⟨.ref h'.objs.size,_,I2,rfl,p _ M _ _ (Wm fr) (rh.new fr) ?_ q⟩
 unfold RepD
 exact⟨_,ys,rfl,.inl ⟨.inl Wg,rh.free fr,rh.nf fr⟩,hr.mono (Wm fr)⟩
theorem jaA:∀{xs:List V} {its:List Value},Vals xs its->Vals xs.reverse its.reverse
 | _,_,.nil=>.nil
 | _,_,.cons r t=>by
  rw[yo,yo]
  exact(jaA t).append (.cons r .nil)
def Zbq:V->List V->Hp->VK->Prop:=fun x vs H Q=>∃l xs,x=.ref l/\vs=[]/\H l=some (.lst xs)/\Q .non (upd H l (.lst xs.reverse))
theorem kbo{X:Cx}:MtM X "list.reverse" Zbq:=by
 intro pins s σ H x vs v us Q I rx rv h
 obtain⟨l,xs,rfl,rfl,hH,q⟩:=h
 cases rx
 have hus:=rv.zero
 subst hus
 obtain⟨z,its,n,r,hl,e⟩:=I.lstM hH
 refine call_meets F.slot_list_reverse ⟨_,e,rfl⟩ F.entry_list_reverse (F.args_list_reverse_1 _) (PySem.AutoListH.list_reverse_list_0 l its.toArray n (by rw[uI];lia)) ⟨e,?_⟩
 refine⟨.non,_,I.lset (its':=its.reverse) hH e (by simp) (jaA r) ?_,rfl,q⟩
 rw[List.length_reverse];exact z
@[irreducible] def W3(to:TDE):TDE:=fun σ M Q=>to σ M fun x M1=>∃p ds,x=.ref p/\M1 p=some (.lst ds)/\Q .non (wc M1 p (.lst ds.reverse))
theorem wbo{to:TDE}{σ:SD}{M:HpD}{Q:KD}(h:to σ M fun x M1=>∃p ds,x=.ref p/\M1 p=some (.lst ds)/\Q .non (wc M1 p (.lst ds.reverse))):W3 to σ M Q:=by unfold W3;exact h
theorem RepDs.reverse{K:KF}{H:Hp}{M:HpD}:∀{ds:List D} {vs:List V},RepDs K H M ds vs->RepDs K H M ds.reverse vs.reverse
 | [],_,h=>by unfold RepDs at h;subst h;exact .nil
 | d::ds,_,h=>by
  unfold RepDs at h
  obtain⟨x,r,e,h1,h2⟩:=h
  subst e
  rw[yo,yo]
  exact(RepDs.reverse h2).append (.cons h1 .nil)
theorem vbs{X:Cx}{o:Expr}{to:TDE}{apos cpos:Pos}(ho:ED X o to)(hbase:attributeBase o "reverse" X.env (eval o X.env)=eval o X.env:=by rfl)(hline:(apos.endLine==cpos.line)=true:=by rfl) :
  ED X (.Call (.Attribute o "reverse" apos) [] [] cpos) (W3 to):=by
 refine(qbr xn PySem.F.slot_list_reverse PySem.F.type_list_reverse (r:=Zbq) kbo ho hbase hline).wk fun σ H Q h=>?_
 obtain⟨F,σD,M,QD,rel,h,p⟩:=h
 unfold W3 at h
 refine lE rel h fun d M1 v H1 f1 rel1 r1 h1=>?_
 obtain⟨l,ds,rfl,e1,q⟩:=h1
 unfold RepD at r1
 subst r1
 obtain⟨o',e',xs,rfl,hr⟩:=rel1.hp.at_ l _ e1
 refine⟨.inl ⟨rfl,xs,.inl (.inl e')⟩,l,xs,rfl,rfl,e',?_⟩
 have r3:RepO ⟨X.K,F⟩ H1 M1 (.lst ds.reverse) (.lst xs.reverse):=⟨_,rfl,hr.reverse⟩
 exact p _ _ _ _ (f1.trans (wj e1)) (rel1.hp.write e1 r3) (by unfold RepD;rfl) q
section
variable {X:Cx} {pos:Pos}
@[irreducible] def ZN:TDE:=fun _ M Q=>∀p,M p=none->Q (.ref p) (wc M p (.dct []))
theorem qbk{σ:SD}{M:HpD}{Q:KD}(h:∀p,M p=none->Q (.ref p) (wc M p (.dct []))):ZN σ M Q:=by unfold ZN;exact h
theorem wai:ED X (.Dict [] [] pos) ZN:=by
 refine pe_dnewK.wk fun σ H Q ⟨F,σD,M,QD,rel,h,p⟩=>?_
 unfold ZN at h
 intro a ha
 have hm:=rel.hp.free ha
 have r0:RepO ⟨X.K,F⟩ H M (.dct []) (.dK []):=⟨[],rfl,rfl,.nil⟩
 exact p (.ref a) _ _ _ (XF ha hm) (rel.hp.newM ha r0) (by unfold RepD;rfl) (h a hm)
variable {e:Expr} {te:TDE} {lo hi:Option Expr} {tl th:TDO} {p2:Pos}
end
noncomputable abbrev Yf:=List Key
noncomputable def tkD(k:Yf):D:=.tup (k.map wl)
theorem kT{K:KF}{H:Hp}{M:HpD}:∀{k:Yf} {xs:List V},RepDs K H M (k.map wl) xs->xs=k.map kV
 | [],_,h=>by rw[xl]at h;unfold RepDs at h;exact h
 | a::k,_,h=>by
  rw[uH]at h
  unfold RepDs at h
  obtain⟨x,r,rfl,h1,h2⟩:=h
  rw[uH,kT h2,YF h1]
theorem wad{K:KF}{H:Hp}{M:HpD}{k:Yf}{v:V}(r:RepD K H M (tkD k) v):∃a,v=.ref a/\H a=some (.tup (k.map kV)):=by
 unfold tkD RepD at r
 obtain⟨a,xs,rfl,h1,h2⟩:=r
 exact⟨a,rfl,by rw[←kT h2];exact h1.at_⟩
noncomputable def XE{β:Type}(kvs:List (Yf×β))(k:Yf):Option β:=(kvs.find? fun kv=>decide (kv.1=k)).map (·.2)
noncomputable def kL{β:Type}(kvs:List (Yf×β))(k:Yf)(v:β):List (Yf×β):=
 if (kvs.any fun kv=>decide (kv.1=k))=true then kvs.map (fun kv=>if kv.1=k then (kv.1,v) else kv) else kvs++[(k,v)]
theorem Y9{β:Type}{p:Yf×β}{r:List (Yf×β)}{k:Yf}(e:p.1=k):XE (p::r) k=some p.2:=by simp[XE,uq,e]
theorem vaa{β:Type}{p:Yf×β}{r:List (Yf×β)}{k:Yf}(e:¬p.1=k):XE (p::r) k=XE r k:=by simp[XE,uq,e]
structure RepKT(K:KF)(H:Hp)(M:HpD)(kvs:List (Yf×D))(vs:List (Yf×V)):Prop where
 keys:vs.map (·.1)=kvs.map (·.1)
 vals:RepDs K H M (kvs.map (·.2)) (vs.map (·.2))
section
variable {K:KF} {H:Hp} {M:HpD}
theorem RepKT.cons_inv{p:Yf×D}{kvs:List (Yf×D)}{vs:List (Yf×V)}(h:RepKT K H M (p::kvs) vs):∃q r,vs=q::r/\q.1=p.1/\RepD K H M p.2 q.2/\RepKT K H M kvs r:=by
 obtain⟨k,v⟩:=h
 cases vs with
 | nil=>simp at k
 | cons q r=>
  simp only[uH,List.cons.injEq]at k
  rw[uH,uH]at v
  unfold RepDs at v
  obtain⟨x,xr,e,r1,r2⟩:=v
  cases e
  exact⟨q,r,rfl,k.1,r1,k.2,r2⟩
theorem RepKT.len{kvs:List (Yf×D)}{vs:List (Yf×V)}(h:RepKT K H M kvs vs):kvs.length=vs.length:=by
 have:=congrArg xV h.keys
 simpa using this.symm
theorem RepKT.val{k:Yf}:∀{kvs:List (Yf×D)} {vs:List (Yf×V)},RepKT K H M kvs vs->(XE kvs k=none/\Yo vs k=none)\/∃d v,XE kvs k=some d/\Yo vs k=some v/\RepD K H M d v
 | [],vs,h=>by
  have:vs=[]:=ut.mp h.len.symm
  subst this
  exact .inl ⟨rfl,rfl⟩
 | p::kvs,vs,h=>by
  obtain⟨q,r,rfl,e,r1,h2⟩:=h.cons_inv
  by_cases z:p.1=k
  ·exact .inr ⟨p.2,q.2,Y9 z,wL (by rw[e];exact z),r1⟩
  ·rw[vaa z,vL (by rw[e];exact z)]
   exact RepKT.val h2
theorem RepKT.any{k:Yf}{kvs:List (Yf×D)}{vs:List (Yf×V)}(h:RepKT K H M kvs vs):(vs.any fun kv=>decide (kv.1=k))=kvs.any fun kv=>decide (kv.1=k):=by
 have e:∀{β:Type} (l:List (Yf×β)),(l.any fun kv=>decide (kv.1=k))=(l.map (·.1)).any fun x=>decide (x=k):=fun l=>by rw[List.any_map];rfl
 rw[e,e,h.keys]
theorem RepKT.put{k:Yf}{d:D}{v:V}(rv:RepD K H M d v){kvs:List (Yf×D)}{vs:List (Yf×V)}(h:RepKT K H M kvs vs):RepKT K H M (kL kvs k d) (Yl vs k v):=by
 unfold kL Yl
 rw[h.any]
 by_cases z:(kvs.any fun kv=>decide (kv.1=k))=true
 ·rw[if_pos z,if_pos z]
  clear z
  have go:∀{kvs:List (Yf×D)} {vs:List (Yf×V)},RepKT K H M kvs vs->RepKT K H M (kvs.map fun kv=>if kv.1=k then (kv.1,d) else kv) (vs.map fun kv=>if kv.1=k then (kv.1,v) else kv):=by
   intro kvs
   induction kvs with
   | nil=>
    intro vs h
    have:vs=[]:=ut.mp h.len.symm
    subst this
    exact⟨rfl,.nil⟩
   | cons p kvs ih=>
    intro vs h
    obtain⟨q,r,rfl,e,r1,h2⟩:=h.cons_inv
    obtain⟨i1,i2⟩:=ih h2
    rw[uH,uH]
    by_cases z:p.1=k
    ·rw[if_pos z,if_pos (by rw[e];exact z)]
     exact⟨by simp only[uH];rw[i1,e],.cons rv i2⟩
    ·rw[if_neg z,if_neg (by rw[e];exact z)]
     exact⟨by simp only[uH];rw[i1,e],.cons r1 i2⟩
  exact go h
 ·rw[if_neg z,if_neg z]
  exact⟨by rw[uN,uN,h.keys];rfl,by rw[uN,uN];exact h.vals.append (.cons rv .nil)⟩
theorem RepKT.mono{M':HpD}{H':Hp}{kvs:List (Yf×D)}{vs:List (Yf×V)}(f:Fz M H M' H')(h:RepKT K H M kvs vs):RepKT K H' M' kvs vs:=⟨h.keys,h.vals.mono f⟩
end
theorem waf{K:KF}{H:Hp}{M:HpD}{a:Addr}{kvs:List (Yf×D)}(rh:RepH K H M)(e:M a=some (.dtt kvs)):∃vs,H a=some (.dT vs)/\RepKT K H M kvs vs:=by
 obtain⟨o',e',vs,rfl,k,r2⟩:=rh.at_ a _ e
 exact⟨vs,e',k,r2⟩
section
variable {X:Cx} {o i value:Expr} {td ty tv:TDE} {pos pos':Pos} {k:Nat}
@[irreducible] def YK:TDE:=fun _ M Q=>∀p,M p=none->Q (.ref p) (wc M p (.dtt []))
theorem qa9{σ:SD}{M:HpD}{Q:KD}(h:∀p,M p=none->Q (.ref p) (wc M p (.dtt []))):YK σ M Q:=by unfold YK;exact h
theorem Yax:ED X (.Dict [] [] pos) YK:=by
 refine pe_dnewT.wk fun σ H Q ⟨F,σD,M,QD,rel,h,p⟩=>?_
 unfold YK at h
 intro a ha
 have hm:=rel.hp.free ha
 have r0:RepO ⟨X.K,F⟩ H M (.dtt []) (.dT []):=⟨[],rfl,rfl,.nil⟩
 exact p (.ref a) _ _ _ (XF ha hm) (rel.hp.newM ha r0) (by unfold RepD;rfl) (h a hm)
@[irreducible] def WA(neg:Bool)(ty td:TDE):TDE:=fun σ M Q=>ty σ M fun y M1=>td σ M1 fun x M2=>∃a kvs k,x=.ref a/\M2 a=some (.dtt kvs)/\y=tkD k/\Q (.bl (neg ^^ (XE kvs k).isSome)) M2
theorem qbf{neg:Bool}{σ:SD}{M:HpD}{Q:KD}(h:ty σ M fun y M1=>td σ M1 fun x M2=>∃a kvs k,x=.ref a/\M2 a=some (.dtt kvs)/\y=tkD k/\Q (.bl (neg ^^ (XE kvs k).isSome)) M2):WA neg ty td σ M Q:=by unfold WA;exact h
theorem Xar{K:uD}{neg:Bool}{σ:St}{H:Hp}{Q:VK}(h:Yg K (WA neg ty td) σ H Q):Yg K ty σ H fun y H1=>Yg K td σ H1 fun x H2=>∃a ov,x=.ref a/\DGet H2 a y ov/\Q (.bl (neg ^^ ov.isSome)) H2:=by
 obtain⟨F,σD,M,QD,rel,h,p⟩:=h
 unfold WA at h
 refine lE rel h fun y M1 vy H1 f1 rel1 r1 h1=>?_
 refine lE rel1 h1 fun x M2 vx H2 f2 rel2 r2 h2=>?_
 obtain⟨a,kvs,k,rfl,hd,rfl,q⟩:=h2
 obtain⟨vs,hH,kv⟩:=waf rel2.hp hd
 obtain⟨b,rfl,hb⟩:=wad (r1.mono f2)
 unfold RepD at r2
 refine⟨a,Yo vs k,r2,.t hH hb,?_⟩
 have e:(Yo vs k).isSome=(XE kvs k).isSome:=by
  rcases kv.val (k:=k) with ⟨e1,e2⟩ | ⟨d,v,e1,e2,_⟩<;>rw[e1,e2]<;>rfl
 rw[e]
 exact p _ _ _ _ (f1.trans f2) rel2.hp (by unfold RepD;rfl) q
theorem Zbc(hr:Room k X.A)(hi:ED X i ty)(ho:ED X o td):PC X .In i o (Yg X.K (WA false ty td)):=fun pins s σ H Q I h=>by
 refine Za1 (by have:=hr.un;lia) hi ho pins s σ H Q I ?_
 have:=Xar h
 simp only[yR]at this
 exact this
theorem XaH(hr:Room k X.A)(hi:ED X i ty)(ho:ED X o td):PC X .NotIn i o (Yg X.K (WA true ty td)):=fun pins s σ H Q I h=>by
 refine Za4 (by have:=hr.un;lia) hi ho pins s σ H Q I ?_
 have:=Xar h
 simp only[Bool.true_xor]at this
 exact this
theorem vaS(hr:Room k X.A)(hi:ED X i ty)(ho:ED X o td)(hm:behindInMarks .NotIn o=false:=by rfl):ED X (.Compare i [.NotIn] [o] pos) (WA true ty td):=jbo (XaH hr hi ho) hm
theorem Ybk(hr:Room k X.A)(hi:ED X i ty)(ho:ED X o td)(hm:behindInMarks .In o=false:=by rfl):TD X (.Compare i [.In] [o] pos) (Xd (WA false ty td)):=(qbs (Zbc hr hi ho) hm).wk fun _ _ _ h=>XaQ h
@[irreducible] def kK(td ty:TDE):TDE:=fun σ M Q=>td σ M fun x M1=>ty σ M1 fun y M2=>∃a kvs k d,x=.ref a/\M2 a=some (.dtt kvs)/\y=tkD k/\XE kvs k=some d/\Q d M2
theorem Ya7{σ:SD}{M:HpD}{Q:KD}(h:td σ M fun x M1=>ty σ M1 fun y M2=>∃a kvs k d,x=.ref a/\M2 a=some (.dtt kvs)/\y=tkD k/\XE kvs k=some d/\Q d M2):kK td ty σ M Q:=by unfold kK;exact h
theorem jaE(hr:Room k X.A)(ho:ED X o td)(hi:ED X i ty)(hs:ZaS i:=by exact fun _ _=>rfl):ED X (.Subscript o i pos) (kK td ty):=by
 refine(YaK (by have:=hr.un;lia) ho hi hs).wk fun σ H Q h=>?_
 obtain⟨F,σD,M,QD,rel,h,p⟩:=h
 unfold kK at h
 refine lE rel h fun x M1 vx H1 f1 rel1 r1 h1=>?_
 refine lE rel1 h1 fun y M2 vy H2 f2 rel2 r2 h2=>?_
 obtain⟨a,kvs,k,d,rfl,hd,rfl,hv,q⟩:=h2
 obtain⟨vs,hH,kv⟩:=waf rel2.hp hd
 obtain⟨b,rfl,hb⟩:=wad r2
 unfold RepD at r1
 rcases kv.val (k:=k) with ⟨e1,e2⟩ | ⟨d',v,e1,e2,rv⟩
 ·rw[hv]at e1;cases e1
 ·rw[hv]at e1;cases e1
  exact⟨a,v,r1,e2▸DGet.t hH hb,p _ _ _ _ (f1.trans f2) rel2.hp rv q⟩
@[irreducible] def ZD(td ty tv:TDE):TSD:=fun DD σ M=>tv σ M fun v M1=>td σ M1 fun x M2=>ty σ M2 fun y M3=>∃a kvs k,x=.ref a/\M3 a=some (.dtt kvs)/\y=tkD k/\kvs.length<sizeLine/\DD.nx σ (wc M3 a (.dtt (kL kvs k v)))
theorem va7{DD:jn}{σ:SD}{M:HpD}(h:tv σ M fun v M1=>td σ M1 fun x M2=>ty σ M2 fun y M3=>∃a kvs k,x=.ref a/\M3 a=some (.dtt kvs)/\y=tkD k/\kvs.length<sizeLine/\DD.nx σ (wc M3 a (.dtt (kL kvs k v)))):ZD td ty tv DD σ M:=by unfold ZD;exact h
theorem Zay(hr:Room k X.A)(ho:ED X o td)(hi:ED X i ty)(hv:ED X value tv)(hs:swapsWith value (some (.Subscript o i pos')) pos.line X.env=pure false:=by rfl) :
  StD X (.Assign [.Subscript o i pos'] value pos) (ZD td ty tv):=by
 refine(ZaJ (by have:=hr.un;lia) ho hi hv hs).wk fun D' σ H ⟨F,σD,M,DD,rel,h,p⟩=>?_
 unfold ZD at h
 refine lE rel h fun v M1 vv H1 f1 rel1 r1 h1=>?_
 refine lE rel1 h1 fun x M2 xv H2 f2 rel2 r2 h2=>?_
 refine lE rel2 h2 fun y M3 yv H3 f3 rel3 r3 h3=>?_
 obtain⟨a,kvs,kk,rfl,hM,rfl,hl,q⟩:=h3
 unfold RepD at r2
 subst r2
 obtain⟨b,rfl,hb⟩:=wad r3
 obtain⟨vs,hH,rk⟩:=waf rel3.hp hM
 have rv:=r1.mono (f2.trans f3)
 have rp:=rk.put (k:=kk) rv
 have lv:=rk.len
 have r4:RepO ⟨X.K,F⟩ H3 M3 (.dtt (kL kvs kk v)) (.dT (Yl vs kk vv)):=⟨_,rfl,rp.keys,rp.vals⟩
 refine⟨a,_,rfl,DPut.t hH hb (by lia),?_⟩
 exact p.nx _ _ _ _ (((f1.trans f2).trans f3).trans (wj hM)) (rel3.mono (wj hM) (rel3.hp.write hM r4)) q
end
noncomputable abbrev dc2(kx vx t1 i1 t2 i2:Expr)(scope:Scope)(pos:Pos):Expr:=.DictComp kx vx [⟨t1,i1,[],0⟩,⟨t2,i2,[],0⟩] scope pos
theorem Za7{env:Env}(kx vx t1 i1 t2 i2:Expr)(scope:Scope)(pos:Pos):eval (dc2 kx vx t1 i1 t2 i2 scope pos) env=comprehension (dc2 kx vx t1 i1 t2 i2 scope pos) scope env (firstIterPos [⟨t1,i1,[],0⟩,⟨t2,i2,[],0⟩] pos) newDict false (eval i1 env):=by
 rw[eval];rfl
theorem Xa7(kx vx t1 i1 t2 i2:Expr)(scope:Scope)(pos:Pos)(it:Value)(D:Addr)(env:Env) :
  compTurn (dc2 kx vx t1 i1 t2 i2 scope pos) 0 it (.ref D) env=(do
   standAt i1.pos
   match ←pyNext it with
   | none=>pure (.done .next)
   | some v=>
    letOwnedTupleGo t1 it v
    assign t1 env v
    let x ←eval i2 env
    standAt i2.pos
    let x ←foldedSetIterable i2 env x
    let _ ←runOwn (.compStart (dc2 kx vx t1 i1 t2 i2 scope pos) 1 (←holding [x] (pyIter x)) (.ref D) env) env
    again (.compLoop (dc2 kx vx t1 i1 t2 i2 scope pos) 0 it (.ref D) env)):=by rfl
theorem va6(kx vx t1 i1 t2 i2:Expr)(scope:Scope)(pos:Pos)(it:Value)(D:Addr)(env:Env) :
  compTurn (dc2 kx vx t1 i1 t2 i2 scope pos) 1 it (.ref D) env=(do
   standAt i2.pos
   match ←pyNext it with
   | none=>pure (.done .next)
   | some v=>
    letOwnedTupleGo t2 it v
    assign t2 env v
    (do
     let kv ←eval kx env
     let vv ←holding [kv] (eval vx env)
     standAt {kx.pos with endLine:=vx.pos.endLine,endCol:=vx.pos.endCol}
     holding [kv,vv] (dictSet D kv vv))
    again (.compLoop (dc2 kx vx t1 i1 t2 i2 scope pos) 1 it (.ref D) env)):=by rfl
section
variable {prog:Program} {w:World} {A:Around} {R:Result->Shared->Prop} {s:Shared} {kx vx t1 i1 t2 i2:Expr} {scope:Scope} {pos:Pos} {it:Value} {D:Addr} {env:Env}
theorem wa6(I:Nat->Shared->Prop)
  (turn:∀n s,I n s->wpAny (model prog w) A (pyNext it) (fun r s₁=>match r with
   | none=>R (.ok .next) s₁
   | some v=>wpAny (model prog w) A (letOwnedTupleGo t2 it v) (fun _ s₁'=>wpAny (model prog w) A (assign t2 env v) (fun _ s₂=>
     wpAny (model prog w) A (eval kx env) (fun kv s₄=>wpAny (model prog w) A (eval vx env) (fun vv s₅=>
       wpAny (model prog w) A (dictSet D kv vv) (fun _ s₆=>∃m,m<n/\I m s₆) noE s₅) noE s₄) noE s₂) noE s₁') noE s₁) noE s)
  (n:Nat) (h:I n s) :
  codeAny (model prog w) A (.compLoop (dc2 kx vx t1 i1 t2 i2 scope pos) 1 it (.ref D) env) R s:=by
 refine codeAny_loop rfl I (fun n s hI=>?_) n h
 show wpAny _ A ((compTurn (dc2 kx vx t1 i1 t2 i2 scope pos) 1 it (.ref D) env).onRaise (fun x=>do noteFrame x env;theTreesLotGoes x)) _ _ s
 refine wpAny_noted ?_
 rw[va6]
 refine wpAny_bind (wpAny_standAt (wpAny_bind (wpAny_mono (turn n s hI) (fun r s₁ h₁=>?_) fun _ _ h'=>h'.elim)))
 cases r with
 | none=>exact wpAny_pure h₁
 | some v=>
  refine wpAny_bind (wpAny_mono h₁ (fun _ s₁' h₁'=>?_) fun _ _ h'=>h'.elim)
  refine wpAny_bind (wpAny_mono h₁' (fun _ s₂ h₂=>?_) fun _ _ h'=>h'.elim)
  exact wpAny_bind (wpAny_bind (wpAny_mono h₂ (fun kv s₄ h₄=>wpAny_bind (wpAny_holding (wpAny_mono h₄ (fun vv s₅ h₅=>wpAny_bind (wpAny_standAt (wpAny_holding (wpAny_mono h₅ (fun _ s₆ h₆=>wpAny_pure ⟨rfl,h₆⟩) fun _ _ h'=>h'.elim)))) fun _ _ h'=>h'.elim))) fun _ _ h'=>h'.elim))
theorem Za2 
  (h0:codeAny (model prog w) A (.compLoop (dc2 kx vx t1 i1 t2 i2 scope pos) 1 it (.ref D) env) R s)
  (h:wpAny (model prog w) A (pyIter it) (fun it' s'=>codeAny (model prog w) A (.compLoop (dc2 kx vx t1 i1 t2 i2 scope pos) 1 it' (.ref D) env) R s')
   (notedBy (model prog w) A env fun x s'=>R (.error x) s') s) :
  codeAny (model prog w) A (.compStart (dc2 kx vx t1 i1 t2 i2 scope pos) 1 it (.ref D) env) R s:=by
 refine codeAny_of_tree ?_
 show wpAny _ A ((compStart (dc2 kx vx t1 i1 t2 i2 scope pos) 1 it (.ref D) env).onRaise (fun x=>do noteFrame x env;standAt theWindowsPlace)) _ _ s
 refine wpAny_notedAt ?_
 unfold compStart
 show wpAny _ A (ask >>= _) _ _ s
 refine wpAny_bind (wpAny_askSetting (wpAny_ite ?_))
 split
 ·first
   | exact wpAny_bind (wpAny_pure (wpAny_pure (And.intro rfl h0)))
   | exact wpAny_pure (And.intro rfl h0)
 ·first
   | exact wpAny_bind (wpAny_rule (wpAny_bind (wpAny_standAt (wpAny_bind (wpAny_mono h (fun it' s' h'=>wpAny_pure (And.intro rfl h')) fun _ _ x=>x)))))
   | (refine wpAny_bind (wpAny_rule ?_);show wpAny _ _ (standAt i2.pos >>= _) _ _ s;exact wpAny_bind (wpAny_standAt (wpAny_bind (wpAny_mono h (fun it' s' h'=>wpAny_pure (And.intro rfl h')) fun _ _ x=>x))))
theorem ka8(hs:∀x,foldedSetIterable i2 env x=pure x)(I:Nat->Shared->Prop)
  (turn:∀n s,I n s->wpAny (model prog w) A (pyNext it) (fun r s₁=>match r with
   | none=>R (.ok .next) s₁
   | some v=>wpAny (model prog w) A (letOwnedTupleGo t1 it v) (fun _ s₁'=>wpAny (model prog w) A (assign t1 env v) (fun _ s₂=>
     wpAny (model prog w) A (eval i2 env) (fun xv s₃=>wpAny (model prog w) A (pyIter xv) (fun it2 s₄=>
       codeAny (model prog w) A (.compStart (dc2 kx vx t1 i1 t2 i2 scope pos) 1 it2 (.ref D) env) (fun r s₅=>r=.ok .next/\∃m,m<n/\I m s₅) s₄) noE s₃) noE s₂) noE s₁') noE s₁) noE s)
  (n:Nat) (h:I n s) :
  codeAny (model prog w) A (.compLoop (dc2 kx vx t1 i1 t2 i2 scope pos) 0 it (.ref D) env) R s:=by
 refine codeAny_loop rfl I (fun n s hI=>?_) n h
 show wpAny _ A ((compTurn (dc2 kx vx t1 i1 t2 i2 scope pos) 0 it (.ref D) env).onRaise (fun x=>do noteFrame x env;theTreesLotGoes x)) _ _ s
 refine wpAny_noted ?_
 rw[Xa7]
 refine wpAny_bind (wpAny_standAt (wpAny_bind (wpAny_mono (turn n s hI) (fun r s₁ h₁=>?_) fun _ _ h'=>h'.elim)))
 cases r with
 | none=>exact wpAny_pure h₁
 | some v=>
  refine wpAny_bind (wpAny_mono h₁ (fun _ s₁' h₁'=>?_) fun _ _ h'=>h'.elim)
  refine wpAny_bind (wpAny_mono h₁' (fun _ s₂ h₂=>?_) fun _ _ h'=>h'.elim)
  refine wpAny_bind (wpAny_mono h₂ (fun xv s₃ h₃=>?_) fun _ _ h'=>h'.elim)
  refine wpAny_bind (wpAny_standAt ?_)
  rw[hs]
  refine wpAny_bind (wpAny_pure ?_)
  refine wpAny_bind (wpAny_holding (wpAny_mono h₃ (fun it2 s₄ h₄=>?_) fun _ _ h'=>h'.elim))
  refine wpAny_bind (wpAny_runOwn (codeAny_mono h₄ fun r s₅ h₅=>?_))
  obtain⟨rfl,h₅⟩:=h₅
  exact wpAny_pure ⟨rfl,h₅⟩
end
def YaN(n:Nat)(wi:TI)(g:TG)(wi2:TI)(g2:TG)(tk te:TE):TE:=fun σ H Q=>wi σ H fun J H1=>∀D,H1 D=none->∃W:Nat->Nat->List (Yf×V)->St->Hp->Prop,
   (∃m,W 0 m [] (ui n none++σ) (upd H1 D (.dT [])))/\∀i m ys σ' H',W i m ys σ' H' →
    (J.stop i H'/\H' D=some (.dT ys)/\Q (.ref D) H') \/
    (J.go i H'/\∀x H2,J.yld i H' x H2->g x σ' H2 fun σ3 H3=>wi2 σ3 H3 fun J2 H4=>∃W2:Nat->Nat->List (Yf×V)->St->Hp->Prop,(∃m2,W2 0 m2 ys σ3 H4)/\∀j m2 zs σ5 H5,W2 j m2 zs σ5 H5 →
     (J2.stop j H5/\∃m',m'<m/\W (i+1) m' zs σ5 H5) \/
     (J2.go j H5/\∀x2 H6,J2.yld j H5 x2 H6->g2 x2 σ5 H6 fun σ7 H7=>tk σ7 H7 fun kx' H8=>te σ7 H8 fun y H9=>∃b k,kx'=.ref b/\H9 b=some (.tup (k.map kV))/\H9 D=some (.dT zs)/\zs.length<sizeLine ∧
      ∃m2',m2'<m2/\W2 (j+1) m2' (Yl zs k y) σ7 (upd H9 D (.dT (Yl zs k y)))))
section
variable {X:Cx} {scope:Scope} {ts rest:List Str} {pins:ZPO} {σ:St} {kex elt tg iter tg2 iter2:Expr} {pos:Pos} {wi wi2:TI} {g g2:TG} {tk te:TE} {kk:Nat}
theorem Way(hr:Room kk X.A)(hc:X.calm=true)(S:qm X scope ts rest)
  (hg:∀fp s H,PG (Xe X scope ts rest fp s H) tg g) (hi2:∀fp s H,PI (Xe X scope ts rest fp s H) tg2 iter2 wi2) (hg2:∀fp s H,PG (Xe X scope ts rest fp s H) tg2 g2) (hk0:∀fp s H,PE (Xe X scope ts rest fp s H) kex tk) (he:∀fp s H,PE (Xe X scope ts rest fp s H) elt te)
  (hs2:∀env x,foldedSetIterable iter2 env x=pure x)
  {H1:Hp} {s₂:Shared} {it:Addr} {fp:List Addr} {tn:Nat->Heap->Prop} {J:It} (I2:Inv X pins σ H1 s₂) (T:YZ X.prog X.w X.K tg J fp it tn) (st2:tn 0 s₂.heap) (f2:∀b∈fp,Ws X pins H1 b) {Q:VK}
  (hw:∀D,H1 D=none->∃W:Nat->Nat->List (Yf×V)->St->Hp->Prop,
   (∃m,W 0 m [] (ui ts.length none++σ) (upd H1 D (.dT [])))/\∀i m ys σ' H',W i m ys σ' H' →
    (J.stop i H'/\H' D=some (.dT ys)/\Q (.ref D) H') \/
    (J.go i H'/\∀x H2,J.yld i H' x H2->g x σ' H2 fun σ3 H3=>wi2 σ3 H3 fun J2 H4=>∃W2:Nat->Nat->List (Yf×V)->St->Hp->Prop,(∃m2,W2 0 m2 ys σ3 H4)/\∀j m2 zs σ5 H5,W2 j m2 zs σ5 H5 →
     (J2.stop j H5/\∃m',m'<m/\W (i+1) m' zs σ5 H5) \/
     (J2.go j H5/\∀x2 H6,J2.yld j H5 x2 H6->g2 x2 σ5 H6 fun σ7 H7=>tk σ7 H7 fun kx' H8=>te σ7 H8 fun y H9=>∃b k,kx'=.ref b/\H9 b=some (.tup (k.map kV))/\H9 D=some (.dT zs)/\zs.length<sizeLine ∧
      ∃m2',m2'<m2/\W2 (j+1) m2' (Yl zs k y) σ7 (upd H9 D (.dT (Yl zs k y))))))
  {RR:Value->Addr->Result->Shared->Prop} {E:ZVP}
  (hRR:∀D s3 H3 σ' H' s',Inv X pins σ H3 s3->(∀b∈fp,Ws X pins H3 b)->Inv (Xe X scope ts rest fp s3 H3) pins σ' H' s'->Q (.ref D) H'->RR (.ref D) s3.heap.objs.size (.ok .next) s') :
  wpAny (model X.prog X.w) X.A newDict (fun acc s₃=>wpAny (model X.prog X.w) X.A (newFunctionEnv scope X.env.globals (jo X.env.cells scope.names []) [] X.env.qual none .none (some X.env)) (fun cenv s₄=>
   codeAny (model X.prog X.w) X.A (.compStart (dc2 kex elt tg iter tg2 iter2 scope pos) 0 (.ref it) acc {cenv with scope:=relabel scope X.env}) (RR acc cenv.locals) s₄) E s₃) E s₂:=by
 obtain⟨W,⟨m0,w0⟩,turn⟩:=hw s₂.heap.objs.size (I2.hok.fresh (uJ _))
 refine wpAny_newObj_type ?_
 generalize e3:({s₂ with heap:=s₂.heap.push {cls:=.type "dict",dict:=none,data:=.dict #[]}}:Shared)=s₃
 have hfl:∀b∈fp,b<s₂.heap.objs.size:=fun b hb=>by
  obtain⟨o,e,_⟩:=T.obj _ _ st2 b hb
  exact uM e
 have I3:Inv X pins σ (upd H1 s₂.heap.objs.size (.dT [])) s₃:=by
  subst e3
  exact I2.laid (t':=s₂.toks) (fun b u e=>uC _ e) (uJ _) (kay s₂.heap I2.big)
 have hs3:s₃.heap.objs.size=s₂.heap.objs.size+1:=by subst e3;exact xO ..
 have f3:∀b∈fp,Ws X pins (upd H1 s₂.heap.objs.size (.dT [])) b:=fun b hb=>⟨by rw[Yd (uR (hfl b hb))];exact(f2 b hb).1,(f2 b hb).2⟩
 have st3:tn 0 s₃.heap:=by
  subst e3
  exact T.keep _ _ _ st2 fun b _ o e=>uC _ e
 have hfl3:∀b∈fp,b<s₃.heap.objs.size:=fun b hb=>by rw[hs3];exact xK (hfl b hb)
 refine k7 fun h' hk hn ck=>?_
 have I4:=vag S I3 f3 hfl3 hk hn ck
 have st4:tn 0 ({s₃ with heap:=h'}:Shared).heap:=T.keep _ _ _ st3 fun b _ o e=>hk b o e
 generalize eX:Xe X scope ts rest fp s₃ (upd H1 s₂.heap.objs.size (.dT []))=X' at I4
 have hP:X'.prog=X.prog:=by subst eX;rfl
 have hw':X'.w=X.w:=by subst eX;rfl
 have hK':X'.K=X.K:=by subst eX;rfl
 have hA:X'.A=X.A:=by subst eX;rfl
 have hcalm:X'.calm=true:=by subst eX;exact hc
 have hxe:X'.xe=noE:=by subst eX;rfl
 have henv:X'.env=YA scope s₃.heap.objs.size X.env:=by subst eX;rfl
 have hg':PG X' tg g:=by subst eX;exact hg _ _ _
 have hi2':PI X' tg2 iter2 wi2:=by subst eX;exact hi2 _ _ _
 have hg2':PG X' tg2 g2:=by subst eX;exact hg2 _ _ _
 have he':PE X' elt te:=by subst eX;exact he _ _ _
 have hk':PE X' kex tk:=by subst eX;exact hk0 _ _ _
 have hu':X'.A.units+1<cLine:=by rw[hA];have:=hr.un;lia
 have f4:∀b∈fp,Ws X' pins (upd H1 s₂.heap.objs.size (.dT [])) b:=fun b hb=>by
  obtain⟨z0,z1,z2,z3,z4,z5⟩:=f3 b hb
  have ok4:=I4.ok
  refine⟨z0,?_,?_,.inl ?_,?_,?_⟩
  ·rw[henv];exact uR (hfl3 b hb)
  ·have:=ok4.exfs b (by subst eX;exact hb)
   exact this
  ·subst eX;exact hb
  ·exact(ok4.exf b (by subst eX;exact hb)).2
  ·subst eX;exact z5
 have stat:∀{H':Hp},(∀b∈fp,H' b=none)->∀b∈fp,Ws X' pins H' b:=fun hn b hb=>⟨hn b hb,(f4 b hb).2⟩
 have loop:∀s4:Shared,s4={s₃ with heap:=h'}->codeAny (model X.prog X.w) X.A (.compLoop (dc2 kex elt tg iter tg2 iter2 scope pos) 0 (.ref it) (.ref s₂.heap.objs.size) (YA scope s₃.heap.objs.size X.env))
   (RR (.ref s₂.heap.objs.size) s₃.heap.objs.size) s4:=by
  rintro s4 rfl
  refine ka8 (hs2 _) (fun n s'=>∃i ys σ' H',Inv X' pins σ' H' s'/\tn i s'.heap/\(∀b∈fp,H' b=none)/\W i n ys σ' H') ?_ m0 ⟨0,[],_,_,I4,st4,fun b hb=>(f4 b hb).1,w0⟩
  rintro n s5 ⟨i,ys,σ5,H5,I5,st5,fr5,w5⟩
  rw[←hP,←hw',←hA,←henv,←hxe]
  rcases turn i n ys σ5 H5 w5 with ⟨stop,eD,q⟩ | ⟨go,step⟩
  ·have z:=T.done X' hP hw' hK' hcalm i pins s5 σ5 H5 X'.xe I5 (stat fr5) st5 stop
   rw[←hP,←hw']at z
   refine thn z fun r s6 hz=>?_
   obtain⟨hr,I6⟩:=hz
   subst hr
   subst eX
   exact hRR _ s₃ _ σ5 H5 s6 I3 f3 I6 q
  ·have z:=T.item X' hP hw' hK' hcalm i pins s5 σ5 H5 X'.xe I5 (stat fr5) st5 go
   rw[←hP,←hw']at z
   refine thn z fun r s6 hz=>?_
   obtain⟨u,hr,h6⟩:=hz
   subst hr
   dsimp only
   refine thn h6 fun _ s7 ⟨x,H7,I7,r7,y7,st7,fr7⟩=>?_
   have I7':=I7.pinned (stat fr7) (T.obj _ _ st7)
   refine thn (hg' _ s7 σ5 H7 x u _ I7' r7 (step x H7 y7)) fun _ s8 ⟨σ8,H8,I8,q8⟩=>?_
   have back:∀{s9:Shared} {σ9:St} {H9:Hp},Inv X' (pins++YI fp s7.heap) σ9 H9 s9->Inv X' pins σ9 H9 s9/\tn (i+1) s9.heap/\∀b∈fp,H9 b=none:=fun {s9 σ9 H9} I9=>by
    refine⟨I9.unpinned,T.keep _ _ _ st7 fun b hb o e=>(I9.pin (b,o) (uY _ (uY _ (vt hb e)))).1,fun b hb=>?_⟩
    obtain⟨o,e,d⟩:=T.obj _ _ st7 b hb
    exact(I9.pin (b,o) (uY _ (uY _ (vt hb e)))).2.1
   generalize pins++YI fp s7.heap=pins2 at I8 back
   refine thn (hi2' _ s8 σ8 H8 _ I8 q8) fun xv s9 h9=>?_
   refine thn h9 fun itv s10 h10=>?_
   obtain⟨it2,fp2,tn2,J2,H10,rfl,I10,T2,st10,f10,W2,⟨m2,w20⟩,turn2⟩:=h10
   have stat2:∀{H':Hp},(∀b∈fp2,H' b=none)->∀b∈fp2,Ws X' pins2 H' b:=fun hn b hb=>⟨hn b hb,(f10 b hb).2⟩
   have loop2:codeAny (model X'.prog X'.w) X'.A (.compLoop (dc2 kex elt tg iter tg2 iter2 scope pos) 1 (.ref it2) (.ref s₂.heap.objs.size) X'.env)
     (fun r s₅=>r=.ok .next/\∃m,m<n/\∃i ys σ' H',Inv X' pins σ' H' s₅/\tn i s₅.heap/\(∀b∈fp,H' b=none)/\W i m ys σ' H') s10:=by
    refine wa6 (fun n2 s'=>∃j zs σ' H',Inv X' pins2 σ' H' s'/\tn2 j s'.heap/\(∀b∈fp2,H' b=none)/\W2 j n2 zs σ' H') ?_ m2 ⟨0,ys,σ8,H10,I10,st10,fun b hb=>(f10 b hb).1,w20⟩
    rintro n2 sa ⟨j,zs,σa,Ha,Ia,sta,fra,wa⟩
    rw[←hxe]
    rcases turn2 j n2 zs σa Ha wa with ⟨stop2,m',hm,wz⟩ | ⟨go2,step2⟩
    ·refine thn (T2.done X' rfl rfl rfl hcalm j pins2 sa σa Ha X'.xe Ia (stat2 fra) sta stop2) fun r sb hz=>?_
     obtain⟨hr,Ib⟩:=hz
     subst hr
     obtain⟨a1,a2,a3⟩:=back Ib
     exact⟨rfl,m',hm,i+1,zs,σa,Ha,a1,a2,a3,wz⟩
    ·refine thn (T2.item X' rfl rfl rfl hcalm j pins2 sa σa Ha X'.xe Ia (stat2 fra) sta go2) fun r sb hz=>?_
     obtain⟨u2,hr,hb6⟩:=hz
     subst hr
     dsimp only
     refine thn hb6 fun _ sc ⟨x2,Hc,Ic,rc,yc,stc,frc⟩=>?_
     have Ic':=Ic.pinned (stat2 frc) (T2.obj _ _ stc)
     refine thn (hg2' _ sc σa Hc x2 u2 _ Ic' rc (step2 x2 Hc yc)) fun _ sd ⟨σd,Hd,Id,qd⟩=>?_
     have back2:∀{s9:Shared} {σ9:St} {H9:Hp},Inv X' (pins2++YI fp2 sc.heap) σ9 H9 s9->Inv X' pins2 σ9 H9 s9/\tn2 (j+1) s9.heap/\∀b∈fp2,H9 b=none:=fun {s9 σ9 H9} I9=>by
      refine⟨I9.unpinned,T2.keep _ _ _ stc fun b hb o e=>(I9.pin (b,o) (uY _ (uY _ (vt hb e)))).1,fun b hb=>?_⟩
      obtain⟨o,e,d⟩:=T2.obj _ _ stc b hb
      exact(I9.pin (b,o) (uY _ (uY _ (vt hb e)))).2.1
     refine thn (hk' _ sd σd Hd _ Id qd) fun uk se ⟨kx,He,Ie,re,qe⟩=>?_
     refine thn (he' _ se σd He _ Ie qe) fun v sf ⟨y,Hf,If,rf,b,k,ek,eb,eD,hl,m2',hm2,wf⟩=>?_
     subst ek
     cases (show uk=Value.ref b from re)
     obtain⟨z,hd,xs,rel,dd⟩:=XaR If.hok eD
     have hz:xs.length<=sizeLine:=by rw[←Paired.length rel];exact z
     have hl2:(Yl zs k y).length<=sizeLine:=by have:=vB zs k y;lia
     refine wpAny_dictSet_heap (hsz:=hz) (A:=X'.A) (show(tupleKind (We X'.prog X'.w)).room X'.A from ?_) (wM If.hok eb) dd fun h'' dd' hs'=>?_
     ·exact Nat.lt_of_le_of_lt (xw _) hu'
     obtain⟨q,es,ep,hq,h2,h3,h4,_,h5⟩:=dd'
     have Ig:=XL (t':=sf.toks+(tupleKind (We X'.prog X'.w)).draws k) If (by rw[eD];exact True.intro) hs' ⟨q,hq⟩ (ob:=.dT (Yl zs k y)) ⟨hl2,hd,_,(rel.put k eb rf).keeps fun c ys ec=>by
      rw[Yd (wbe ec eD (fun z=>nomatch z))]
      exact ec,q,es,ep,hq,h2,h3,h4,h5⟩
     obtain⟨a1,a2,a3⟩:=back2 Ig
     exact⟨m2',hm2,j+1,_,σd,_,a1,a2,a3,wf⟩
   exact Za2 loop2 (T2.self X'.A 0 _ _ _ st10 loop2)
 exact codeAny_compStart_dict (loop _ rfl) (T.self X.A 0 _ _ _ st4 (loop _ rfl))
theorem Xa3(hr:Room kk X.A)(hc:X.calm=true)(S:qm X scope ts rest)(hi:PI X tg iter wi)
  (hg:∀fp s H,PG (Xe X scope ts rest fp s H) tg g) (hi2:∀fp s H,PI (Xe X scope ts rest fp s H) tg2 iter2 wi2) (hg2:∀fp s H,PG (Xe X scope ts rest fp s H) tg2 g2) (hk0:∀fp s H,PE (Xe X scope ts rest fp s H) kex tk) (he:∀fp s H,PE (Xe X scope ts rest fp s H) elt te)
  (hs:∀x,foldedSetIterable iter X.env x=pure x:=by intro _;rfl) (hs2:∀env x,foldedSetIterable iter2 env x=pure x:=by intro _ _;rfl):PE X (dc2 kex elt tg iter tg2 iter2 scope pos) (YaN ts.length wi g wi2 g2 tk te):=by
 intro pins s σ H Q I h
 rw[Za7]
 refine wpAny_comprehension_free (use:=none) rfl hs (vI fun y hy hk=>I.ok.has _ (S.free y hy hk)) S.kind S.own (thn (hi pins s σ H _ I h) fun x s₁ h1=>thn h1 fun itv s₂ h2=>?_)
 obtain⟨it,fp,tn,J,H2,e,I2,T,st2,f2,hw⟩:=h2
 subst e
 refine Way hr hc S hg hi2 hg2 hk0 he hs2 I2 T st2 f2 hw (RR:=fun acc C=>compPost (model X.prog X.w) X.A X.xe none (EP X pins σ Q) acc C) fun D s3 H3 σ' H' s' I3 f3 J' q=>?_
 obtain⟨m,hn,_⟩:=J'.loc
 exact⟨m,hn,fun h' hb=>⟨.ref D,H',Y2 I3 f3 J' hb,rfl,q⟩⟩
end
@[irreducible] def kC(n:Nat)(tI:TGI)(g:TDG)(ta:TDA)(g2:TDG)(tk te:TDE):TDE:=fun σ M Q=>tI σ M fun ds Gd M1=>∃Pv:Nat->List (Yf×D)->SD->HpD->Prop,Pv 0 [] (ui n none++σ) M1/\(∀i ys σ M,Pv i ys σ M->Gd M) ∧
 (∀i d ys σ M,ds[i]?=some d->Pv i ys σ M->g d σ M fun σ2 M2=>ta σ2 M2 fun vs M3=>∃lo hi:Int,vs=[.int lo,.int hi]/\(-(2^62)<=lo/\lo<2^62/\-(2^62)<=hi/\hi<2^62)/\∃Pw:Nat->List (Yf×D)->SD->HpD->Prop,Pw 0 ys σ2 M3 ∧
  (∀j zs σ M,j<(hi - lo).toNat->Pw j zs σ M->g2 (.int (lo+(j:Int))) σ M fun σ4 M4=>tk σ4 M4 fun x M5=>te σ4 M5 fun y M6=>∃k,x=tkD k/\zs.length<sizeLine/\Pw (j+1) (kL zs k y) σ4 M6)/\∀zs σ M,Pw (hi - lo).toNat zs σ M->Pv (i+1) zs σ M) ∧
 ∀ys σ M,Pv ds.length ys σ M->∀p,M p=none->Q (.ref p) (wc M p (.dtt ys))
theorem kaX{n:Nat}{tI:TGI}{g:TDG}{ta:TDA}{g2:TDG}{tk te:TDE}{σ:SD}{M:HpD}{Q:KD}(h:tI σ M fun ds Gd M1=>∃Pv:Nat->List (Yf×D)->SD->HpD->Prop,Pv 0 [] (ui n none++σ) M1/\(∀i ys σ M,Pv i ys σ M->Gd M) ∧
 (∀i d ys σ M,ds[i]?=some d->Pv i ys σ M->g d σ M fun σ2 M2=>ta σ2 M2 fun vs M3=>∃lo hi:Int,vs=[.int lo,.int hi]/\(-(2^62)<=lo/\lo<2^62/\-(2^62)<=hi/\hi<2^62)/\∃Pw:Nat->List (Yf×D)->SD->HpD->Prop,Pw 0 ys σ2 M3 ∧
  (∀j zs σ M,j<(hi - lo).toNat->Pw j zs σ M->g2 (.int (lo+(j:Int))) σ M fun σ4 M4=>tk σ4 M4 fun x M5=>te σ4 M5 fun y M6=>∃k,x=tkD k/\zs.length<sizeLine/\Pw (j+1) (kL zs k y) σ4 M6)/\∀zs σ M,Pw (hi - lo).toNat zs σ M->Pv (i+1) zs σ M) ∧
 ∀ys σ M,Pv ds.length ys σ M->∀p,M p=none->Q (.ref p) (wc M p (.dtt ys))):kC n tI g ta g2 tk te σ M Q:=by unfold kC;exact h
section
variable {X:Cx} {tg iter tg2 kex elt:Expr} {scope:Scope} {tI:TGI} {g g2:TDG} {ta:TDA} {tk te:TDE} {ts rest:List Str} {pos:Pos}
theorem ZaH{K:uD}{n:Nat}{σ:St}{H:Hp}{Q:VK}(h:Yg K (kC n tI g ta g2 tk te) σ H Q):YaN n (vav K tI) (ZH K g) (qbe (Zai K ta)) (ZH K g2) (Yg K tk) (Yg K te) σ H Q:=by
 obtain⟨F,σD,M,QD,rel,h,p⟩:=h
 unfold kC at h
 refine⟨F,σD,M,_,rel,h,fun ds Gd M1 H1 J f1 rh1 y h1=>?_⟩
 intro D' hD
 obtain⟨Pv,p0,gd,step,done⟩:=h1
 have mD:=rh1.free hD
 have fF:∀a,(F a\/a=D')->F a\/H1 a=none:=fun a z=>z.elim .inl fun e=>.inr (e▸hD)
 have rel1:=rel.mono f1 rh1
 have relS:Rel ⟨K,fun a=>F a\/a=D'⟩ (ui n none++σD) M1 (ui n none++σ) (upd H1 D' (.dT [])):=by
  have r1:Rel ⟨K,F⟩ (ui n none++σD) M1 (ui n none++σ) H1:=rel1.pad n
  refine⟨r1.len,fun i d e=>?_,⟨fun a o e=>?_,fun a z=>?_⟩⟩
  ·obtain⟨v,e1,e2⟩:=r1.st i d e
   exact⟨v,e1,(e2.more fF).mono (Wm hD)⟩
  ·obtain⟨o',e',r⟩:=rh1.at_ a o e
   exact⟨o',by rw[Yd (jd e' hD)];exact e',(r.more fF).mono (Wm hD)⟩
  ·rcases z with z | rfl
   ·obtain⟨⟨o',e'⟩,m'⟩:=rh1.fb a z
    exact⟨⟨o',by rw[Yd (jd e' hD)];exact e'⟩,m'⟩
   ·exact⟨⟨⟨(HO.dT []:HO),by intro _ z;cases z⟩,Wg⟩,mD⟩
 refine⟨fun i m ys σ' H'=>m=ds.length - i/\i<=ds.length/\H' D'=some (.dT ys)/\∃σD' M' ysD,Rel ⟨K,fun a=>F a\/a=D'⟩ σD' M' σ' H'/\Fz M1 H1 M' H'/\RepKT ⟨K,fun a=>F a\/a=D'⟩ H' M' ysD ys/\Pv i ysD σD' M',
  ⟨ds.length,by simp,ua _,Wg,_,M1,[],relS,Wm hD,⟨rfl,.nil⟩,p0⟩,?_⟩
 rintro i m ys σ' H' ⟨rfl,hi,eD,σD',M',ysD,rel',f',ry,pv⟩
 have mD':M' D'=none:=(rel'.hp.fb D' (.inr rfl)).2
 by_cases hlt:i<ds.length
 ·have e:ds[i]?=some ds[i]:=uB hlt
  obtain⟨go,yl⟩:=(y _ i M' H' fF f' rel'.hp (gd _ _ _ _ pv)).1 _ e
  refine .inr ⟨go,fun x H2 yy=>?_⟩
  obtain⟨fy,rhy,rx⟩:=yl x H2 yy
  refine⟨_,ds[i],σD',M',_,rel'.mono fy rhy,rx,step i _ ysD σD' M' e pv,fun σD3 M3 σ3 H3 f3 rel3 h3=>?_⟩
  refine lA rel3 h3 fun vs M4 us H4 f4 rel4 r4 h4=>?_
  obtain⟨lo,hiv,rfl,hb,Pw,q0,stepw,donew⟩:=h4
  obtain⟨u1,u2,rfl,r2,r3⟩:=jak r4
  unfold RepD at r2 r3
  subst r2 r3
  refine⟨lo,hiv,rfl,hb,?_⟩
  have f14:Fz M1 H1 M4 H4:=((f'.trans fy).trans f3).trans f4
  have fD4:Fz M' H' M4 H4:=(fy.trans f3).trans f4
  refine⟨fun j m2 zs σ' H'=>m2=(hiv - lo).toNat - j/\j<=(hiv - lo).toNat/\H' D'=some (.dT zs)/\∃σD' M' zsD,Rel ⟨K,fun a=>F a\/a=D'⟩ σD' M' σ' H'/\Fz M1 H1 M' H'/\RepKT ⟨K,fun a=>F a\/a=D'⟩ H' M' zsD zs/\Pw j zsD σD' M',
   ⟨(hiv - lo).toNat,by simp,ua _,(fD4 D' _ eD mD').1,σD3,M4,ysD,rel4,f14,ry.mono fD4,q0⟩,?_⟩
  rintro j m2 zs σ5 H5 ⟨rfl,hj,eD5,σD5,M5,zsD,rel5,f5,rz,pw⟩
  have mD5:M5 D'=none:=(rel5.hp.fb D' (.inr rfl)).2
  by_cases hlj:j<(hiv - lo).toNat
  ·refine .inr ⟨hlj,fun x2 H6 yy2=>?_⟩
   obtain⟨rfl,rfl⟩:=yy2
   refine⟨_,.int (lo+(j:Int)),σD5,M5,_,rel5,by unfold RepD;rfl,stepw j zsD σD5 M5 hlj pw,fun σD7 M7 σ7 H7 f7 rel7 h7=>?_⟩
   refine lE rel7 h7 fun kd M8 kv H8 f8 rel8 r8 h8=>?_
   refine lE rel8 h8 fun yd M9 v H9 f9 rel9 r9 h9=>?_
   obtain⟨k,rfl,hl,h9⟩:=h9
   obtain⟨b,rfl,hb9⟩:=wad (r8.mono f9)
   have fD9:=(f7.trans f8).trans f9
   obtain⟨eD9,mD9⟩:=fD9 D' _ eD5 mD5
   have hF:(KF.mk K fun a=>F a\/a=D').F D':=.inr rfl
   have rk:=(rz.mono fD9).put (k:=k) r9
   have lz:=rz.len
   refine⟨b,k,rfl,hb9,eD9,by lia,(hiv - lo).toNat - (j+1),by lia,rfl,hlj,Wg,σD7,M9,kL zsD k yd,rel9.past hF,fun a o q z=>?_,⟨rk.keys,rk.vals.past hF⟩,h9⟩
   obtain⟨q1,q2⟩:=(f5.trans fD9) a o q z
   exact⟨by rw[Yd (jd q hD)];exact q1,q2⟩
  ·have ej:j=(hiv - lo).toNat:=by lia
   subst ej
   exact .inl ⟨uJ _,ds.length - (i+1),by lia,rfl,hlt,eD5,σD5,M5,zsD,rel5,f5,rz,donew _ _ _ pw⟩
 ·have e:i=ds.length:=by lia
  subst e
  refine .inl ⟨(y _ _ M' H' fF f' rel'.hp (gd _ _ _ _ pv)).2 (uJ _),eD,?_⟩
  have fL:∀a,F a->(F a\/a=D')\/H' a=none:=fun a z=>.inl (.inl z)
  have rhE:RepH ⟨K,F⟩ H' M':=⟨fun a o q=>by
   obtain⟨o',e',r⟩:=rel'.hp.at_ a o q
   exact⟨o',e',r.more fL⟩,fun a z=>rel'.hp.fb a (.inl z)⟩
  have hn:=done ysD σD' M' pv
  have nf:¬F D':=rh1.nf hD
  refine p _ (wc M' D' (.dtt ysD)) _ H' (f1.trans fun a o q z=>?_) ⟨fun a o q=>?_,fun a z=>⟨(rhE.fb a z).1,?_⟩⟩ (by unfold RepD;rfl) (hn D' mD')
  ·obtain⟨q1,q2⟩:=f' a o q z
   exact⟨q1,by rw[Xb (jd q hD)];exact q2⟩
  ·by_cases qa:a=D'
   ·rw[qa,Xc]at q;cases q
    rw[qa]
    refine⟨_,eD,ys,rfl,ry.keys,?_⟩
    exact RepDs.own (F':=fun a=>F a\/a=D') (.inr rfl) fL ry.vals
   ·rw[Xb qa]at q
    obtain⟨o',e',r⟩:=rel'.hp.at_ a o q
    exact⟨o',e',RepO.own (F':=fun a=>F a\/a=D') (.inr rfl) fL r⟩
  ·rw[Xb (fun(z':a=D')=>nf (by rw[←z'];exact z))];exact(rhE.fb a z).2
variable {a b:Expr} {p2 pos2:Pos} {kk:Nat}
theorem Yaq(hr:Room kk X.A)(S:qm X scope ts rest)(hi:IDG X tg iter tI)(hgl:∀fp s H,Gl (Xe X scope ts rest fp s H) "range")(hm:X.mg "range"=none)
  (hg:∀fp s H,GD (Xe X scope ts rest fp s H) tg g) (ha:∀fp s H,AD (Xe X scope ts rest fp s H) [a,b] ta) (hg2:∀fp s H,GD (Xe X scope ts rest fp s H) tg2 g2) (hk0:∀fp s H,ED (Xe X scope ts rest fp s H) kex tk) (he:∀fp s H,ED (Xe X scope ts rest fp s H) elt te)
  (hst:∀fp s H,starEach [a,b] (Xe X scope ts rest fp s H).env=[(false,eval a (Xe X scope ts rest fp s H).env),(false,eval b (Xe X scope ts rest fp s H).env)]:=by intro _ _ _;rfl) (hst2:∀fp s H,starEach [b] (Xe X scope ts rest fp s H).env=[(false,eval b (Xe X scope ts rest fp s H).env)]:=by intro _ _ _;rfl)
  (hc:X.calm=true:=by rfl) (hs:∀x,foldedSetIterable iter X.env x=pure x:=by intro _;rfl):ED X (dc2 kex elt tg iter tg2 (.Call (.Name "range" p2) [a,b] [] pos2) scope pos) (kC ts.length tI g ta g2 tk te):=
 (Xa3 (g:=ZH X.K g) (g2:=ZH X.K g2) (tk:=Yg X.K tk) (te:=Yg X.K te) hr hc S hi hg (fun fp s H=>jan (hgl fp s H) hm (ha fp s H) (hst fp s H) (hst2 fp s H)) hg2 hk0 he hs).wk fun _ _ _ h=>ZaH h
end
theorem Inv.drawnW{X:Cx}{pins:ZPO}{σ:St}{H:Hp}{s:Shared}(I:Inv X pins σ H s)(d:Drawn):Inv X pins σ H {s with drawn:=d}:=
 ⟨I.ok,I.os,I.bare,I.base,I.loc,I.cell,I.free,I.freeC,I.pin,I.hok,I.len⟩
theorem waz:bootBuiltins "set"=some (.type "set"):=by decide +kernel
theorem jax:bootBuiltins "sorted"=some (.builtin "sorted"):=by decide +kernel
end L2
namespace L2
open PySem PySem.W PySem.Spec PyProof.Rows
theorem RepH.tupN{K:KF}{H:Hp}{M:HpD}{a:Addr}{xs:List V}(rh:RepH K H M)(e:H a=some (.tup xs)):M a=none/\¬K.F a:=by
 refine⟨?_,fun z=>?_⟩
 ·cases q:M a with
  | none=>rfl
  | some o=>
   obtain⟨o',e',r⟩:=rh.at_ a o q
   rw[e]at e'
   cases e'
   cases o with
   | lst _=>obtain⟨_,z,_⟩:=r;cases z
   | dct _=>obtain⟨_,z,_⟩:=r;cases z
   | tab _=>obtain⟨_,z,_⟩:=r;cases z
   | dtt _=>obtain⟨_,z,_⟩:=r;cases z
 ·obtain⟨⟨o,e'⟩,_⟩:=rh.fb a z
  rw[e]at e'
  exact o.2 xs (Option.some.inj e').symm
theorem ZP{K:KF}{H:Hp}{M:HpD}:∀k:Yf,RepDs K H M (k.map wl) (k.map kV)
 | []=>.nil
 | .inl i::k=>.cons (by unfold wl RepD;rfl) (ZP k)
 | .inr i::k=>.cons (by unfold wl RepD;rfl) (ZP k)
theorem RepH.tk{K:KF}{H:Hp}{M:HpD}{a:Addr}{k:Yf}(rh:RepH K H M)(e:H a=some (.tup (k.map kV))):RepD K H M (tkD k) (.ref a):=by
 unfold tkD RepD
 exact⟨a,_,rfl,.inl ⟨.inl e,(rh.tupN e).1,(rh.tupN e).2⟩,ZP k⟩
section
variable {X:Cx} {pins:ZPO} {σ:St} {H:Hp} {s:Shared} {F:Addr->Prop} {M:HpD}
theorem Yac{α:Type}{enc:α->D}{lt:α->α->Bool}{as:List α}{ys:List V}{us:List Value}{k:Nat}{QD:KD}{Q:VK}(hr:Room k X.A)(I:Inv X pins σ H s)(h64:as.length<=1000)(L:Zv lt)(sk:Zam (as.map enc))(hlt:∀a∈as,∀b∈as,ltD (enc a) (enc b)=lt a b)
  (rh:RepH ⟨X.K,F⟩ H M) (pp:PostE ⟨X.K,F⟩ M H QD Q) (rd:RepDs ⟨X.K,F⟩ H M (as.map enc) ys) (vi:Vals ys us) (q:∀bs:List α,bs.Perm as->bs.Pairwise (fun a b=>lt b a=false)->newL (bs.map enc) M QD) :
  us.length<=1000/\∃r:Nat->Int,(2<=us.length->∀h':Heap,(∀b o,s.heap.get? b=some o->h'.get? b=some o)->∃κ:SortKind,
   (∀(Q:SortKind->Shared->Prop) (E:ZVP),Q κ {s with heap:=h'}->wpAny (model X.prog X.w) X.A.in1.in1 (keyKind' us.toArray) Q E {s with heap:=h'}) ∧
   ∀i j,i<us.length->j<us.length->∀C:Bool->Shared->Prop,C (rlt r i j) {s with heap:=h'}->wpAny (model X.prog X.w) X.A.in1.in1 (keyLt' κ (us.getD i Value.none) (us.getD j Value.none)) C (fun _ _=>False) {s with heap:=h'}) ∧
   ∀p:Array Nat,PermN us.length p->Srt r p us.length->∀(h':Heap) (c:Nat),(∀b o,s.heap.get? b=some o->h'.get? b=some o)->h'.get? s.heap.objs.size=some (seqObj "list" (Yt us p) c)->EP X pins σ Q (.ref s.heap.objs.size) {s with heap:=h'}:=by
 have lds:(as.map enc).length=as.length:=uA _
 have l1:ys.length=as.length:=by rw[←rd.length,lds]
 have l2:us.length=as.length:=by rw[←vi.length,l1]
 have hun:=hr.un
 refine⟨by lia,qL lt as,fun h2 h' kp=>?_,fun p hp hsr h' c kp hc=>?_⟩
 ·have I':Inv X pins σ H {s with heap:=h'}:=I.kept (t':=s.toks) kp
  obtain⟨κ,hk,hc⟩:=Wbd I' (A:=X.A.in1.in1) (by show X.A.units+1+1+70<cLine;lia) (by lia) sk rd vi
  refine⟨κ,hk,fun i j hi hj C hC=>?_⟩
  have ei:as[i]?=some (as[i]'(by lia)):=uB (by lia)
  have ej:as[j]?=some (as[j]'(by lia)):=uB (by lia)
  refine hc i j _ _ (by rw[uG,ei];rfl) (by rw[uG,ej];rfl) C ?_
  rw[hlt _ (uF ei) _ (uF ej),←kak L (uF ei) (uF ej),←XD ei,←XD ej]
  exact hC
 ·rw[l2]at hp hsr
  obtain⟨hb,hperm,hpw⟩:=Z7 L hp hsr
  have rr:RepDs ⟨X.K,F⟩ H M ((p.toList.filterMap fun i=>as[i]?).map enc) (p.toList.filterMap fun i=>ys[i]?):=by
   rw[←waw]
   exact Xab rd _ fun i hi=>by rw[lds];exact hb i hi
  have rv:=kZ vi p.toList fun i hi=>by rw[l1];exact hb i hi
  have nl:=(q _ hperm hpw).post pp rh rr
  exact⟨.ref s.heap.objs.size,_,I.laid (t':=s.toks) (fun b o z=>kp b o z) (uJ _) (show ObjOk X.prog X.w _ _ _ (.lst _) from⟨nl.1,_,c,rv,hc⟩),rfl,nl.2 _ (I.hok.fresh (uJ _))⟩
end
@[irreducible] def YO:RDn:=fun xs M Q=>∃(α:Type) (enc:α->D) (lt:α->α->Bool) (as:List α) (a:Addr) (kvs:List (Yf×D)),xs=[.ref a]/\M a=some (.dtt kvs)/\kvs.map (fun kv=>tkD kv.1)=as.map enc/\as.length<=1000/\Zv lt/\Zam (as.map enc)/\(∀a∈as,∀b∈as,ltD (enc a) (enc b)=lt a b) ∧
 ∀bs:List α,bs.Perm as->bs.Pairwise (fun a b=>lt b a=false)->newL (bs.map enc) M Q
theorem waR{α:Type}{enc:α->D}{lt:α->α->Bool}{as:List α}{a:Addr}{kvs:List (Yf×D)}{M:HpD}{Q:KD}(h:M a=some (.dtt kvs))(hk:kvs.map (fun kv=>tkD kv.1)=as.map enc)(h64:as.length<=1000)(L:Zv lt)(k:Zam (as.map enc))(hlt:∀a∈as,∀b∈as,ltD (enc a) (enc b)=lt a b)
  (q:∀bs:List α,bs.Perm as->bs.Pairwise (fun a b=>lt b a=false)->newL (bs.map enc) M Q):YO [.ref a] M Q:=by
 unfold YO;exact⟨α,enc,lt,as,a,kvs,rfl,h,hk,h64,L,k,hlt,q⟩
theorem kal{K:KF}{H:Hp}{M:HpD}(rh:RepH K H M):∀{vs:List (Yf×V)} {xs:List (List Key×Addr×Value)},KT H vs xs->RepDs K H M (vs.map fun kv=>tkD kv.1) (xs.map fun x=>V.ref x.2.1)/\Vals (xs.map fun x=>V.ref x.2.1) (xs.map fun x=>Value.ref x.2.1)
 | _,_,.nil=>⟨.nil,.nil⟩
 | _,_,.cons r t=>⟨.cons (rh.tk r.2.1) (kal rh t).1,.cons rfl (kal rh t).2⟩
theorem ZaU{X:Cx}{k:Nat}(hr:Room k X.A)(hc:X.calm=true:=by rfl):CallR X (.builtin "sorted") (wt X.K YO):=by
 intro pins s σ H xs us Q I rx h
 obtain⟨F,ds,M,QD,r,rh,hq,pp⟩:=h
 unfold YO at hq
 obtain⟨α,enc,lt,as,a,kvs,rfl,hM,hk,h64,L,sk,hlt,q⟩:=hq
 obtain⟨v,rfl,r1⟩:=jE r
 unfold RepD at r1
 subst r1
 obtain⟨u,rfl,ru⟩:=Zx rx
 cases ru
 obtain⟨vs,hH,rk⟩:=waf rh hM
 obtain⟨z,hd,ys,rel,o,es,ep,h1,h2,h3,h4,_⟩:=XaR I.hok hH
 have hl0:es.size=as.length:=by
  have e1:=congrArg xV hk
  rw[uA,uA]at e1
  have e2:=congrArg xV h4
  rw[uA,uU]at e2
  have e3:=Paired.length rel
  have e4:=rk.len
  lia
 have hke:es.toList.map (·.key)=ys.map fun x=>Value.ref x.2.1:=by rw[h4,uh];rfl
 obtain⟨g1,g2⟩:=kal rh rel
 have hke2:(vs.map fun kv=>tkD kv.1)=as.map enc:=by
  rw[←hk]
  have:=congrArg (List.map tkD) rk.keys
  rw[uh,uh]at this
  exact this
 rw[hke2]at g1
 refine vac (XaI (A:=X.A.in1) (by simpa using I.ok.hd hc) hd ⟨o,h1,h2,h3⟩ (by lia) fun h' tk hge kp=>?_)
 rw[hke]
 exact Yac (s:={s with heap:=h',toks:=tk}) hr (I.kept (t':=tk) kp) h64 L sk hlt rh pp g1 g2 q
section
variable {X:Cx} {a:Expr} {te:TDE} {p p2 pos pos2:Pos}
@[irreducible] def ZF(te:TDE):TDE:=fun σ M Q=>te σ M fun d M1=>∃ks:List Key,Zd d M1=some (ks.map wl)/\ks.length<=1000/\∀ms:List Key,ms.Nodup->(∀k,k∈ms↔k∈ks)->Q (.int ms.length) M1
theorem Wa2{σ:SD}{M:HpD}{Q:KD}(h:te σ M fun d M1=>∃ks:List Key,Zd d M1=some (ks.map wl)/\ks.length<=1000/\∀ms:List Key,ms.Nodup->(∀k,k∈ms↔k∈ks)->Q (.int ms.length) M1):ZF te σ M Q:=by unfold ZF;exact h
theorem vaL{ks:List Key}{its:List Value}(rv:Vals (ks.map kV) its):ks.length=its.length/\∀(j:Nat) (v:Value),its[j]?=some v->∃k,ks[j]?=some k/\Xv k v=true:=by
 have hl:ks.length=its.length:=by rw[←rv.length,uA]
 refine⟨hl,fun j v hv=>?_⟩
 have hj:j<ks.length:=by obtain⟨h9,_⟩:=uO.mp hv;lia
 obtain⟨u,hu,ru⟩:=rv.get (i:=j) (x:=kV ks[j]) (by rw[uG,uB hj];rfl)
 rw[hv]at hu;cases hu
 refine⟨_,uB hj,?_⟩
 cases q:ks[j]with
 | inl i=>rw[q]at ru;obtain⟨t,rfl⟩:=ru;simp[Xv,Value.isInt]
 | inr x=>rw[q]at ru;obtain⟨t,rfl⟩:=ru;simp[Xv,Value.isStrOf]
theorem WaZ:bootBuiltins "len"=some (.builtin "len"):=by decide +kernel
theorem qap(hg:Gl X "len")(hm:X.mg "len"=none)(hg2:Gl X "set")(hm2:X.mg "set"=none)(ha:ED X a te)
  (hs:starEach [a] X.env=[(false,eval a X.env)]:=by rfl)
  (hs3:starEach [.Call (.Name "set" p2) [a] [] pos2] X.env=[(false,eval (.Call (.Name "set" p2) [a] [] pos2) X.env)]:=by rfl) (hc:X.calm=true:=by rfl) :
  ED X (.Call (.Name "len" p) [.Call (.Name "set" p2) [a] [] pos2] [] pos) (ZF te):=by
 intro pins s σ H Q I h
 obtain⟨F,σD,M,QD,rel,h,pp⟩:=h
 unfold ZF at h
 refine Call_ (XC I hg hm WaZ (yI ?_ hs3 rfl))
 rw[hs3]
 show wpAny _ _ (spliced ((false,eval (.Call (.Name "set" p2) [a] [] pos2) X.env)::[])) _ _ s
 refine Calls.spliced_cons ?_
 have hpa:PA X [a] (ZaP (Yg X.K te) jaR):=WB ha pa_nil (by rw[hs];rfl)
 have hA:=hpa pos2 pins s σ H (fun vs H1=>∃(i:Addr) (ks:List Key),vs=[.ref i]/\SqL X.K H1 i (ks.map kV)/\ks.length<=1000 ∧
  ∀ms:List Key,ms.Nodup->(∀k,k∈ms↔k∈ks)->Q (.int ms.length) H1) I ?_
 ·refine Call_ (XC I hg2 hm2 waz (xN (thn hA fun us s1 ⟨vs,H1,I1,r1,q1⟩=>?_) hs rfl))
  obtain⟨i,ks,e,hq1,hn,q⟩:=q1
  subst e
  obtain⟨u,rfl,ru⟩:=Zx r1
  cases ru
  obtain⟨its,rv,p1,hz⟩:=I1.list hq1
  obtain⟨hl,hat⟩:=vaL rv
  have hsb:scanBound=4096:=rfl
  refine XX (A:=X.A) (ks:=ks) (I1.ok.hd hc) p1.isList (by rw[uI];exact hl) (fun j v hv=>hat j v (by simpa using hv)) (by rw[uI];lia) fun h' tk hS hlt kp=>?_
  refine Calls.spliced_nil ?_
  have I2:Inv X pins σ H1 {s1 with heap:=h',toks:=tk}:=I1.kept (t':=tk) fun b o e=>kp b o (uM e) e
  obtain⟨es,ep,t,hS1,hel,hnd,hmem,hf,_⟩:=hS
  have hle:=wn hnd (fun x hx=>(hmem x).mp hx)
  rw[uA,uU]at hle
  refine call_len_set (s:={s1 with heap:=h',toks:=tk}) hS1 ⟨rfl,rfl,rfl⟩ rfl hf (by lia) ?_
  have qq:=q (es.toList.map kq) hnd hmem
  rw[uA,uU]at qq
  exact⟨.int es.size,H1,I2.tok _,⟨_,rfl⟩,qq⟩
 ·refine lE rel h fun d M1 v H1 f1 rel1 r1 h1=>?_
  obtain⟨ks,g1,hn,q⟩:=h1
  obtain⟨i,xs,rfl,hz,hr⟩:=Zm rel1.hp r1 g1
  rw[kT hr]at hz
  exact⟨i,ks,rfl,hz,hn,fun ms m1 m2=>pp _ M1 _ H1 f1 rel1.hp (by unfold RepD;rfl) (q ms m1 m2)⟩
noncomputable def sLt(a b:Str):Bool:=ltD (.str a) (.str b)
@[irreducible] def kA(te:TDE):TDE:=fun σ M Q=>te σ M fun d M1=>∃ns:List Str,Zd d M1=some (ns.map D.str)/\ns.length<=1000/\∀ms:List Str,ms.Nodup->(∀x,x∈ms↔x∈ns)->ms.Pairwise (fun a b=>sLt b a=false)->newL (ms.map D.str) M1 Q
theorem YaH{σ:SD}{M:HpD}{Q:KD}(h:te σ M fun d M1=>∃ns:List Str,Zd d M1=some (ns.map D.str)/\ns.length<=1000/\∀ms:List Str,ms.Nodup->(∀x,x∈ms↔x∈ns)->ms.Pairwise (fun a b=>sLt b a=false)->newL (ms.map D.str) M1 Q):kA te σ M Q:=by unfold kA;exact h
theorem XaB:∀{ks:List Key},(∀k∈ks,Zaf k=true)->∃ms:List Str,ks=ms.map Sum.inr
 | [],_=>⟨[],rfl⟩
 | .inl i::ks,h=>by have:=h _ uc;cases this
 | .inr x::ks,h=>by
  obtain⟨ms,e⟩:=XaB (ks:=ks) fun k hk=>h k (uW _ hk)
  exact⟨x::ms,by rw[e];rfl⟩
theorem var:∀{ms:List Str} {vs:List Value},vs.length=ms.length->(∀(i:Nat) (v:Value),vs[i]?=some v->∃k,(ms.map (Sum.inr:Str->Key))[i]?=some k/\Xv k v=true)->Vals (ms.map V.str) vs
 | [],[],_,_=>.nil
 | [],_::_,h,_=>nomatch h
 | _::_,[],h,_=>nomatch h
 | m::ms,v::vs,h,q=>by
  obtain⟨k,e,hk⟩:=q 0 v rfl
  simp at e
  subst e
  rcases jh hk with ⟨i,t,e,_⟩ | ⟨x,t,e,rfl⟩
  ·cases e
  ·cases e
   exact .cons ⟨t,rfl⟩ (var (by simpa using h) fun i v e=>by have:=q (i+1) v (by simpa using e);simpa using this)
theorem wao{K:KF}{H:Hp}{M:HpD}:∀ks:List Str,RepDs K H M (ks.map D.str) (ks.map V.str)
 | []=>.nil
 | k::ks=>.cons (by unfold RepD;rfl) (wao ks)
theorem j6{k:Nat}(hr:Room k X.A)(L:Zv sLt)(hg:Gl X "sorted")(hm:X.mg "sorted"=none)(hg2:Gl X "set")(hm2:X.mg "set"=none)(ha:ED X a te)
  (hs:starEach [a] X.env=[(false,eval a X.env)]:=by rfl)
  (hs3:starEach [.Call (.Name "set" p2) [a] [] pos2] X.env=[(false,eval (.Call (.Name "set" p2) [a] [] pos2) X.env)]:=by rfl) (hc:X.calm=true:=by rfl) :
  ED X (.Call (.Name "sorted" p) [.Call (.Name "set" p2) [a] [] pos2] [] pos) (kA te):=by
 intro pins s σ H Q I h
 obtain⟨F,σD,M,QD,rel,h,pp⟩:=h
 unfold kA at h
 refine Call_ (XC I hg hm jax (yI ?_ hs3 rfl))
 rw[hs3]
 show wpAny _ _ (spliced ((false,eval (.Call (.Name "set" p2) [a] [] pos2) X.env)::[])) _ _ s
 refine Calls.spliced_cons ?_
 have hpa:PA X [a] (ZaP (Yg X.K te) jaR):=WB ha pa_nil (by rw[hs];rfl)
 have hA:=hpa pos2 pins s σ H (fun vs H1=>∃(i:Addr) (ns:List Str) (M1:HpD),vs=[.ref i]/\SqL X.K H1 i (ns.map V.str)/\ns.length<=1000/\RepH ⟨X.K,F⟩ H1 M1/\PostE ⟨X.K,F⟩ M1 H1 QD Q ∧
  ∀ms:List Str,ms.Nodup->(∀x,x∈ms↔x∈ns)->ms.Pairwise (fun a b=>sLt b a=false)->newL (ms.map D.str) M1 QD) I ?_
 ·refine Call_ (XC I hg2 hm2 waz (xN (thn hA fun us s1 ⟨vs,H1,I1,r1,q1⟩=>?_) hs rfl))
  obtain⟨i,ns,M1,e,hq1,hn,rh1,pp1,q⟩:=q1
  subst e
  obtain⟨u,rfl,ru⟩:=Zx r1
  cases ru
  obtain⟨its,rv,p1,hz⟩:=I1.list hq1
  have rv':Vals ((ns.map (Sum.inr:Str->Key)).map kV) its:=by rw[uh];exact rv
  obtain⟨hl,hat⟩:=vaL rv'
  rw[uA]at hl
  have hsb:scanBound=4096:=rfl
  refine XX (A:=X.A) (ks:=ns.map Sum.inr) (I1.ok.hd hc) p1.isList (by rw[uI,uA];exact hl) (fun j v hv=>hat j v (by simpa using hv)) (by rw[uI];lia) fun h' tk hS hlt kp=>?_
  refine Calls.spliced_nil ?_
  have I2:Inv X pins σ H1 {s1 with heap:=h',toks:=tk}:=I1.kept (t':=tk) fun b o e=>kp b o (uM e) e
  refine vac (s:={s1 with heap:=h',toks:=tk}) (ZaG (A:=X.A.in1) (by simpa using I1.ok.hd hc) hS (fun k hk=>by obtain⟨x,_,rfl⟩:=uS.mp hk;rfl) (by rw[uA];exact hn) fun vs ks h2 d tk2 hvl hvk hnd hmem hge kp2=>?_)
  obtain⟨ms,rfl⟩:=XaB (ks:=ks) fun k hk=>by obtain⟨x,_,rfl⟩:=uS.mp ((hmem k).mp hk);rfl
  have hnd':ms.Nodup:=by
   unfold yY at hnd ⊢
   rw[xX]at hnd
   exact hnd.imp fun h e=>h (by rw[e])
  have hmem':∀x,x∈ms↔x∈ns:=fun x=>by
   have:=hmem (.inr x)
   simpa using this
  have hle:ms.length<=1000:=xQ (wn hnd' fun x hx=>(hmem' x).mp hx) hn
  have I3:Inv X pins σ H1 {s1 with heap:=h2,drawn:=d,toks:=tk2}:=(I2.kept (t':=tk2) kp2).drawnW d
  exact Yac (s:={s1 with heap:=h2,drawn:=d,toks:=tk2}) hr I3 hle L (.kS fun d hd=>by obtain⟨x,_,rfl⟩:=uS.mp hd;exact⟨x,rfl⟩) (fun a _ b _=>rfl) rh1 pp1 (wao ms) (var (by rw[hvl,uA]) hvk)
   fun bs hp hpw=>q bs (hp.nodup_iff.mpr hnd') (fun x=>(hp.mem_iff).trans (hmem' x)) hpw
 ·refine lE rel h fun d M1 v H1 f1 rel1 r1 h1=>?_
  obtain⟨ns,g1,hn,q⟩:=h1
  obtain⟨i,xs,rfl,hz,hr⟩:=Zm rel1.hp r1 g1
  have exs:xs=ns.map V.str:=by
   have:RepDs ⟨X.K,F⟩ H1 M1 ((ns.map (Sum.inr:Str->Key)).map wl) xs:=by rw[uh];exact hr
   rw[kT this,uh];rfl
  rw[exs]at hz
  exact⟨i,ns,M1,rfl,hz,hn,rel1.hp,pp.mono f1,q⟩
end
end L2
namespace L2
open PySem PySem.Spec PyProof.Rows
noncomputable def ZaR(o:Obj):Nat:=match o.data with | .dict _ ep=>ep | _=>0
theorem WW:entryFor table "dict_itemiterator.__iter__"=some Builtin.«dict_keyiterator.__iter__»:=
 entryFor_alias (id':="dict_keyiterator.__iter__") (by kernel_rfl) rfl (by decide +kernel) (by kernel_rfl)
noncomputable def Itm(a:Addr)(ob:Obj)(vs:List (Key×V)):It:=
 ⟨fun i H=>i<vs.length/\H a=some (.frz ob (.dK vs)),fun i H x H'=>∃T k v,x=.ref T/\H T=none/\vs[i]?=some (k,v)/\H'=upd H T (.tup [kV k,v]),fun i H=>vs.length<=i/\H a=some (.frz ob (.dK vs))⟩
theorem way{P:Program}{w:World}{H:Hp}{h:Heap}{a:Addr}{ob:Obj}{vs:List (Key×V)}(ok:HOk P w H h)(e:H a=some (.frz ob (.dK vs))):∃ws,KV vs ws/\h.DictAt (We P w) a ws (ZaR ob)/\(a==sysModules)=false:=by
 obtain⟨e1,_,hd,ws,kv,o,es,ep,e2,c,d,r⟩:=(show ObjOk P w H h a (.frz ob (.dK vs)) from ok a _ e)
 rw[e1]at e2
 cases e2
 refine⟨ws,kv,⟨_,es,e1,c,?_,r⟩,hd⟩
 rw[d];unfold ZaR;rw[d]
theorem KV.get_:∀{vs:List (Key×V)} {ws:List (Key×Value)},KV vs ws->∀{i:Nat} {k:Key} {v:V},vs[i]?=some (k,v)->∃u,ws[i]?=some (k,u)/\RelV v u
 | _,_,.nil,i,k,v,e=>by simp at e
 | _,_,.cons (b:=b) r t,0,k,v,e=>by
  simp at e
  subst e
  obtain⟨b1,b2⟩:=b
  obtain⟨e1,e2⟩:=r
  simp at e1
  subst e1
  exact⟨b2,rfl,e2⟩
 | _,_,.cons r t,i+1,k,v,e=>by
  have:=KV.get_ t (i:=i) (k:=k) (v:=v) (by simpa using e)
  simpa using this
theorem WaP{P:Program}{w:World}{K:uD}{elts:List Expr}{tk:Nat}{tpos:Pos}(a it:Addr)(ob:Obj)(vs:List (Key×V)) :
  YZ P w K (.Tuple elts tk tpos) (Itm a ob vs) [it] it (fun i h=>∃ok ov,IsItemIter h it a i vs.length (ZaR ob) ok ov) where
 mem:=by simp
 obj:=fun i h st b hb=>by
  have e:b=it:=by simpa using hb
  subst e
  obtain⟨ok,ov,st⟩:=st
  exact⟨_,st,fun v z=>by cases z⟩
 keep:=fun i h h' st k=>by
  obtain⟨ok,ov,st⟩:=st
  exact⟨ok,ov,k it (by simp) _ st⟩
 item:=by
  intro X hP hw hK hc i pins s σ H E I hf st hg
  subst hP hw hK
  obtain⟨ok,ov,hit⟩:=st
  obtain⟨hi,ha⟩:=hg
  obtain⟨ws,kv,hd,_⟩:=way I.hok ha
  have hl:vs.length=ws.length:=kv.length
  obtain⟨k,v⟩:Key×V:=vs[i]
  obtain⟨⟨k,v⟩,hx⟩:∃p,vs[i]?=some p:=⟨vs[i],uB hi⟩
  obtain⟨u,hu,ru⟩:=kv.get_ hx
  rw[hl]at hit ⊢
  refine wpAny_pyNext_items_item hit hd hu fun key h1 hkey ho hT hsz hk=>?_
  refine⟨_,rfl,?_⟩
  refine wpAny_letOwnedTupleGo_items ho fun h2 he2 sb=>?_
  have hlt:it<s.heap.objs.size:=uM hit
  have hT2:h2.get? s.heap.objs.size=some {cls:=.type "tuple",data:=.seq #[key,u]}:=(sb.2 _ (xT hlt)).trans hT
  have rk:RelV (kV k) key:=by
   rcases jh (show Xv k key=true from hkey) with ⟨j,t,rfl,rfl⟩ | ⟨y,t,rfl,rfl⟩
   ·exact⟨t,rfl⟩
   ·exact⟨t,rfl⟩
  have I1:Inv X pins σ (upd H s.heap.objs.size (.tup [kV k,v])) {s with heap:=h2,toks:=s.toks}:=
   I.turnedNew (fp:=[it]) (fun b v hb q=>by
    have h1':b≠it:=fun z=>hb (by simp[z])
    exact(sb.2 b h1').trans (hk b v h1' q)) hf (uJ _) (show ObjOk X.prog X.w _ h2 _ (.tup [kV k,v]) from⟨by show 2<=sizeLine;decide,[key,u],.cons rk (.cons ru .nil),_,hT2,rfl,_,rfl⟩)
  refine⟨.ref s.heap.objs.size,_,I1,rfl,⟨_,k,v,rfl,I.hok.fresh (uJ _),hx,rfl⟩,⟨key,u,he2⟩,fun b hb=>?_⟩
  have e:b=it:=by simpa using hb
  subst e
  rw[Yd (uR hlt)]
  exact(hf b (by simp)).1
 done:=by
  intro X hP hw hK hc i pins s σ H E I hf st hg
  subst hP hw hK
  obtain⟨ok,ov,hit⟩:=st
  obtain⟨hi,ha⟩:=hg
  obtain⟨ws,kv,hd,_⟩:=way I.hok ha
  have hl:vs.length=ws.length:=kv.length
  rw[hl]at hit hi
  refine wpAny_pyNext_items_end (I.ok.hd hc) hit hd (xE hi) fun h' eb=>⟨rfl,I.turnedL (t':=s.toks) (fp:=[it]) (fun b v hb q=>eb b v (fun z=>hb (by simp[z])) q) hf⟩
 self:=fun _ _ s _ _ st h=>by
  obtain⟨ok,ov,hit⟩:=st
  have hT:s.TypeIs (.ref it) "dict_itemiterator":=⟨_,hit,rfl⟩
  refine wpAny_pyIter_slot hT PySem.F.slot_dict_itemiterator_iter (wpAny_call_entry PySem.F.slot_dict_itemiterator_iter hT WW ?_ (PySem.F.args_dict_itemiterator_iter_1 _))
  exact wpAny_pure ⟨_,rfl,"dict_itemiterator",_,hT,PySem.F.slot_dict_itemiterator_next.lookup,h⟩
def vbn(to:TE):TI:=fun σ H R=>to σ H fun x H1=>∃a vs,x=.ref a/\((H1 a=some (.dK vs)/\∀ob,R (Itm a ob vs) (upd H1 a (.frz ob (.dK vs))))\/∃ob,H1 a=some (.frz ob (.dK vs))/\R (Itm a ob vs) H1)
section
variable {X:Cx} {o:Expr} {to:TE} {apos cpos:Pos} {elts:List Expr} {tk:Nat} {tpos:Pos}
theorem waF{pins:ZPO}{σ:St}{H:Hp}{s:Shared}{a:Addr}{ob:Obj}{vs:List (Key×V)}{R:It->Hp->Prop}(I:Inv X pins σ H s)(e:H a=some (.frz ob (.dK vs)))(q:R (Itm a ob vs) H) :
  wpAny (model X.prog X.w) X.A (call (.builtin "dict.items") [.ref a]) (fun v s1=>wpAny (model X.prog X.w) X.A (pyIter v) (PIE X pins σ (.Tuple elts tk tpos) R) X.xe s1) X.xe s:=by
 obtain⟨ws,kv,hd,hsm⟩:=way I.hok e
 have hl:vs.length=ws.length:=kv.length
 refine call_meetsIn PySem.F.slot_dict_items hd.dictOf.typeIs PySem.F.entry_dict_items (PySem.F.args_dict_items_1 _) (meets_dict_items (We X.prog X.w) a hsm) ⟨⟨ws,hd.dictOf⟩,?_⟩
 refine wpAny_pyIter_items (s:={s with heap:=s.heap.push {cls:=.type "dict_items",data:=.fields #[.ref a]}}) (v:=s.heap.objs.size) ⟨_,uT _ rfl,rfl,rfl⟩ (hd.push _) ?_
 have I1:Inv X pins σ H {s with heap:=(s.heap.push {cls:=.type "dict_items",data:=.fields #[.ref a]}).push {cls:=.type "dict_itemiterator",data:=.fields #[.none,.bool false,.ref a,.int 0 0,.int ws.length 0,.int (ZaR ob) 0,.none,.none]}}:=
  I.kept (t':=s.toks) fun b u z=>uC _ (uC _ z)
 refine⟨_,[_],_,Itm a ob vs,H,rfl,I1,WaP a _ ob vs,⟨.none,.none,?_⟩,fun b hb=>?_,q⟩
 ·rw[hl];exact uT _ rfl
 ·have e:b=(s.heap.push {cls:=.type "dict_items",data:=.fields #[.ref a]}).objs.size:=by simpa using hb
  subst e
  have hle:s.heap.objs.size<=(s.heap.push {cls:=.type "dict_items",data:=.fields #[.ref a]}).objs.size:=by rw[xO];exact xw _
  exact I.fpOk hle (I.hok.fresh hle)
theorem qa5(ho:PE X o to)(hbase:attributeBase o "items" X.env (eval o X.env)=eval o X.env:=by rfl)(hline:(apos.endLine==cpos.line)=true:=by rfl) :
  PI X (.Tuple elts tk tpos) (.Call (.Attribute o "items" apos) [] [] cpos) (vbn to):=by
 intro pins s σ H R I h
 refine wpAny_Call_method0_late hbase hline (thn (ho pins s σ H _ I h) fun v s1 w1_=>w1_.elim fun x z_=>z_.elim fun H1 z_=>z_.elim fun I1 z_=>z_.elim fun r1 q1=>?_)
 obtain⟨a,vs,rfl,q1⟩:=q1
 obtain rfl:v=Value.ref a:=r1
 have hD:IsD H1 a:=q1.elim (fun z=>.inl ⟨vs,.inl z.1⟩) fun⟨ob,z,_⟩=>.inl ⟨vs,.inr ⟨ob,z⟩⟩
 obtain⟨t1,t2,_⟩:=kaw I1 hD
 refine⟨"dict","dict.items",yj,PySem.F.slot_dict_items,PySem.F.type_dict_items,t1,t2,Calls.callWith_builtin rfl (PySem.evalArgs_none ?_)⟩
 rcases q1 with ⟨e,q⟩ | ⟨ob,e,q⟩
 ·obtain⟨z,hsm,ws,kv,dd⟩:=vau I1.hok e
  obtain⟨ob,es,ep,ho',r⟩:=id dd
  have I2:Inv X pins σ (upd H1 a (.frz ob (.dK vs))) {s1 with heap:=s1.heap,toks:=s1.toks}:=XL I1 (by rw[e];exact True.intro) (Heap.SameBut.refl a s1.heap) ⟨ob,ho'⟩ (show ObjOk X.prog X.w _ s1.heap a (.frz ob (.dK vs)) from⟨ho',z,hsm,ws,kv,dd⟩)
  exact waF I2 Wg (q ob)
 ·exact waF I1 e q
end
theorem Wai{M:HpD}{H:Hp}{a:Addr}{o:HO}{d:OD}(hm:M a=some d):Fz M H (js M a) (upd H a o):=fun b u e m=>by
 have q:b≠a:=fun z=>by rw[z,hm]at m;cases m
 exact⟨by rw[Yd q];exact e,by rw[Ym q];exact m⟩
theorem RepH.wdel{K:KF}{M:HpD}{H:Hp}{a:Addr}{o:HO}{d:OD}(h:RepH K H M)(hm:M a=some d):RepH K (upd H a o) (js M a):=⟨fun b u e=>by
 have q:b≠a:=fun z=>by rw[z,wC]at e;cases e
 rw[Ym q]at e
 obtain⟨o',e',r⟩:=h.at_ b u e
 exact⟨o',by rw[Yd q];exact e',r.mono (Wai hm)⟩,fun b hb=>by
 obtain⟨⟨o',e'⟩,m'⟩:=h.fb b hb
 have q:b≠a:=fun z=>by rw[z,hm]at m';cases m'
 exact⟨⟨o',by rw[Yd q];exact e'⟩,by rw[Ym q];exact m'⟩⟩
theorem Ya3{α β:Type}:∀l:List (α×β),(l.map (·.1)).zip (l.map (·.2))=l
 | []=>rfl
 | p::l=>by rw[uH,uH,yK,Ya3 l]
@[irreducible] def YV(te:TDE):TDE:=fun σ M Q=>te σ M fun d M1=>∃a kvs,d=.ref a/\M1 a=some (.dct kvs)/\Q (.fdc (kvs.map (·.1)) (kvs.map (·.2))) (js M1 a)
theorem Wbj{te:TDE}{σ:SD}{M:HpD}{Q:KD}(h:te σ M fun d M1=>∃a kvs,d=.ref a/\M1 a=some (.dct kvs)/\Q (.fdc (kvs.map (·.1)) (kvs.map (·.2))) (js M1 a)):YV te σ M Q:=by unfold YV;exact h
theorem ZaN{X:Cx}{e:Expr}{te:TDE}(he:ED X e te):ED X e (YV te):=by
 intro pins s σ H Q I h
 obtain⟨F,σD,M,QD,rel,h,p⟩:=h
 unfold YV at h
 refine thn (he pins s σ H (fun v H'=>∃a vs,v=.ref a/\H' a=some (.dK vs)/\∀ob,Q (.ref a) (upd H' a (.frz ob (.dK vs)))) I ?_) fun u s1 hz=>?_
 ·refine lE rel h fun d M1 v H1 f1 rel1 r1 h1=>?_
  obtain⟨a,kvs,rfl,hM,q⟩:=h1
  unfold RepD at r1
  subst r1
  obtain⟨o',e',vs,rfl,hk,hv⟩:=rel1.hp.at_ a _ hM
  refine⟨a,vs,rfl,e',fun ob=>p _ (js M1 a) _ _ (f1.trans (Wai hM)) (rel1.hp.wdel hM) ?_ q⟩
  unfold RepD
  refine⟨a,vs.map (·.2),rfl,⟨⟨ob,by rw[←hk,Ya3];exact Wg⟩,⟨wC,rel1.hp.nfM hM⟩,?_⟩,hv.mono (Wai hM)⟩
  have:=congrArg xV hk
  rw[uA,uA]at this
  rw[uA,uA];exact this.symm
 ·obtain⟨v,H1,I1,r1,a,vs,rfl,e1,q⟩:=hz
  obtain rfl:u=Value.ref a:=r1
  obtain⟨z,hsm,ws,kv,dd⟩:=vau I1.hok e1
  obtain⟨ob,es,ep,ho',r⟩:=id dd
  have I2:Inv X pins σ (upd H1 a (.frz ob (.dK vs))) {s1 with heap:=s1.heap,toks:=s1.toks}:=XL I1 (by rw[e1];exact True.intro) (Heap.SameBut.refl a s1.heap) ⟨ob,ho'⟩ (show ObjOk X.prog X.w _ s1.heap a (.frz ob (.dK vs)) from⟨ho',z,hsm,ws,kv,dd⟩)
  exact⟨.ref a,_,I2,rfl,q ob⟩
noncomputable def dcD:D->HpD->Option (List (Key×D))
 | .ref p,M=>match M p with | some (.dct kvs)=>some kvs | _=>none
 | .fdc ks ds,_=>some (ks.zip ds)
 | _,_=>none
theorem qH{p:Addr}{M:HpD}{kvs:List (Key×D)}(h:M p=some (.dct kvs)):dcD (.ref p) M=some kvs:=by simp only[dcD,h]
theorem Zaa{K:KF}{H:Hp}{M:HpD}:∀{ks:List Key} {ds:List D} {xs:List V},ks.length=xs.length->RepDs K H M ds xs->RepKV K H M (ks.zip ds) (ks.zip xs)
 | [],ds,xs,_,_=>by rw[List.zip_nil_left,List.zip_nil_left];exact⟨rfl,.nil⟩
 | k::ks,[],xs,l,r=>by unfold RepDs at r;subst r;cases l
 | k::ks,d::ds,xs,l,r=>by
  unfold RepDs at r
  obtain⟨x,rr,rfl,r1,r2⟩:=r
  obtain⟨a,b⟩:=Zaa (ks:=ks) (by simpa using l) r2
  rw[yK,yK]
  exact⟨by rw[uH,uH,a],.cons r1 b⟩
theorem qT{K:KF}{H:Hp}{M:HpD}{d:D}{v:V}{kvs:List (Key×D)}(rh:RepH K H M)(r:RepD K H M d v)(e:dcD d M=some kvs):∃a vs,v=.ref a/\Rd H a (.dK vs)/\RepKV K H M kvs vs:=by
 cases d with
 | ref p=>
  have e':Zr (.ref p) M=some kvs:=e
  obtain⟨a,vs,_,_,ev,hH,rk⟩:=W9 rh r e'
  exact⟨a,vs,ev,.inl hH,rk⟩
 | fdc ks ds=>
  cases e
  unfold RepD at r
  obtain⟨a,xs,rfl,⟨⟨ob,h1⟩,_,l⟩,h2⟩:=r
  exact⟨a,_,rfl,.inr ⟨ob,h1⟩,Zaa l h2⟩
 | _=>cases e
@[irreducible] def wJ(td ty tx:TDE):TDE:=fun σ M Q=>td σ M fun x M1=>(∃kvs,dcD x M1=some kvs)/\ty σ M1 fun y M2=>tx σ M2 fun z M3=>∃kvs k,dcD x M3=some kvs/\y=wl k/\Q ((Wr kvs k).getD z) M3
theorem ZaY{td ty tx:TDE}{σ:SD}{M:HpD}{Q:KD}(h:td σ M fun x M1=>(∃kvs,dcD x M1=some kvs)/\ty σ M1 fun y M2=>tx σ M2 fun z M3=>∃kvs k,dcD x M3=some kvs/\y=wl k/\Q ((Wr kvs k).getD z) M3):wJ td ty tx σ M Q:=by unfold wJ;exact h
section
variable {X:Cx} {o e f:Expr} {td ty tx:TDE} {apos cpos:Pos} {k:Nat}
theorem vap(hr:Room k X.A)(ho:ED X o td)(he:ED X e ty)(hf:ED X f tx)(hbase:attributeBase o "get" X.env (eval o X.env)=eval o X.env:=by rfl)
  (hfew:((backTo cpos (starEach [e,f] X.env)).all (fun x=>!x.1)&&(backToKw cpos (keywordEach [] X.env)).all (fun x=>x.1.isSome)
   && decide (([e,f]:List Expr).length+([]:List Keyword).length+(if ([]:List Keyword).isEmpty then 0 else 1)<30))=true:=by rfl)
  (hline:(apos.endLine==cpos.line)=true:=by rfl) (htr:backTo cpos (starEach [e,f] X.env)=[(false,eval e X.env),(false,eval f X.env)]:=by rfl):ED X (.Call (.Attribute o "get" apos) [e,f] [] cpos) (wJ td ty tx):=by
 refine(Ybc (by have:=hr.un;lia) ho he hf ⟨hbase,hfew,hline,htr⟩).wk fun σ H Q h=>?_
 obtain⟨F,σD,M,QD,rel,h,p⟩:=h
 unfold wJ at h
 refine lE rel h fun x M1 vx H1 f1 rel1 r1 h1=>?_
 obtain⟨⟨kvs0,e0⟩,h1⟩:=h1
 obtain⟨a,vs0,rfl,hH0,_⟩:=qT rel1.hp r1 e0
 refine⟨a,rfl,.inl ⟨vs0,hH0⟩,?_⟩
 refine lE rel1 h1 fun y M2 vy H2 f2 rel2 r2 h2=>?_
 refine lE rel2 h2 fun z M3 vz H3 f3 rel3 r3 h3=>?_
 obtain⟨kvs,k,e3,rfl,q⟩:=h3
 obtain⟨a3,vs,ea3,hH,kv⟩:=qT rel3.hp (r1.mono (f2.trans f3)) e3
 cases ea3
 have hk:=YF r2
 subst hk
 refine⟨Yo vs k,.inl ⟨vs,k,hH,rfl,rfl⟩,?_⟩
 refine p _ M3 _ H3 ((f1.trans f2).trans f3) rel3.hp ?_ q
 rcases kv.val (k:=k) with ⟨e1,e2⟩ | ⟨d,v,e1,e2,rv⟩
 ·rw[e1,e2];exact r3
 ·rw[e1,e2];exact rv
end
noncomputable def YB(ks:List Key)(ds:List D):List D:=(ks.zip ds).map fun kv=>.tup [wl kv.1,kv.2]
@[irreducible] def jF(to:TDE):TGI:=fun σ M R=>to σ M fun x M1=>∃ks ds,x=.fdc ks ds/\R (YB ks ds) (fun _=>True) M1
theorem XaW{to:TDE}{σ:SD}{M:HpD}{R:List D->(HpD->Prop)->HpD->Prop}(h:to σ M fun x M1=>∃ks ds,x=.fdc ks ds/\R (YB ks ds) (fun _=>True) M1):jF to σ M R:=by unfold jF;exact h
theorem RepKV.get{K:KF}{H:Hp}{M:HpD}:∀{kvs:List (Key×D)} {vs:List (Key×V)},RepKV K H M kvs vs->∀{i:Nat} {k:Key} {d:D},kvs[i]?=some (k,d)->∃v,vs[i]?=some (k,v)/\RepD K H M d v
 | [],vs,h,i,k,d,e=>by simp at e
 | p::kvs,vs,h,0,k,d,e=>by
  obtain⟨q,r,rfl,e1,r1,_⟩:=h.cons_inv
  simp at e
  subst e
  obtain⟨q1,q2⟩:=q
  simp at e1
  subst e1
  exact⟨q2,rfl,r1⟩
 | p::kvs,vs,h,i+1,k,d,e=>by
  obtain⟨q,r,rfl,_,_,h2⟩:=h.cons_inv
  have:=RepKV.get h2 (i:=i) (k:=k) (d:=d) (by simpa using e)
  simpa using this
theorem kbc{K:KF}{H:Hp}{M:HpD}(k:Key):RepD K H M (wl k) (kV k):=by cases k<;>(unfold wl RepD;rfl)
theorem vax{X:Cx}{o:Expr}{to:TDE}{apos cpos:Pos}{elts:List Expr}{tk:Nat}{tpos:Pos}(ho:ED X o to)(hbase:attributeBase o "items" X.env (eval o X.env)=eval o X.env:=by rfl)(hline:(apos.endLine==cpos.line)=true:=by rfl) :
  IDG X (.Tuple elts tk tpos) (.Call (.Attribute o "items" apos) [] [] cpos) (jF to):=by
 refine(qa5 ho hbase hline).wk fun σ H R w1_=>w1_.elim fun F z_=>z_.elim fun σD z_=>z_.elim fun M z_=>z_.elim fun RD z_=>z_.elim fun rel z_=>z_.elim fun h p=>?_
 unfold jF at h
 refine lE rel h fun d M1 v H1 f1 rel1 r1 h1=>?_
 obtain⟨ks,ds,rfl,q⟩:=h1
 unfold RepD at r1
 obtain⟨a,xs,rfl,hz,hr⟩:=r1
 obtain⟨⟨ob,hH⟩,⟨m,n⟩,l⟩:=id hz
 refine⟨a,ks.zip xs,rfl,.inr ⟨ob,hH,p _ _ M1 H1 _ f1 rel1.hp (fun F' i M' H' hf f rh _=>?_) q⟩⟩
 have hH':=(f _ _ hH m).1
 have rk:=Zaa (ks:=ks) l (((hr.more hf)).mono f)
 have hl:(YB ks ds).length=(ks.zip xs).length:=by unfold YB;rw[uA];exact rk.len
 refine⟨fun d e=>?_,fun e=>⟨by rw[←hl];exact e,hH'⟩⟩
 have hi:i<(ks.zip xs).length:=by rw[←hl];exact(uO.mp e).1
 refine⟨⟨hi,hH'⟩,fun x H3 y=>?_⟩
 obtain⟨T,k,v,rfl,hT,hx,rfl⟩:=y
 unfold YB at e
 rw[uG]at e
 obtain⟨⟨k',d'⟩,e1,rfl⟩:=uV.mp e
 obtain⟨v',hv',rv⟩:=rk.get e1
 rw[hx]at hv'
 cases hv'
 refine⟨Wm hT,rh.new hT,?_⟩
 unfold RepD
 exact⟨T,_,rfl,.inl ⟨.inl Wg,rh.free hT,rh.nf hT⟩,(RepDs.cons (kbc k) (.cons rv .nil)).mono (Wm hT)⟩
def EqW(prog:Program)(w:World)(A:Around)(s:Shared)(x y:Value):Prop:=∀(E:ZVP) (Q:Bool->Shared->Prop),Q true s->wpAny (model prog w) A (eqBool x y) Q E s
section
variable {prog:Program} {w:World} {A:Around} {E:ZVP} {s:Shared}
theorem Za8{l b:Addr}{items items2:Array Value}{Q:ZVP}(hl:s.heap.IsTuple l items)(hb:s.heap.IsTuple b items2)(hu:A.units<cLine)(hz:items.size=items2.size)
  (he:∀j (h1:j<items.size) (h2:j<items2.size),EqW prog w A.in1 s items[j] items2[j]) (h:Q (.bool false) s):wpAny (model prog w) A (compareOp .NotEq (.ref l) (.ref b)) Q E s:=by
 obtain⟨⟨cls,dd,data,sl⟩,hl,hc,n,hd⟩:=id hl
 obtain⟨⟨cls2,dd2,data2,sl2⟩,hb,hc2,n2,hd2⟩:=id hb
 simp only at hc hd hc2 hd2
 subst hc hd hc2 hd2
 have T1:s.TypeIs (.ref l) "tuple":=⟨_,hl,rfl⟩
 have T2:s.TypeIs (.ref b) "tuple":=⟨_,hb,rfl⟩
 refine wpAny_richCompare_same_room (op:=.NotEq) T1 T2 PySem.F.slot_tuple_ne (wpAny_call_entry PySem.F.slot_tuple_ne T1 PySem.F.entry_tuple_ne ?_ (PySem.F.args_tuple_ne_2 _ _)) hu
 obtain⟨hp,g,d,tk,os⟩:=s
 have f2:=AutoSeq1.sub_tuple_tuple
 wp_walk using wpAny_loadPart' hl,wpAny_loadPart' hb,wpAny_forIn_list _ (fun rest b s'=>b.1=none/\s'=(⟨hp,g,d,tk,os⟩:Shared)/\∃i,rest=(items.toList.zip items2.toList).drop i) _
 case turn=>
  rintro ⟨y,x⟩ rest b s' ⟨hb',rfl,i,hzz⟩
  have hlt:i<(items.toList.zip items2.toList).length:=by
   rcases Nat.lt_or_ge i (items.toList.zip items2.toList).length with h' | h'
   ·exact h'
   ·rw[List.drop_of_length_le h']at hzz;cases hzz
  have h0:i<min items.size items2.size:=by simpa using hlt
  have h1:i<items.size:=by lia
  have h2:i<items2.size:=by lia
  rw[x9 hlt]at hzz
  injection hzz with hyx hrest
  have hy:y=items[i]:=by have:=congrArg Prod.fst hyx;simpa using this
  have hx:x=items2[i]:=by have:=congrArg Prod.snd hyx;simpa using this
  subst hy hx
  refine wpAny_bind (he i h1 h2 _ _ ?_)
  wp_walk
  exact⟨rfl,rfl,i+1,hrest⟩
 case fin=>
  rintro ⟨b1,b2⟩ s' ⟨hb',rfl,i,_⟩
  simp only at hb'
  subst hb'
  wp_walk
  refine⟨_,rfl,?_,?_⟩
  ·simp[Builtin.Tuple.tupleCompareSizes]
  ·simpa[Builtin.Tuple.tupleCompareSizes,hz] using h
 case h=>exact⟨rfl,rfl,0,rfl⟩
theorem Ya9{v:Value}:EqW prog w A s v v:=fun E Q h=>SeqAt.EqAt.same v prog w E Q h
theorem jbc{l b:Addr}(hne:l≠b)(h:∀(E:ZVP) (Q:ZVP),Q (.bool true) s->wpAny (model prog w) A (richCompare .Eq (.ref l) (.ref b)) Q E s):EqW prog w A s (.ref l) (.ref b):=fun E Q hq=>by
 unfold eqBool
 refine wpAny_holding (wpAny_ite_split (fun hab=>absurd (by have:=eq_of_beq hab;injection this) hne) fun _=>?_)
 exact wpAny_bind (h E _ (wpAny_truthy_bool hq))
end
def qU(M:HpD)(x y:D):Prop:=
 (∃ds es,Ye x M=.lst ds/\Ye y M=.lst es/\okD (.lst ds) (.lst es)=true/\eqD (.lst ds) (.lst es)=true/\Zn (.lst ds)<=50) \/
 (∃k1 k2,dcD x M=some k1/\dcD y M=some k2/\k1.length=k2.length/\∀kv∈k1,∃e,Wr k2 kv.1=some e/\okD kv.2 e=true/\eqD kv.2 e=true/\Zn kv.2<=50)
section
variable {X:Cx} {pins:ZPO} {σ:St} {H:Hp} {s:Shared} {F:Addr->Prop} {M:HpD}
theorem kaM{A:Around}{k2:List (Key×D)}{v2:List (Key×V)}{w2:List (Key×Value)}(I:Inv X pins σ H s)(hu:A.units+60<cLine)(r2:RepKV ⟨X.K,F⟩ H M k2 v2)(q2:KV v2 w2) :
  ∀{k1:List (Key×D)} {v1:List (Key×V)} {w1:List (Key×Value)},RepKV ⟨X.K,F⟩ H M k1 v1->KV v1 w1->(∀kv∈k1,∃e,Wr k2 kv.1=some e/\okD kv.2 e=true/\eqD kv.2 e=true/\Zn kv.2<=50)->PySem.W.KeqHits A s w2 w1 true
 | [],v1,w1,r1,q1,h=>by
  have:v1=[]:=ut.mp r1.len.symm
  subst this
  cases q1
  exact .nil
 | kv::k1,v1,w1,r1,q1,h=>by
  obtain⟨q,r,rfl,e1,rd,r1'⟩:=r1.cons_inv
  cases q1 with
  | @cons _ b _ bs hq1 t1=>
   obtain⟨e,hv,ok,eq,dp⟩:=h kv uc
   have ih:=kaM I hu r2 q2 r1' t1 fun kv' m=>h kv' (uW _ m)
   obtain⟨bk,bv⟩:=b
   obtain⟨hk,rv⟩:=hq1
   simp only at hk rv
   rcases r2.val (k:=kv.1) with ⟨z1,z2⟩ | ⟨d',v',z1,z2,rd'⟩
   ·rw[hv]at z1;cases z1
   ·rw[hv]at z1;cases z1
    obtain⟨u,hu2,ru⟩:=RelO.some_of (v:=v') (o:=valueAt w2 kv.1) (by rw[←z2];exact q2.val kv.1)
    have:=PySem.W.KeqHits.hit (k:=bk) (v:=bv) (y:=u) (by rw[←hk,e1];exact hu2) (Yav I kv.2 e A ok (by lia) rd rd' rv ru) ih
    rw[eq]at this
    exact this
theorem va3{A:Around}{x y:D}{vx vy:V}{ux uy:Value}(I:Inv X pins σ H s)(hu:A.units+70<cLine)(rh:RepH ⟨X.K,F⟩ H M)(h:qU M x y)(r1:RepD ⟨X.K,F⟩ H M x vx)(r2:RepD ⟨X.K,F⟩ H M y vy)(q1:RelV vx ux)(q2:RelV vy uy):EqW X.prog X.w A s ux uy:=by
 rcases h with ⟨ds,es,h1,h2,ok,eq,dp⟩ | ⟨k1,k2,h1,h2,hl,hh⟩
 ·obtain⟨M1,f1,rh1,r1',r2'⟩:=jY rh r1 r2
  rw[h1]at r1'
  rw[h2]at r2'
  intro E Q hq
  have:=Yav I (.lst ds) (.lst es) A ok (by lia) r1' r2' q1 q2
  rw[eq]at this
  exact this X.prog X.w E Q hq
 ·obtain⟨a,va,rfl,ha,ra⟩:=qT rh r1 h1
  obtain⟨b,vb,rfl,hb,rb⟩:=qT rh r2 h2
  cases q1
  cases q2
  by_cases hab:a=b
  ·subst hab;exact Ya9
  ·obtain⟨_,hda,wa,ka,da⟩:=vD I.hok ha
   obtain⟨_,hdb,wb,kb,db⟩:=vD I.hok hb
   have l1:=ra.len
   have l2:=rb.len
   have l3:va.length=wa.length:=ka.length
   have l4:vb.length=wb.length:=kb.length
   refine jbc hab fun E Q hq=>?_
   refine PySem.W.keq_eq (r:=true) hda hdb da db (by lia) (fun _=>kaM I (A:=A.in1) (by show A.units+1+60<cLine;lia) rb kb ra ka hh) ?_
   rw[show(wa.length==wb.length)=true by rw[beq_iff_eq];lia]
   exact hq
end
@[irreducible] def XM:RD2:=fun x y M Q=>∃xs ys,x=.tup xs/\y=.tup ys/\xs.length=ys.length/\(∀(i:Nat) a b,xs[i]?=some a->ys[i]?=some b->qU M a b)/\Q (.bl false) M
theorem waP{xs ys:List D}{M:HpD}{Q:KD}(hl:xs.length=ys.length)(h:∀(i:Nat) a b,xs[i]?=some a->ys[i]?=some b->qU M a b)(q:Q (.bl false) M):XM (.tup xs) (.tup ys) M Q:=by unfold XM;exact⟨xs,ys,rfl,rfl,hl,h,q⟩
theorem WaU{X:Cx}{k:Nat}(hr:Room k X.A):OpR X (compareOp .NotEq) (Yk X.K XM):=by
 intro pins s σ H x y u v Q I rx ry h
 obtain⟨F,d,e,M,QD,r1,r2,rh,hq,p⟩:=h
 unfold XM at hq
 obtain⟨ds,es,rfl,rfl,hl,hh,q⟩:=hq
 have hun:=hr.un
 unfold RepD at r1 r2
 obtain⟨pa,xs,rfl,h1,h2⟩:=r1
 obtain⟨pb,ys,rfl,h3,h4⟩:=r2
 cases rx
 cases ry
 obtain⟨i1,v1,t1,_⟩:=I.tuple h1.sq
 obtain⟨i2,v2,t2,_⟩:=I.tuple h3.sq
 have l1:i1.length=ds.length:=by rw[←v1.length,h2.length]
 have l2:i2.length=es.length:=by rw[←v2.length,h4.length]
 refine Za8 (show s.heap.IsTuple pa i1.toArray from t1) (show s.heap.IsTuple pb i2.toArray from t2) (by lia) (by rw[uI,uI];lia) (fun j z1 z2=>?_) ⟨.bl false,H,I,rfl,p _ M _ H .refl rh (by unfold RepD;rfl) q⟩
 rw[uI]at z1 z2
 obtain⟨xv,ex,rx⟩:=h2.get (i:=j) (uB (by lia))
 obtain⟨yv,ey,ry⟩:=h4.get (i:=j) (uB (by lia))
 obtain⟨ux,eux,qx⟩:=v1.get ex
 obtain⟨uy,euy,qy⟩:=v2.get ey
 have e1:i1.toArray[j]'(by simpa using z1)=ux:=by
  rw[uB z1]at eux
  simpa using Option.some.inj eux
 have e2:i2.toArray[j]'(by simpa using z2)=uy:=by
  rw[uB z2]at euy
  simpa using Option.some.inj euy
 rw[e1,e2]
 exact va3 I (by show X.A.units+1+70<cLine;lia) rh (hh j _ _ (uB (by lia)) (uB (by lia))) rx ry qx qy
section
variable {prog:Program} {w:World} {A:Around} {E:ZVP} {s:Shared} {d:Addr} {es:Array DictEntry} {ep:Nat}
theorem qbb{Q:ZVP}(hh:A.handled=none)(hd:(d==sysModules)=false)(hm:DRaw s.heap d es ep)(hn:es.size<=1000)
  (h:∀(h':Heap) (tk c:Nat),(∀b o,s.heap.get? b=some o->h'.get? b=some o)->h'.get? s.heap.objs.size=some (wab (es.toList.map (·.key)).toArray c)->Q (.ref s.heap.objs.size) {s with heap:=h',toks:=tk}) :
  wpAny (model prog w) A (call (.type "list") [.ref d]) Q E s:=by
 refine callType_codes (Q₁:=fun obj s₁=>obj=.ref s.heap.objs.size/\s₁={s with heap:=s.heap.push {cls:=.type "list",data:=.seq #[]}}) PySem.F.called_list (PySem.F.typeCall_list_1 _) PySem.F.entry_list_init
  (code_list_new _ ⟨rfl,rfl⟩) fun obj s₁ h₁=>?_
 obtain⟨rfl,rfl⟩:=h₁
 have hS:(s.heap.push {cls:=.type "list",data:=.seq #[]}).get? s.heap.objs.size=some {cls:=.type "list",data:=.seq #[]}:=uT _ rfl
 have hlt:d<s.heap.objs.size:=let ⟨o,e,_⟩:=hm;uM e
 have hSz:s.heap.objs.size≠d:=xT hlt
 refine⟨⟨_,hS,rfl⟩,PySem.F.args_list_init_2 _ _,?_⟩
 show wpAny _ _ (do let old ←Builtin.List.listItems (.ref s.heap.objs.size);Builtin.List.listUpdate (.ref s.heap.objs.size) (fun _=>#[]);letGo old.toList.reverse;Builtin.List.listExtendWith (.ref s.heap.objs.size) (.ref d) .none) _ _ _
 refine wpAny_bind ?_
 unfold Builtin.List.listItems
 refine wpAny_bind (wpAny_seqItems hS rfl (wpAny_pure ?_))
 show wpAny _ _ (updateSeq s.heap.objs.size (fun _=>#[]) >>= fun _=>letGo (#[]:Array Value).toList.reverse >>= fun _=>Builtin.List.listExtendWith (.ref s.heap.objs.size) (.ref d) .none) _ _ _
 refine wpAny_bind (wpAny_updateSeq hS rfl ?_)
 have hS₂:=uw (Obj.mapSeq (fun _=>(#[]:Array Value))) hS rfl
 have hsz2:((s.heap.push {cls:=.type "list",data:=.seq #[]}).update s.heap.objs.size (Obj.mapSeq (fun _=>(#[]:Array Value)))).objs.size=s.heap.objs.size+1:=by rw[Heap.size_update,size_push']
 generalize hh2:(s.heap.push {cls:=.type "list",data:=.seq #[]}).update s.heap.objs.size (Obj.mapSeq (fun _=>(#[]:Array Value)))=h2 at *
 have oth:∀b o,b≠s.heap.objs.size->s.heap.get? b=some o->h2.get? b=some o:=fun b o hb' e=>by
  rw[←hh2]
  exact(xG _ _ (Ne.symm hb')).trans (uC _ e)
 refine wpAny_bind (wpAny_letGo ?_)
 unfold Builtin.List.listExtendWith
 have hm2:DRaw h2 d es ep:=let ⟨o,e,r⟩:=hm;⟨o,oth d o (Ne.symm hSz) e,r⟩
 have hTy:({s with heap:=h2}:Shared).TypeIs (.ref d) "dict":=hm2.typeIs
 refine wpAny_bind (wpAny_typeOf hTy ?_)
 have e1:Builtin.List.listSameRef (.ref s.heap.objs.size) (.ref d)=false:=by simp[Builtin.List.listSameRef,hSz]
 have e2:(Value.type "dict"==Value.type "list")=false:=by decide
 have e3:(Value.type "dict"==Value.type "tuple")=false:=by decide
 simp only[e1,e2,e3,Bool.or_false,ue,if_false]
 refine wpAny_bind (jaC (s:={s with heap:=h2}) hd hm2 ?_)
 have kp3:∀b o,h2.get? b=some o->(h2.push {cls:=.type "dict_keyiterator",data:=.fields #[.ref d,.int 0 0,.int es.size 0,.int ep 0]}).get? b=some o:=fun b o e=>uC _ e
 have hit:(h2.push {cls:=.type "dict_keyiterator",data:=.fields #[.ref d,.int 0 0,.int es.size 0,.int ep 0]}).IsKeyIter h2.objs.size d 0 es.size ep:=⟨_,uT _ rfl,rfl,rfl⟩
 have hS3:=kp3 _ _ hS₂
 have hm3:DRaw (h2.push {cls:=.type "dict_keyiterator",data:=.fields #[.ref d,.int 0 0,.int es.size 0,.int ep 0]}) d es ep:=let ⟨o,e,r⟩:=hm2;⟨o,kp3 _ _ e,r⟩
 generalize (h2.push {cls:=.type "dict_keyiterator",data:=.fields #[.ref d,.int 0 0,.int es.size 0,.int ep 0]})=h3 at *
 refine wpAny_bind (wpAny_holding (war (s:={s with heap:=h3}) hm3.typeIs ?_))
 show wpAny _ _ (rule "list.extend.makes-room" >>= fun _=>Builtin.List.listTouch (.ref s.heap.objs.size) >>= fun _=>
  again (.builtin "list.extend.loop" ⟨[.ref s.heap.objs.size,.ref h2.objs.size,.none],[]⟩)) _ _ _
 refine wpAny_bind (wpAny_rule ?_)
 refine wpAny_bind ?_
 show wpAny _ _ (updateSeq s.heap.objs.size (·.push .none) >>= fun _=>updateSeq s.heap.objs.size (·.pop)) _ _ _
 refine wpAny_bind (wpAny_updateSeq hS3 rfl ?_)
 have hS4:=uw (Obj.mapSeq (·.push Value.none)) hS3 rfl
 refine wpAny_updateSeq hS4 rfl ?_
 have hS5:=uw (Obj.mapSeq (·.pop)) hS4 rfl
 have oth5:∀b o,b≠s.heap.objs.size->h3.get? b=some o->((h3.update s.heap.objs.size (Obj.mapSeq (·.push Value.none))).update s.heap.objs.size (Obj.mapSeq (·.pop))).get? b=some o:=
  fun b o hb e=>(xG _ _ (Ne.symm hb)).trans ((xG _ _ (Ne.symm hb)).trans e)
 have hneI:d≠h2.objs.size:=by rw[hsz2];exact uR (xK hlt)
 have hneL:s.heap.objs.size≠h2.objs.size:=by rw[hsz2];exact uR (yU _)
 refine wpAny_pure ⟨plainId_quiet xb _,WaF (jao (es:=es) (ep:=ep) (by simpa using hh) hneI) (L:=s.heap.objs.size) ?_ hn es.size 0 _ #[] _ (by lia) (ua _) ⟨hit.at fun o e=>oth5 _ o (Ne.symm hneL) e,let ⟨o,e,r⟩:=hm3;⟨o,oth5 _ o (Ne.symm hSz) e,r⟩⟩ hS5 rfl (fun i v hv=>by simp at hv) fun h' tk acc k' a1 a2 a3 a4=>?_⟩
 ·simp only[uZ,u6,or_false,not_or]
  exact⟨hneL,hSz⟩
 ·refine⟨rfl,?_⟩
  have heq:acc=(es.toList.map (·.key)).toArray:=by
   apply Array.ext_getElem?
   intro i
   by_cases hi:i<acc.size
   ·obtain⟨h9,e9⟩:=a4 i _ (um hi)
    rw[um hi,e9]
    simp[h9]
   ·rw[uo (by lia),uo (by simp;lia)]
  rw[heq]at a2
  refine h h' tk k' (fun b o e=>?_) a2
  have hb:b<s.heap.objs.size:=uM e
  refine a1 b o (uR hb) (fun z=>?_) (oth5 b o (uR hb) (kp3 b o (oth b o (uR hb) e)))
  rw[uL,hsz2]at z
  rw[z]at hb
  exact absurd hb (Nat.not_lt.mpr (xw _))
end
@[irreducible] def wS:RDn:=fun xs M Q=>∃d kvs,xs=[d]/\dcD d M=some kvs/\kvs.length<=1000/\newL (kvs.map fun kv=>wl kv.1) M Q
theorem Xa5{d:D}{kvs:List (Key×D)}{M:HpD}{Q:KD}(h:dcD d M=some kvs)(hl:kvs.length<=1000)(q:newL (kvs.map fun kv=>wl kv.1) M Q):wS [d] M Q:=by unfold wS;exact⟨d,kvs,rfl,h,hl,q⟩
theorem Wae{P:Program}{w:World}:∀{es:List DictEntry} {ws:List (Key×Value)} {vs:List (Key×V)},Pairs (We P w) es ws->KV vs ws->Vals (vs.map fun kv=>kV kv.1) (es.map (·.key))
 | _,_,_,.nil,.nil=>.nil
 | _,_,_,.cons h1 h2 t,.cons r q=>by
  refine .cons ?_ (Wae t q)
  dsimp only
  rw[r.1]
  rcases jh h1 with ⟨j,t,e,e2⟩ | ⟨y,t,e,e2⟩
  ·rw[e,e2];exact⟨t,rfl⟩
  ·rw[e,e2];exact⟨t,rfl⟩
theorem va5{X:Cx}(hc:X.calm=true:=by rfl):CallR X (.type "list") (wt X.K wS):=by
 intro pins s σ H xs us Q I rx h
 obtain⟨F,ds,M,QD,r,rh,hq,pp⟩:=h
 unfold wS at hq
 obtain⟨d,kvs,rfl,hM,hl,q⟩:=hq
 obtain⟨v,rfl,r1⟩:=jE r
 obtain⟨a,vs,rfl,hH,rk⟩:=qT rh r1 hM
 obtain⟨u,rfl,ru⟩:=Zx rx
 cases ru
 obtain⟨z,hd,ws,kv,o,es,ep,h1,h2,h3,h4,h5,_⟩:=vD I.hok hH
 have hl0:es.size=kvs.length:=by
  have e2:=h5.length
  rw[uU]at e2
  have e3:vs.length=ws.length:=kv.length
  have e4:=rk.len
  lia
 refine qbb (I.ok.hd hc) hd ⟨o,h1,h2,h3⟩ (by lia) fun h' tk c kp hL=>?_
 have rr:RepDs ⟨X.K,F⟩ H M (kvs.map fun kv=>wl kv.1) (vs.map fun kv=>kV kv.1):=by
  have e:(vs.map fun kv=>kV kv.1)=(kvs.map (·.1)).map kV:=by rw[←rk.keys,uh];rfl
  have e2:(kvs.map fun kv=>wl kv.1)=(kvs.map (·.1)).map wl:=by rw[uh];rfl
  rw[e,e2]
  exact ZP _
 have nl:=q.post pp rh rr
 have rv:=Wae h5 kv
 exact⟨.ref s.heap.objs.size,_,I.laid (t':=tk) kp (uJ _) (show ObjOk X.prog X.w _ _ _ (.lst _) from⟨nl.1,_,c,rv,hL⟩),rfl,nl.2 _ (I.hok.fresh (uJ _))⟩
def wbx(td ty tx:TE):TE:=fun σ H Q=>td σ H fun x H1=>∃a,x=.ref a/\IsD H1 a/\ty σ H1 fun y H2=>tx σ H2 fun z H3=>∃kvs k,H3 a=some (.dK kvs)/\y=kV k/\kvs.length<sizeLine ∧
 (∀v,Yo kvs k=some v->Q v H3)/\(Yo kvs k=none->Q z (upd H3 a (.dK (Yl kvs k z))))
section
variable {X:Cx} {o e f:Expr} {apos cpos:Pos}
theorem qbh{td ty tx:TE}(ho:PE X o td)(he:PE X e ty)(hf:PE X f tx)(m:M2 X o "setdefault" apos e f cpos):PE X (.Call (.Attribute o "setdefault" apos) [e,f] [] cpos) (wbx td ty tx):=by
 intro pins s σ H Q I h
 refine wpAny_Call_method m.base m.few m.line yj PySem.F.slot_dict_setdefault PySem.F.type_dict_setdefault (thn (ho pins s σ H _ I h) fun u s1 w1_=>w1_.elim fun x z_=>z_.elim fun H1 z_=>z_.elim fun I1 z_=>z_.elim fun rx z_=>z_.elim fun a z_=>z_.elim fun ex z_=>z_.elim fun d q1=>?_)
 subst ex
 obtain rfl:u=Value.ref a:=rx
 obtain⟨t1,t2,_⟩:=kaw I1 d
 refine⟨t1,t2,?_⟩
 rw[m.trees]
 refine Calls.callWith_builtin rfl (Calls.evalArgs_plain (Calls.spliced_cons (thn (he pins s1 σ H1 _ I1 q1) fun iv s2 w1_=>w1_.elim fun y z_=>z_.elim fun H2 z_=>z_.elim fun I2 z_=>z_.elim fun ry q2=>
  Calls.spliced_cons (thn (hf pins s2 σ H2 _ I2 q2) fun fv s3 w1_=>w1_.elim fun z z_=>z_.elim fun H3 z_=>z_.elim fun I3 z_=>z_.elim fun rz z_=>z_.elim fun kvs z_=>z_.elim fun k z_=>z_.elim fun ea z_=>z_.elim fun ey z_=>z_.elim fun hl z_=>z_.elim fun q3 q4=>Calls.spliced_nil ?_))))
 subst ey
 obtain⟨z0,hd,vs,rel,dd⟩:=vau I3.hok ea
 have hz:vs.length<=sizeLine:=by rw[←rel.length];exact z0
 have hl2:(Yl kvs k z).length<=sizeLine:=by have:=vB kvs k z;lia
 refine call_meetsIn PySem.F.slot_dict_setdefault dd.typeIs PySem.F.entry_dict_setdefault (PySem.F.args_dict_setdefault_3 _ _ _) (kt_meets_setdefault (We X.prog X.w) a (qP ry) hd fv) ⟨vs,dd,hz,fun v hv=>?_,fun hv h' dd' hs=>?_⟩
 ·cases l:Yo kvs k with
  | none=>
   have:valueAt vs k=none:=RelO.none_of (by rw[←l];exact rel.val k)
   rw[hv]at this;cases this
  | some v'=>
   obtain⟨w',hw,rw'⟩:=RelO.some_of (v:=v') (o:=valueAt vs k) (by rw[←l];exact rel.val k)
   rw[hv]at hw;cases hw
   exact⟨v',H3,I3.tok _,rw',q3 v' l⟩
 ·have l:Yo kvs k=none:=by
   cases l:Yo kvs k with
   | none=>rfl
   | some v'=>
    obtain⟨w',hw,_⟩:=RelO.some_of (v:=v') (o:=valueAt vs k) (by rw[←l];exact rel.val k)
    rw[hv]at hw;cases hw
  have hex:∃q,h'.get? a=some q:=let ⟨q,_,_,hq,_⟩:=dd';⟨q,hq⟩
  exact⟨z,_,XL I3 (by rw[ea];exact True.intro) hs hex (Xae hl2 hd (rel.put k rz) dd'),rz,q4 l⟩
variable {td ty tx:TDE}
@[irreducible] def qX(td ty tx:TDE):TDE:=fun σ M Q=>td σ M fun x M1=>∃a,x=.ref a/\(∃kvs,M1 a=some (.dct kvs))/\ty σ M1 fun y M2=>tx σ M2 fun z M3=>∃kvs k,M3 a=some (.dct kvs)/\y=wl k/\kvs.length<sizeLine ∧
 (∀d,Wr kvs k=some d->Q d M3)/\(Wr kvs k=none->Q z (wc M3 a (.dct (ju kvs k z))))
theorem vbl{σ:SD}{M:HpD}{Q:KD}(h:td σ M fun x M1=>∃a,x=.ref a/\(∃kvs,M1 a=some (.dct kvs))/\ty σ M1 fun y M2=>tx σ M2 fun z M3=>∃kvs k,M3 a=some (.dct kvs)/\y=wl k/\kvs.length<sizeLine ∧
 (∀d,Wr kvs k=some d->Q d M3)/\(Wr kvs k=none->Q z (wc M3 a (.dct (ju kvs k z))))):qX td ty tx σ M Q:=by unfold qX;exact h
theorem Zbl(ho:ED X o td)(he:ED X e ty)(hf:ED X f tx)(hbase:attributeBase o "setdefault" X.env (eval o X.env)=eval o X.env:=by rfl)
  (hfew:((backTo cpos (starEach [e,f] X.env)).all (fun x=>!x.1)&&(backToKw cpos (keywordEach [] X.env)).all (fun x=>x.1.isSome)
   && decide (([e,f]:List Expr).length+([]:List Keyword).length+(if ([]:List Keyword).isEmpty then 0 else 1)<30))=true:=by rfl)
  (hline:(apos.endLine==cpos.line)=true:=by rfl) (htr:backTo cpos (starEach [e,f] X.env)=[(false,eval e X.env),(false,eval f X.env)]:=by rfl):ED X (.Call (.Attribute o "setdefault" apos) [e,f] [] cpos) (qX td ty tx):=by
 refine(qbh ho he hf ⟨hbase,hfew,hline,htr⟩).wk fun σ H Q h=>?_
 obtain⟨F,σD,M,QD,rel,h,p⟩:=h
 unfold qX at h
 refine lE rel h fun x M1 vx H1 f1 rel1 r1 h1=>?_
 obtain⟨a,rfl,⟨kvs0,e0⟩,h1⟩:=h1
 obtain⟨o0,hH0,vs0,rfl,_⟩:=rel1.hp.at_ a _ e0
 unfold RepD at r1
 refine⟨a,r1,.inl ⟨vs0,.inl hH0⟩,?_⟩
 refine lE rel1 h1 fun y M2 vy H2 f2 rel2 r2 h2=>?_
 refine lE rel2 h2 fun z M3 vz H3 f3 rel3 r3 h3=>?_
 obtain⟨kvs,k,e3,rfl,hl,q1,q2⟩:=h3
 obtain⟨o3,hH,vs,rfl,hk,hv⟩:=rel3.hp.at_ a _ e3
 have kv:RepKV ⟨X.K,F⟩ H3 M3 kvs vs:=⟨hk,hv⟩
 have ek:=YF r2
 subst ek
 have lv:=kv.len
 refine⟨vs,k,hH,rfl,by lia,fun v hvv=>?_,fun hvn=>?_⟩
 ·rcases kv.val (k:=k) with ⟨z1,z2⟩ | ⟨d,v',z1,z2,rv⟩
  ·rw[hvv]at z2;cases z2
  ·rw[hvv]at z2;cases z2
   exact p _ M3 _ H3 ((f1.trans f2).trans f3) rel3.hp rv (q1 d z1)
 ·rcases kv.val (k:=k) with ⟨z1,z2⟩ | ⟨d,v',z1,z2,rv⟩
  ·have rp:=kv.put (k:=k) r3
   have r4:RepO ⟨X.K,F⟩ H3 M3 (.dct (ju kvs k z)) (.dK (Yl vs k vz)):=⟨_,rfl,rp.keys,rp.vals⟩
   exact p _ _ _ _ (((f1.trans f2).trans f3).trans (wj e3)) (rel3.hp.write e3 r4) (r3.mono (wj e3)) (q2 z1)
  ·rw[hvn]at z2;cases z2
end
noncomputable def frzA(M:HpD)(ls:List Addr):HpD:=fun b=>if b∈ls then none else M b
theorem Y6{M:HpD}{ls:List Addr}{b:Addr}(h:b∈ls):frzA M ls b=none:=by unfold frzA;rw[if_pos h]
theorem vF{M:HpD}{ls:List Addr}{b:Addr}(h:b∉ls):frzA M ls b=M b:=by unfold frzA;rw[if_neg h]
theorem ko{M:HpD}{H:Hp}{ls:List Addr}:Fz M H (frzA M ls) H:=fun a o e m=>⟨e,by
 by_cases z:a∈ls
 ·exact Y6 z
 ·rw[vF z];exact m⟩
theorem RepH.frzA{K:KF}{M:HpD}{H:Hp}{ls:List Addr}(h:RepH K H M):RepH K H (frzA M ls):=⟨fun a u e=>by
 have q:a∉ls:=fun z=>by rw[Y6 z]at e;cases e
 rw[vF q]at e
 obtain⟨o',e',r⟩:=h.at_ a u e
 exact⟨o',e',r.mono ko⟩,fun a ha=>⟨(h.fb a ha).1,by
 by_cases z:a∈ls
 ·exact Y6 z
 ·rw[vF z];exact(h.fb a ha).2⟩⟩
mutual
noncomputable def wq(M:HpD)(ls:List Addr):D->D
 | .ref p=>if p∈ls then Ye (.ref p) M else .ref p
 | .tup ds=>.tup (WC M ls ds)
 | .lst ds=>.lst (WC M ls ds)
 | d=>d
noncomputable def WC(M:HpD)(ls:List Addr):List D->List D
 | []=>[]
 | d::ds=>wq M ls d::WC M ls ds
end
theorem qZ{M:HpD}{ls:List Addr}:∀ds:List D,WC M ls ds=ds.map (wq M ls)
 | []=>by unfold WC;rfl
 | d::ds=>by unfold WC;rw[qZ ds];rfl
mutual
theorem RepD.sub{K:KF}{M:HpD}{H:Hp}{ls:List Addr}(rh:RepH K H M):∀{d:D} {v:V},RepD K H M d v->RepD K H (frzA M ls) (wq M ls d) v
 | .non,_,h=>by unfold wq;exact h.mono ko
 | .bl _,_,h=>by unfold wq;exact h.mono ko
 | .int _,_,h=>by unfold wq;exact h.mono ko
 | .str _,_,h=>by unfold wq;exact h.mono ko
 | .ty _,_,h=>by unfold wq;exact h.mono ko
 | .fdc _ _,_,h=>by unfold wq;exact h.mono ko
 | .ref p,v,h=>by
  unfold wq
  by_cases hp:p∈ls
  ·rw[if_pos hp]
   cases e:M p with
   | none=>rw[show Ye (.ref p) M=.ref p by simp only[Ye,e]];exact h.mono ko
   | some o=>
    cases o with
    | lst ds=>
     rw[show Ye (.ref p) M=.lst ds by simp only[Ye,e]]
     unfold RepD at h
     subst h
     obtain⟨o',e',xs,rfl,r⟩:=rh.at_ p _ e
     unfold RepD
     exact⟨p,xs,rfl,.inl ⟨.inl e',Y6 hp,rh.nfM e⟩,r.mono ko⟩
    | _=>rw[show Ye (.ref p) M=.ref p by simp only[Ye,e]];exact h.mono ko
  ·rw[if_neg hp];exact h.mono ko
 | .tup ds,_,h=>by
  unfold wq
  unfold RepD at h ⊢
  obtain⟨a,xs,e,h1,h2⟩:=h
  exact⟨a,xs,e,h1.mono ko,RepDs.sub rh h2⟩
 | .lst ds,_,h=>by
  unfold wq
  unfold RepD at h ⊢
  obtain⟨a,xs,e,h1,h2⟩:=h
  exact⟨a,xs,e,h1.mono ko,RepDs.sub rh h2⟩
theorem RepDs.sub{K:KF}{M:HpD}{H:Hp}{ls:List Addr}(rh:RepH K H M):∀{ds:List D} {vs:List V},RepDs K H M ds vs->RepDs K H (frzA M ls) (WC M ls ds) vs
 | [],_,h=>by unfold WC;unfold RepDs at h ⊢;exact h
 | d::ds,_,h=>by
  unfold WC
  unfold RepDs at h ⊢
  obtain⟨x,r,e,h1,h2⟩:=h
  exact⟨x,r,e,RepD.sub rh h1,RepDs.sub rh h2⟩
end
@[irreducible] def kH(te:TDE):TDE:=fun σ M Q=>te σ M fun d M1=>∃p ds ls,d=.ref p/\M1 p=some (.lst ds)/\p∉ls/\Q (.ref p) (wc (frzA M1 ls) p (.lst (ds.map (wq M1 ls))))
theorem qax{te:TDE}{σ:SD}{M:HpD}{Q:KD}(h:te σ M fun d M1=>∃p ds ls,d=.ref p/\M1 p=some (.lst ds)/\p∉ls/\Q (.ref p) (wc (frzA M1 ls) p (.lst (ds.map (wq M1 ls))))):kH te σ M Q:=by unfold kH;exact h
theorem vay{X:Cx}{e:Expr}{te:TDE}(he:ED X e te):ED X e (kH te):=by
 refine PE.wk he fun σ H Q h=>?_
 obtain⟨F,σD,M,QD,rel,h,p⟩:=h
 unfold kH at h
 refine lE rel h fun d M1 v H1 f1 rel1 r1 h1=>?_
 obtain⟨a,ds,ls,rfl,hM,hn,q⟩:=h1
 unfold RepD at r1
 subst r1
 obtain⟨o',e',xs,rfl,r⟩:=rel1.hp.at_ a _ hM
 have rh2:RepH ⟨X.K,F⟩ H1 (L2.frzA M1 ls):=rel1.hp.frzA
 have hM2:L2.frzA M1 ls a=some (.lst ds):=by rw[vF hn];exact hM
 have r3:RepO ⟨X.K,F⟩ H1 (L2.frzA M1 ls) (.lst (ds.map (wq M1 ls))) (.lst xs):=⟨xs,rfl,by rw[←qZ];exact RepDs.sub rel1.hp r⟩
 have rh3:=rh2.write hM2 r3
 have eH:upd H1 a (.lst xs)=H1:=by
  funext b
  by_cases z:b=a
  ·subst z;rw[Wg,e']
  ·rw[Yd z]
 rw[eH]at rh3
 refine p _ _ _ H1 (f1.trans ((ko (ls:=ls)).trans ?_)) rh3 (by unfold RepD;rfl) q
 have:=wj (H:=H1) (o:=.lst xs) (d':=.lst (ds.map (wq M1 ls))) hM2
 rw[eH]at this
 exact this
section
variable {X:Cx} {value:Expr} {tv:TDE}
@[irreducible] def wT(te:TDE):TDE:=fun σ M Q=>te σ M fun d M1=>∃p ds,d=.ref p/\M1 p=some (.lst ds)/\Q (.lst ds) (js M1 p)
theorem Zbh{te:TDE}{σ:SD}{M:HpD}{Q:KD}(h:te σ M fun d M1=>∃p ds,d=.ref p/\M1 p=some (.lst ds)/\Q (.lst ds) (js M1 p)):wT te σ M Q:=by unfold wT;exact h
theorem jbk(he:ED X value tv):ED X value (wT tv):=by
 refine PE.wk he fun σ H Q h=>?_
 obtain⟨F,σD,M,QD,rel,h,p⟩:=h
 unfold wT at h
 refine lE rel h fun d M1 v H1 f1 rel1 r1 h1=>?_
 obtain⟨a,ds,rfl,hM,q⟩:=h1
 unfold RepD at r1
 subst r1
 exact p _ _ _ H1 (f1.trans WI) rel1.hp.del (.frz rel1.hp hM) q
end
@[irreducible] def ZI:RDn:=fun xs M Q=>∃d kvs,xs=[d]/\dcD d M=some kvs/\∀q,M q=none->Q (.ref q) (wc M q (.dct kvs))
theorem vab{d:D}{kvs:List (Key×D)}{M:HpD}{Q:KD}(h:dcD d M=some kvs)(q:∀q,M q=none->Q (.ref q) (wc M q (.dct kvs))):ZI [d] M Q:=by unfold ZI;exact⟨d,kvs,rfl,h,q⟩
theorem Waa{X:Cx}:CallR X (.type "dict") (wt X.K ZI):=by
 intro pins s σ H xs us Q I rx h
 obtain⟨F,ds,M,QD,r,rh,hq,pp⟩:=h
 unfold ZI at hq
 obtain⟨d,kvs,rfl,hM,q⟩:=hq
 obtain⟨v,rfl,r1⟩:=jE r
 obtain⟨a,vs,rfl,hH,rk⟩:=qT rh r1 hM
 obtain⟨u,rfl,ru⟩:=Zx rx
 cases ru
 refine Xba I hH fun p s' hp I'=>?_
 have hm:=rh.free hp
 exact⟨.ref p,_,I',rfl,pp _ _ _ _ (XF hp hm) (rh.newM hp (show RepO ⟨X.K,F⟩ H M (.dct kvs) (.dK vs) from⟨vs,rfl,rk.keys,rk.vals⟩)) (by unfold RepD;rfl) (q p hm)⟩
end L2
namespace PySem
theorem Z8:typeLookup (.type "list") "__getattr__"=pure none:=by rw[typeLookup_type,builtinLookup_eq_fast];kernel_rfl
theorem Was:typeLookup (.type "list") "keys"=pure none:=by rw[typeLookup_type,builtinLookup_eq_fast];kernel_rfl
end PySem
namespace PySem
namespace F
theorem plain_dul:plainId "dict.update.loop"=true:=by decide +kernel
theorem entry_dul:entryFor table "dict.update.loop"=some Builtin.«dict.update.loop»:=entryFor_of_tree (by kernel_rfl)
end F
end PySem
namespace L2
open PySem PySem.Spec PyProof.Rows
section
variable {prog:Program} {w:World} {K:Type} [DecidableEq K] {knd:KeyKind prog w K} {A:Around} {R:Result->Shared->Prop}
def PairAt(knd:KeyKind prog w K)(h:Heap)(v:Value)(kv:K×Value):Prop:=∃(T:Addr) (key:Value),v=.ref T/\IsTup h T #[key,kv.2]/\knd.is kv.1 key=true
theorem PairAt.keeps{h h':Heap}{v:Value}{kv:K×Value}(p:PairAt knd h v kv)(k:∀b o,o.cls=.type "tuple"->h.get? b=some o->h'.get? b=some o):PairAt knd h' v kv:=by
 obtain⟨T,key,rfl,⟨o,e,c,n,d⟩,i⟩:=p
 exact⟨T,key,rfl,⟨o,k T o c e,c,n,d⟩,i⟩
theorem jaY{it a D:Addr}{its:Array Value}{rs:List (K×Value)}(W:Walks prog w A.in1 it [it,a] [it] its.size (fun i v=>its[i]?=some v) (fun i h=>h.IsListIter it a i/\h.IsList a its))(hDi:D≠it)(hDa:D≠a)(hl:rs.length=its.size)(hsz:rs.length<=sizeLine) :
  ∀(k i:Nat) (s:Shared),its.size - i=k->i<=its.size->(s.heap.IsListIter it a i/\s.heap.IsList a its)->(∃oi,s.heap.get? it=some oi/\oi.cls=.type "list_iterator") →
  (∀(j:Nat) v kv,its[j]?=some v->rs[j]?=some kv->PairAt knd s.heap v kv)->s.heap.DictOf knd D (merged [] (rs.take i)) →
  (∀h' tk,h'.DictOf knd D (merged [] rs)->(∀b o,b≠it->b≠D->s.heap.get? b=some o->h'.get? b=some o)->R (.ok (.ret .none)) {s with heap:=h',toks:=tk}) →
  codeAny (model prog w) A (.builtin "dict.update.loop" ⟨[.ref D,.ref it,rawInt (i:Int),.none],[]⟩) R s:=by
 intro k
 induction k with
 | zero=>
  intro i s hk hi st hit hp hd hR
  have hin:i=its.size:=by lia
  subst hin
  refine codeAny_builtin F.entry_dul ?_
  rw[Around.under_plainId F.plain_dul _]
  show wpAny _ A.in1 (pyNext (.ref it) >>= _) _ _ s
  refine wpAny_bind (W.done s _ _ st fun h' tk kk=>?_)
  have hd':h'.DictOf knd D (merged [] rs):=by
   obtain⟨o,es,ep,e,r⟩:=hd
   rw[←hl,ug]at r
   exact⟨o,es,ep,kk D o (by simpa using hDi) e,r⟩
  show wpAny _ A.in1 (Builtin.Dict.addKeywords D [] >>= fun _=>ret .none) _ _ _
  refine wpAny_bind ?_
  unfold Builtin.Dict.addKeywords
  refine wpAny_pure ?_
  exact wpAny_pure (hR h' tk hd' fun b o hb _ e=>kk b o (by simpa using hb) e)
 | succ k ih=>
  intro i s hk hi st hit hp hd hR
  have hlt:i<its.size:=by lia
  refine codeAny_builtin F.entry_dul ?_
  rw[Around.under_plainId F.plain_dul _]
  show wpAny _ A.in1 (pyNext (.ref it) >>= _) _ _ s
  refine wpAny_bind (W.item i s _ _ hlt st fun v h' tk hv st' kk=>?_)
  obtain⟨kv,hkv⟩:∃kv,rs[i]?=some kv:=⟨_,uB (by lia)⟩
  obtain⟨oi,ei,ci⟩:=hit
  have tupk:∀b o,o.cls=.type "tuple"->s.heap.get? b=some o->h'.get? b=some o:=fun b o c e=>kk b o (fun z=>by
   have:b=it:=by simpa using z
   rw[this,ei]at e;cases e
   rw[ci]at c
   exact absurd c (by decide +kernel)) e
  have hp':∀(j:Nat) v kv,its[j]?=some v->rs[j]?=some kv->PairAt knd h' v kv:=fun j v kv e1 e2=>(hp j v kv e1 e2).keeps tupk
  obtain⟨T,key,rfl,tup,isk⟩:=hp' i v kv hv hkv
  have hd':h'.DictOf knd D (merged [] (rs.take i)):=by
   obtain⟨o,es,ep,e,r⟩:=hd
   exact⟨o,es,ep,kk D o (by simpa using hDi) e,r⟩
  obtain⟨ot,et,ct,nt,dt⟩:=tup
  have hTT:(⟨h',s.gens,s.drawn,tk,s.os⟩:Shared).TypeIs (.ref T) "tuple":=⟨_,et,ct⟩
  have ei1:(i:Int)+1=((i+1:Nat):Int):=by lia
  dsimp only
  rw[ei1]
  refine wpAny_bind (wpAny_holding (wpAny_bind (wpAny_tryCatch ?_)))
  unfold Builtin.Dict.pairItems
  refine wpAny_bind (wpAny_typeOf hTT ?_)
  rw[if_pos (by decide +kernel)]
  refine wpAny_bind (wpAny_seqItems et dt (wpAny_pure ?_))
  show wpAny _ _ (holding [key,kv.2] (dictSet D key kv.2)) _ _ _
  have lm:(merged [] (rs.take i)).length<=sizeLine:=by
   have:=merged_length_le ([]:List (K×Value)) (rs.take i)
   rw[uX]at this
   simp only[List.length_nil]at this
   lia
  refine wpAny_holding (wpAny_dictSet_pairs (hsz:=lm) isk hd' fun h'' dd' hs=>?_)
  have keep2:∀b o,b≠D->h'.get? b=some o->h''.get? b=some o:=fun b o hb e=>(hs.2 b hb).trans e
  have tupD:∀b o,o.cls=.type "tuple"->h'.get? b=some o->h''.get? b=some o:=fun b o c e=>keep2 b o (fun z=>by
   obtain⟨od,_,_,eD,cD,_⟩:=hd'
   rw[z,eD]at e;cases e
   rw[cD.1]at c
   exact absurd c (by decide +kernel)) e
  obtain⟨oi',ei',ci'⟩:∃oi,h'.get? it=some oi/\oi.cls=.type "list_iterator":=by
   obtain⟨⟨o,e,c,_⟩,_⟩:=st'
   exact⟨o,e,c⟩
  refine wpAny_pure ⟨plainId_quiet F.plain_dul _,ih (i+1) _ (by lia) hlt ?_ ⟨oi',keep2 it oi' (Ne.symm hDi) ei',ci'⟩ (fun j v kv e1 e2=>(hp' j v kv e1 e2).keeps tupD) ?_ fun h3 tk3 d3 k3=>?_⟩
  ·refine W.frame _ _ _ st' fun b hb o e=>keep2 b o (fun z=>?_) e
   rcases uZ.mp hb with y | y
   ·exact hDi (z▸y)
   ·exact hDa (z▸by simpa using y)
  ·rw[merged_take_succ _ _ _ _ hkv]
   exact dd'
  ·exact hR h3 tk3 d3 fun b o hb1 hb2 e=>k3 b o hb1 hb2 (keep2 b o hb2 (kk b o (by simpa using hb1) e))
end
section
variable {X:Cx} {pins:ZPO} {σ:St} {H:Hp} {s:Shared} {a:Addr} {A:Around} {E:ZVP}
theorem Xbd{x y:V}{us:List Value}(r:Vals [x,y] us):∃u1 u2,us=[u1,u2]/\RelV x u1/\RelV y u2:=by
 cases r with
 | cons r1 r=>
  cases r with
  | cons r2 r=>
   cases r
   exact⟨_,_,rfl,r1,r2⟩
end
section
variable {X:Cx}
theorem YaU{K:KF}{H:Hp}{M:HpD}:∀{kvs:List (Key×D)} {vs:List (Key×V)} {acc:List (Key×D)} {av:List (Key×V)},RepKV K H M kvs vs->RepKV K H M acc av->RepKV K H M (kvs.foldl (fun acc kv=>ju acc kv.1 kv.2) acc) (vM av vs):=by
 intro kvs
 induction kvs with
 | nil=>
  intro vs acc av h g
  have:vs=[]:=by
   have:=h.keys
   cases vs with
   | nil=>rfl
   | cons _ _=>cases this
  subst this
  exact g
 | cons kv kvs ih=>
  intro vs acc av h g
  cases vs with
  | nil=>cases h.keys
  | cons v vs=>
   have hk:=h.keys
   have hv:=h.vals
   simp only[uH]at hk hv
   injection hk with hk1 hk2
   unfold RepDs at hv
   obtain⟨x,r,e,h1,h2⟩:=hv
   injection e with e1 e2
   subst e1 e2
   rw[List.foldl_cons]
   show RepKV K H M _ (vM (Yl av v.1 v.2) vs)
   rw[hk1]
   exact ih ⟨hk2,h2⟩ (g.put h1)
theorem War{K:KF}{H:Hp}{M:HpD}:∀{kvs:List (Key×D)} {xs:List V},RepDs K H M (kvs.map fun kv=>.tup [wl kv.1,kv.2]) xs->∃vs:List (Key×V),RepKV K H M kvs vs/\vs.length=xs.length/\∀(j:Nat) x kv,xs[j]?=some x->vs[j]?=some kv->∃T,x=.ref T/\SqT K.K H T [kV kv.1,kv.2]
 | [],xs,h=>by
  unfold RepDs at h
  rw[xl]at h
  subst h
  exact⟨[],⟨rfl,.nil⟩,rfl,fun j x kv e _=>by simp at e⟩
 | kv::kvs,xs,h=>by
  rw[uH]at h
  unfold RepDs at h
  obtain⟨x,r,rfl,h1,h2⟩:=h
  obtain⟨vs,g1,g2,g3⟩:=War h2
  unfold RepD at h1
  obtain⟨T,zs,rfl,fz,rz⟩:=h1
  unfold RepDs at rz
  obtain⟨z1,r1,rfl,k1,rz⟩:=rz
  unfold RepDs at rz
  obtain⟨z2,r2,rfl,k2,rz⟩:=rz
  unfold RepDs at rz
  subst rz
  have e1:=YF k1
  subst e1
  refine⟨(kv.1,z2)::vs,⟨by simp[g1.keys],.cons k2 g1.vals⟩,by simp[g2],fun j x kw e1 e2=>?_⟩
  cases j with
  | zero=>
   simp at e1 e2
   subst e1 e2
   exact⟨T,rfl,fz.sq⟩
  | succ j=>exact g3 j x kw (by simpa using e1) (by simpa using e2)
end
end L2
namespace PySem
section
variable {prog:Program} {w:World} {A:Around} {E:ZVP} {h:Heap} {g:Array GenState} {d:Drawn} {t:Nat} {os:OsState} {a:Addr} {o:Obj}
theorem Z9{its:Array Value}{n:Nat}{sl:Array (Option Value)}{tk:Tok}{Q:Fin->Shared->Prop}(hx:h.get? a=some {cls:=.type "list",data:=.seq its n,slots:=sl})(hA:A.handled=none)(hq:∀h' tk' e,Heap.NewAttrErr h h' e (.ref a) "keys"->E (.ref e) ⟨h',g,d,tk',os⟩) :
  wpAny (model prog w) A (Builtin.«object.__getattribute__» ⟨[.ref a,.str "keys" tk],[]⟩) Q E ⟨h,g,d,t,os⟩:=by
 have hT:(⟨h,g,d,t,os⟩:Shared).TypeIs (.ref a) "list":=⟨_,hx,rfl⟩
 have f4:=Was
 unfold Builtin.«object.__getattribute__»
 repeat (any_goals (first | assumption | wp_step))
 exact wpAny_raiseAttrError hA hq (attrMsg_fits (by decide +kernel) (by decide +kernel))
theorem Zac{its:Array Value}{n:Nat}{sl:Array (Option Value)}{tk:Tok}{R:Result->Shared->Prop}(hx:h.get? a=some {cls:=.type "list",data:=.seq its n,slots:=sl})(hA:A.handled=none)(hq:∀h' tk' e,Heap.NewAttrErr h h' e (.ref a) "keys"->R (.error (.ref e)) ⟨h',g,d,tk',os⟩) :
  codeAny (model prog w) A (.call (.builtin "list.__getattribute__") ⟨[.ref a,.str "keys" tk],[]⟩) R ⟨h,g,d,t,os⟩:=
 codeAny_call_builtin F.slot_list_getattribute.plain F.entry_list_ga (F.slot_list_getattribute.check _ _ _ _ _ _ _ _ (show(⟨h,g,d,t,os⟩:Shared).TypeIs (.ref a) "list" from⟨_,hx,rfl⟩) (F.args_list_getattribute_2 _ _) (Z9 hx hA hq))
theorem Xag{its:Array Value}{n:Nat}{sl:Array (Option Value)}{Q:Option Value->Shared->Prop}(hx:h.get? a=some {cls:=.type "list",data:=.seq its n,slots:=sl})(hA:A.handled=none)(hq:∀h' tk',(∀b ob,h.get? b=some ob->h'.get? b=some ob)->Q none ⟨h',g,d,tk',os⟩) :
  wpAny (model prog w) A (getAttr? (.ref a) "keys") Q E ⟨h,g,d,t,os⟩:=by
 have hT:(⟨h,g,d,t,os⟩:Shared).TypeIs (.ref a) "list":=⟨_,hx,rfl⟩
 have f1:=sub_AttributeError
 have f2:=F.slot_list_getattribute.lookup
 have f3:=F.slot_list_getattribute.bind (.ref a)
 have f5:=Z8
 unfold getAttr? getAttrBy?
 repeat (any_goals (first | assumption | wp_step))
 refine Zac hx hA fun h' tk' e he=>?_
 obtain⟨t',u',hge⟩:=he.there
 have hTe:(⟨h',g,d,tk',os⟩:Shared).TypeIs (.ref e) "AttributeError":=⟨_,hge,rfl⟩
 show wpAny (model prog w) A (getattributeRaised _ _ _ _ _ _ _) _ _ _
 unfold getattributeRaised
 repeat (any_goals (first | assumption | wp_step))
 exact hq _ _ he.keeps
end
end PySem
namespace L2
open PySem PySem.Spec PyProof.Rows
section
variable {X:Cx} {pins:ZPO} {σ:St} {H:Hp} {s:Shared} {a:Addr} {A:Around} {E:ZVP}
theorem vaT{xs:List V}{kvs:List (Key×V)}{Q:ZVP}(hA:A.handled=none)(I:Inv X pins σ H s)(hH:SqL X.K H a xs)(hl:kvs.length=xs.length)(hz:kvs.length<=sizeLine)
  (hp:∀(j:Nat) x kv,xs[j]?=some x->kvs[j]?=some kv->∃T,x=.ref T/\SqT X.K H T [kV kv.1,kv.2])
  (h:∀p s',H p=none->Inv X pins σ (upd H p (.dK (vM [] kvs))) s'->Q (.ref p) s'):wpAny (model X.prog X.w) A (call (.type "dict") [.ref a]) Q E s:=by
 obtain⟨its,rv,⟨⟨cO,dO,tO,sl⟩,n,e,rfl,rfl,rfl⟩,z⟩:=I.list hH
 have hlen:=rv.length
 have Ze:∃rs:List (Key×Value),KV kvs rs/\rs.length=its.length/\∀(j:Nat) v kv,its[j]?=some v->rs[j]?=some kv->PairAt (We X.prog X.w) s.heap v kv:=by
  clear e z hH h
  induction kvs generalizing xs its with
  | nil=>
   have:xs=[]:=List.eq_nil_of_length_eq_zero (by simpa using hl.symm)
   subst this
   refine⟨[],.nil,by rw[←hlen];rfl,fun j v kv _ e2=>by simp at e2⟩
  | cons kv kvs ih=>
   cases xs with
   | nil=>simp at hl
   | cons x xs=>
    cases rv with
    | cons rx rr=>
     rename_i u us
     obtain⟨rs,r1,r2,r3⟩:=ih (xs:=xs) (its:=us) (by simpa using hl) (by simp at hz;lia) (fun j x kv e1 e2=>hp (j+1) x kv (by simpa using e1) (by simpa using e2)) rr (by simpa using hlen)
     obtain⟨T,rfl,sq⟩:=hp 0 x kv rfl rfl
     obtain⟨ts,tv,tt,_⟩:=I.tuple sq
     obtain⟨key,val,rfl,t1,t2⟩:=Xbd tv
     cases (show u=Value.ref T from rx)
     refine⟨(kv.1,val)::rs,.cons ⟨rfl,t2⟩ r1,by simp[r2],fun j v kw e1 e2=>?_⟩
     cases j with
     | zero=>
      simp at e1 e2
      subst e1 e2
      exact⟨T,key,rfl,by simpa using tt,qP t1⟩
     | succ j=>exact r3 j v kw (by simpa using e1) (by simpa using e2)
 obtain⟨rs,rel,rl,pr⟩:=Ze
 refine callType_codes (Q₁:=fun obj s₁=>obj=.ref s.heap.objs.size/\s₁={s with heap:=s.heap.push {cls:=.type "dict",data:=.dict #[]}}) F.kt_called_dict (F.kt_typeCall_dict_1 _) F.entry_dict_init (kt_code_dict_new _ ⟨rfl,rfl⟩) ?_
 rintro obj s₁ ⟨rfl,rfl⟩
 have hnew:(s.heap.push {cls:=.type "dict",data:=.dict #[]}).DictOf (We X.prog X.w) s.heap.objs.size []:=Heap.DictOf.new s.heap
 have e1:(s.heap.push {cls:=.type "dict",data:=.dict #[]}).get? a=some {cls:=.type "list",data:=.seq its.toArray n,slots:=sl}:=uC _ e
 refine⟨hnew.typeIs,F.args_dict_init_2 _ _,?_⟩
 unfold Builtin.«dict.__init__»
 refine wpAny_bind ?_
 unfold Builtin.Dict.selfAndRest
 refine wpAny_bind (wpAny_notOrdered_dict hnew.typeIs ?_)
 show wpAny _ _ (pure (s.heap.objs.size,[Value.ref a])) _ _ _
 refine wpAny_pure ?_
 show wpAny _ _ (Builtin.Dict.updateFrom "dict.__init__" s.heap.objs.size (.ref a) [] .none) _ _ _
 unfold Builtin.Dict.updateFrom
 refine wpAny_bind (wpAny_typeOf (T:="list") ⟨_,e1,rfl⟩ ?_)
 rw[if_pos (by decide +kernel)]
 refine wpAny_bind (Xag (A:=A.in1.in1) e1 hA fun h2 tk2 k2=>?_)
 rw[if_pos (show(none:Option Value).isNone=true from rfl)]
 refine wpAny_bind (wpAny_rule ?_)
 have e2:h2.get? a=some {cls:=.type "list",data:=.seq its.toArray n,slots:=sl}:=k2 a _ e1
 have hlist:h2.IsList a its.toArray:=⟨_,e2,rfl,n,rfl⟩
 have ha:a<s.heap.objs.size:=uM e
 have hD2:h2.DictOf (We X.prog X.w) s.heap.objs.size []:=by
  obtain⟨o,es,ep,eo,r⟩:=hnew
  exact⟨o,es,ep,k2 _ _ eo,r⟩
 have dlt:s.heap.objs.size<h2.objs.size:=by
  obtain⟨o,es,ep,eo,r⟩:=hD2
  exact uM eo
 refine wpAny_bind (wpAny_pyIter_list hlist ?_)
 refine wpAny_pure ⟨plainId_quiet F.plain_dul _,?_⟩
 have Wl:=Walks.list (prog:=X.prog) (w:=X.w) (A:=A.in1.in1) hA h2.objs.size a (uR (Nat.lt_trans ha dlt)) its.toArray
 refine jaY (knd:=We X.prog X.w) (A:=A.in1) (rs:=rs) Wl (uR dlt) (xT ha) (by rw[rl,uI]) (by rw[←rel.length];exact hz) its.toArray.size 0 _ (by simp) (ua _) ⟨⟨_,uT _ rfl,rfl,rfl⟩,hlist.at fun o e=>uC _ e⟩ ⟨_,uT _ rfl,rfl⟩ (fun j v kv e1 e2=>?_) ?_ fun h3 tk3 d3 k3=>?_
 ·have e1':its[j]?=some v:=by simpa using e1
  refine(pr j v kv e1' e2).keeps fun b o _ eb=>uC _ (k2 _ _ (uC _ eb))
 ·obtain⟨o,es,ep,eo,r⟩:=hD2
  exact⟨o,es,ep,uC _ eo,r⟩
 ·refine⟨rfl,h s.heap.objs.size _ I.fresh ?_⟩
  refine I.laid (fun b u eb=>k3 b u (fun z=>?_) (fun z=>?_) (uC _ (k2 _ _ (uC _ eb)))) (uJ _) (Xae ?_ ?_ (KV.merge rel .nil) d3)
  ·have:=uM eb
   rw[z]at this
   exact absurd (Nat.lt_trans this dlt) (u7 _)
  ·have:=uM eb
   rw[z]at this
   exact absurd this (u7 _)
  ·have:=vV kvs []
   simp only[List.length_nil]at this
   lia
  ·have:=I.big
   exact beq_false_of_ne (xT this)
end
section
variable {X:Cx}
@[irreducible] def YR:RDn:=fun xs M Q=>∃(d:D) (kvs:List (Key×D)),xs=[d]/\Zd d M=some (kvs.map fun kv=>.tup [wl kv.1,kv.2])/\kvs.length<=1000/\∀q,M q=none->Q (.ref q) (wc M q (.dct (kvs.foldl (fun acc kv=>ju acc kv.1 kv.2) [])))
theorem wbc{d:D}{kvs:List (Key×D)}{M:HpD}{Q:KD}(h:Zd d M=some (kvs.map fun kv=>.tup [wl kv.1,kv.2]))(hl:kvs.length<=1000)(q:∀q,M q=none->Q (.ref q) (wc M q (.dct (kvs.foldl (fun acc kv=>ju acc kv.1 kv.2) [])))):YR [d] M Q:=by unfold YR;exact⟨d,kvs,rfl,h,hl,q⟩
theorem wa8{k:Nat}(hr:Room k X.A)(hc:X.calm=true:=by rfl):CallR X (.type "dict") (wt X.K YR):=by
 intro pins s σ H xs us Q I rx h
 obtain⟨F,ds,M,QD,r,rh,hq,pp⟩:=h
 unfold YR at hq
 obtain⟨d,kvs,rfl,hM,hl,q⟩:=hq
 obtain⟨v,rfl,r1⟩:=jE r
 obtain⟨a,xv,rfl,hs,ra⟩:=Zm rh r1 hM
 obtain⟨u,rfl,ru⟩:=Zx rx
 cases ru
 obtain⟨vs,rk,vl,vp⟩:=War ra
 have kl:vs.length=kvs.length:=by
  have:=congrArg xV rk.keys
  simpa using this
 refine vaT (A:=X.A) (I.ok.hd hc) I hs vl (xQ (show vs.length<=1000 by lia) (by decide +kernel)) vp fun p' s' hp' I'=>?_
 have r0:RepKV ⟨X.K,F⟩ H M ([]:List (Key×D)) ([]:List (Key×V)):=⟨rfl,.nil⟩
 have rf:=YaU rk r0
 have r1:RepO ⟨X.K,F⟩ H M (.dct (kvs.foldl (fun acc kv=>ju acc kv.1 kv.2) [])) (.dK (vM [] vs)):=⟨_,rfl,rf.keys,rf.vals⟩
 exact⟨.ref p',_,I',rfl,pp (.ref p') _ _ _ (XF hp' (rh.free hp')) (rh.newM hp' r1) (by unfold RepD;rfl) (q p' (rh.free hp'))⟩
end
end L2
namespace V15
open PySem PySem.Spec PyProof.Rows L2
def jad:TSD:=
 (Zc (jc (tCD (.int 0)) (Zb 1))
 (Zc (XH (wah (Y1 (Ya 0) jA (wH (tCD (.int 63))))) (Zb 2) (jc (Wb qJ (Wb vh (Wb vh (Wb vP (Ya 1) (tCD (.int 31))) (Ya 2)) (tCD (.int 17))) (tCD (.int 2147483647))) (Zb 1)))
 (Zf (jg (Za (Wa qz (Za (Y1 (Ya 0) jA (wH (tCD (.int 63)))) Xa)) (Za (tCD (.int 0)) (Za (tCD (.int 0)) (Za (tCD (.int 0)) (Za (Ya 1) Xa)))))))))
def vX:TSD:=
 (Zc (jc (Wb qJ (Wb vh (Wb vh (Wb vP (Ya 0) (tCD (.int 48271))) (Wb vP (Ya 1) (tCD (.int 69621)))) (tCD (.int 12345))) (tCD (.int 2147483647))) (Zb 2))
 (Zc (jc (Wb qJ (Wb vh (Wb vh (Wb vP (Ya 2) (Wb vh (Wb qJ (Ya 2) (tCD (.int 65521))) (tCD (.int 7)))) (Wb vP (Ya 1) (tCD (.int 40692)))) (Wb qJ (Ya 0) (tCD (.int 104729)))) (tCD (.int 998244353))) (Zb 3))
 (Zf (Wb XaP (Ya 3) (tCD (.int 7))))))
def Y7(Xt:SpD):TSD:=
 (Zc (jc (Wb vh (Wb Zh (Ya 0) (tCD (.int 3))) (tCD (.int 1))) (kz (Ya 0) (tCD (.int 3))))
 (Zc (we (Xd (Wb wF (Wb Zh (Ya 0) (tCD (.int 2))) (tCD (.int 0)))) (Zc (jc (Wb Zh (Ya 0) (tCD (.int 2))) (Zb 2))
 (Zc (jc (Wb XaP (Ya 2) (Ya 1)) (kz (Ya 0) (tCD (.int 2))))
 (Zf (Wb qJ (Ya 2) (Ya 1))))) vd)
 (Zc (we (Xd (Wb jbC (Wb Zh (Ya 0) (tCD (.int 1))) (Wa Zl (Za (Wb Zh (Ya 0) (tCD (.int 0))) Xa)))) (Zf (Wb qJ (Wa Xt (Za (Wb Zh (Ya 0) (tCD (.int 4))) (Za (Wb Zh (Ya 0) (tCD (.int 3))) Xa))) (Ya 1))) vd)
 (Zc (jc (Wb Zh (Wb Zh (Ya 0) (tCD (.int 0))) (Wb Zh (Ya 0) (tCD (.int 1)))) (Zb 3))
 (Zc (jc (Wb vh (Wb Zh (Ya 0) (tCD (.int 1))) (tCD (.int 1))) (kz (Ya 0) (tCD (.int 1))))
 (Zc (we (Xd (Wb qav (Ya 3) (Wb jT (tCD (.int 10)) (tCD (.int 18))))) (Zf (Wb qJ (Wa Xt (Za (Ya 3) (Za (Wb Zh (Ya 0) (tCD (.int 3))) Xa))) (Ya 1))) vd)
 (Zc (jc (Wb XaP (Ya 3) (Ya 1)) (kz (Ya 0) (tCD (.int 2))))
 (Zf (Wb qJ (Ya 3) (Ya 1))))))))))
def ZY(ja:SpD):TSD:=
 (Zc (we (Xd (Wb (Wi false) (Wa ja (Za (Ya 0) (Za (tCD (.int 8)) Xa))) (tCD (.int 0)))) (Zf (Wa ja (Za (Ya 0) (Za (Wb vh (Ya 2) (tCD (.int 1))) Xa)))) vd)
 (Zf (Wa ja (Za (Ya 0) (Za (Wb vh (Ya 1) (tCD (.int 1))) Xa)))))
theorem qb{n:Nat}(h:n<=1000):n<=sizeLine:=yi (waW h)
local macro_rules | `(tactic| walk_at "r1") => `(tactic| first
 | refine vS ?_
 | refine YaF ?_
 | refine jj ?_
 | refine W5 ?_
 | refine X9 ?_
 | refine YC rfl ?_
 | refine kae ?_
 | refine kag (by first | exact .inl ⟨by decide, by decide⟩ | exact .inr ⟨by decide, by decide⟩ | exact ⟨by decide, by decide⟩ | (show (0 : Int) < _; first | decide | lia) | (constructor <;> lia)) ?_
 | refine Yae ?_
 | refine vam ?_
 | refine WZ ?_
 | refine Xax ?_
 | refine vaz ?_
 | refine WL ?_
 | refine WH ?_
 | refine jaj ?_
 | refine Zo ?_
 | refine qam ?_
 | refine qaU ?_
 | refine Z2 ?_
 | refine Yai ?_
 | refine Wak ?_
 | refine kaD ?_
 | refine ⟨qb (yP rfl), ?_⟩
 | refine Xai ?_
 | refine X8 ?_
 | refine Y8 ?_
 | refine ⟨_, rfl, ?_⟩)
local macro_rules | `(tactic| walk_at "r") => `(tactic| repeat walk_at "r1")
theorem ZA{p:Prop} [Decidable p] {A B:Prop}(h1:p->A)(h2:¬p->B):if decide p=true then A else B:=by
 by_cases h:p
 ·rw[if_pos (decide_eq_true h)];exact h1 h
 ·rw[if_neg (by rw[decide_eq_false h];exact uK)];exact h2 h
theorem WJ{p:Prop} [Decidable p] {A B:Prop}(h1:p->A)(h2:¬p->B):if (false ^^ decide p)=true then A else B:=by
 rw[yR];exact ZA h1 h2
theorem vbi{α:Type}(f:α->D)(l:List α)(lo hi:Option Int):∃r:List α,L2.ZU (l.map f) lo hi=r.map f/\r.length<=l.length:=by
 unfold L2.ZU
 rw[←List.map_drop,←List.map_take]
 exact⟨_,rfl,by simp only[uX,xD];lia⟩
theorem WT{neg:Bool}{i j:Int}{M:HpD}{Q:KD}(q:Q (.bl (neg ^^ decide (i=j))) M):Wi neg (.int i) (.int j) M Q:=by
 refine XaG rfl (ua _) ?_
 have e:eqD (Ye (.int i) M) (Ye (.int j) M)=decide (i=j):=by
  show eqD (.int i) (.int j)=_
  unfold eqD
  by_cases z:i=j
  ·subst z;simp
  ·simp[z]
 rw[e]
 exact q
def Xt:SpD:=fun ds M Q=>∃n t,ds=[.int n,.int t]/\∀m,Q (.int m) M
theorem Xas(ds:List D)(M:HpD)(Q:KD)(h:Xt ds M Q):vX {nx:=fun _ M'=>Q .non M',rt:=Q} (Zg ["_law_number","_law_turn","_law_one","_law_two"] ds) M:=by
 obtain⟨n,t,rfl,h⟩:=h
 unfold vX
 walk_at "r"
 exact .inl (h _)
def Ys(o:OD):Prop:=∃(cells:List Int) (i l c s:Int),o=.lst [.lst (cells.map D.int),.int i,.int l,.int c,.int s]/\0<=i
def Fr(b:Addr)(M M':HpD):Prop:=(∃o,M' b=some o/\Ys o)/\∀a,a≠b->M' a=M a
theorem Fr.upd{b:Addr}{M:HpD}{o:OD}(h:Ys o):Fr b M (wc M b o):=⟨⟨o,Xc,h⟩,fun a z=>Xb z⟩
theorem Fr.trans{b:Addr}{M M1 M2:HpD}(x:Fr b M M1)(y:Fr b M1 M2):Fr b M M2:=⟨y.1,fun a z=>(y.2 a z).trans (x.2 a z)⟩
def qu:SpD:=fun ds M Q=>∃ns:List Int,ds=[.lst (ns.map D.int)]/\ns.length<=63/\∀p M',M p=none->Fr p M M'->Q (.ref p) M'
theorem kaH(ds:List D)(M:HpD)(Q:KD)(h:qu ds M Q):jad {nx:=fun _ M'=>Q .non M',rt:=Q} (Zg ["_law_script","_law_seed","_law_cell"] ds) M:=by
 obtain⟨ns,rfl,hl,h⟩:=h
 obtain⟨r,er,hr⟩:=vbi D.int ns none (some 63)
 unfold jad
 walk_at "r"
 rw[er]
 refine Xg (qb (by rw[uA];lia)) ⟨_,rfl,fun i σ M'=>(∃s v,σ=[some (.lst (ns.map D.int)),some (.int s),v])/\M'=M,⟨⟨_,_,rfl⟩,rfl⟩,?_,?_⟩
 ·rintro i d σ M' e ⟨⟨s,v,rfl⟩,rfl⟩
  rw[uG]at e
  cases q:r[i]? with
  | none=>rw[q]at e;cases e
  | some z=>
   rw[q]at e;cases e
   walk_at "r"
   exact⟨⟨_,_,rfl⟩,rfl⟩
 ·rintro σ M' ⟨⟨s,v,rfl⟩,rfl⟩
  walk_at "r"
  rw[er]
  refine Xg (qb (by rw[uA];lia)) ?_
  walk_at "r"
  refine ZL rfl (Xg (qb (by rw[uA];lia)) ?_)
  walk_at "r"
  refine newM (qb (yP rfl)) fun p hp=>.inl (h p _ hp (.upd ⟨_,_,_,_,_,rfl,xx 0⟩))
def ja:SpD:=fun ds M Q=>∃(b:Addr) (n:Int) (o:OD),ds=[.ref b,.int n]/\0<n/\n<=1000000/\M b=some o/\Ys o/\∀r M',0<=r->r<n->Fr b M M'->Q (.int r) M'
theorem qaF(ds:List D)(M:HpD)(Q:KD)(h:ja ds M Q):Y7 Xt {nx:=fun _ M'=>Q .non M',rt:=Q} (Zg ["_law_box_here","_law_size","_law_left","_law_cell"] ds) M:=by
 obtain⟨b,n,o,rfl,n0,n1,eM,⟨cells,i,l,c,s,rfl,hi⟩,h⟩:=h
 unfold Y7
 walk_at "r"
 refine vq (ke eM) rfl ?_
 walk_at "r"
 refine⟨b,_,_,_,rfl,rfl,eM,rfl,?_⟩
 walk_at "r"
 refine vq (ke Xc) rfl ?_
 walk_at "r"
 refine ZA (fun hc=>?_) (fun hc=>?_)
 ·walk_at "r"
  refine vq (ke Xc) rfl ?_
  walk_at "r"
  refine⟨b,_,_,_,rfl,rfl,Xc,rfl,?_⟩
  walk_at "r"
  refine .inl (h _ _ (Int.emod_nonneg _ (by lia)) (yh _ n0) ?_)
  rw[qW]
  exact .upd ⟨_,_,_,_,_,rfl,hi⟩
 ·walk_at "r"
  refine vq (ke Xc) rfl ?_
  walk_at "r"
  refine vq (ke Xc) rfl ?_
  walk_at "r"
  refine jr rfl ?_
  walk_at "r"
  refine ZA (fun hc2=>?_) (fun hc2=>?_)
  ·walk_at "r"
   refine vq (ke Xc) rfl ?_
   walk_at "r"
   refine vq (ke Xc) rfl ?_
   walk_at "r"
   refine⟨_,_,rfl,fun m=>?_⟩
   walk_at "r"
   exact .inl (h _ _ (Int.emod_nonneg _ (by lia)) (yh _ n0) (.upd ⟨_,_,_,_,_,rfl,hi⟩))
  ·walk_at "r"
   refine vq (ke Xc) rfl ?_
   walk_at "r"
   refine vq (ke Xc) rfl ?_
   have hlt:i.toNat<cells.length:=by
    rw[uA]at hc2
    lia
   have hat:atI (cells.map D.int) i=some (.int cells[i.toNat]):=by
    have:=Wam (xs:=cells.map D.int) (j:=i.toNat) (v:=.int cells[i.toNat]) (by rw[uG,uB hlt];rfl)
    rw[Int.toNat_of_nonneg hi]at this
    exact this
   refine vq rfl hat ?_
   walk_at "r"
   refine vq (ke Xc) rfl ?_
   walk_at "r"
   refine⟨b,_,_,_,rfl,rfl,Xc,rfl,?_⟩
   rw[qW]
   walk_at "r"
   refine ZA (fun hc3=>?_) (fun hc3=>?_)
   ·walk_at "r"
    refine vq (ke Xc) rfl ?_
    walk_at "r"
    refine⟨_,_,rfl,fun m=>?_⟩
    walk_at "r"
    exact .inl (h _ _ (Int.emod_nonneg _ (by lia)) (yh _ n0) (.upd ⟨_,_,_,_,_,rfl,by lia⟩))
   ·walk_at "r"
    refine⟨b,_,_,_,rfl,rfl,Xc,rfl,?_⟩
    rw[qW]
    walk_at "r"
    exact .inl (h _ _ (Int.emod_nonneg _ (by lia)) (yh _ n0) (.upd ⟨_,_,_,_,_,rfl,by lia⟩))
local macro_rules | `(tactic| walk_at "st1") => `(tactic| first
 | refine vS ?_
 | refine YaF ?_
 | refine jj ?_
 | refine W5 ?_
 | refine X9 ?_
 | refine YC rfl ?_
 | refine kae ?_
 | refine kag (by first | exact .inl ⟨by decide, by decide⟩ | exact .inr ⟨by decide, by decide⟩ | exact ⟨by decide, by decide⟩ | (show (0 : Int) < _; first | decide | lia) | (constructor <;> lia)) ?_
 | refine WT ?_
 | refine qa2 ?_
 | refine Yae ?_
 | refine XaJ ?_
 | refine jaM ?_
 | refine Z1 ?_
 | refine Ybe ?_
 | refine qa3 ?_
 | refine qak rfl ?_
 | refine kE ?_
 | refine Xal ?_
 | refine XaM ?_
 | refine ja1 ?_
 | refine rd_neg ?_
 | refine qae ?_
 | refine vaJ ?_
 | refine rd_notV ?_
 | refine rd_mx ?_
 | refine vam ?_
 | refine WZ ?_
 | refine Xax ?_
 | refine vaz ?_
 | refine WL ?_
 | refine WH ?_
 | refine jaj ?_
 | refine Zo ?_
 | refine qam ?_
 | refine qaU ?_
 | refine Z2 ?_
 | refine Yai ?_
 | refine Wak ?_
 | refine kaD ?_
 | refine qaJ ?_
 | refine WaE ?_
 | refine kaz ?_
 | refine rd_ienum ?_
 | refine qaK ?_
 | refine vaM ?_
 | refine WaW ?_
 | refine rd_lstRng ?_
 | refine rd_din ?_
 | refine waL ?_
 | refine rd_compDc ?_
 | refine ⟨qb (yP rfl), ?_⟩
 | refine Xai ?_
 | refine X8 ?_
 | refine Y8 ?_
 | refine ⟨_, rfl, ?_⟩)
local macro_rules | `(tactic| walk_at "st") => `(tactic| repeat walk_at "st1")
def Yy:SpD:=fun ds M Q=>∃(b:Addr) (few most:Int) (o:OD),ds=[.ref b,.int few,.int most]/\0<=few/\few<=100/\0<=most/\most<=100/\M b=some o/\Ys o/\∀r M',0<=r->(r<=few\/r<=most)->Fr b M M'->Q (.int r) M'
theorem Zat(ds:List D)(M:HpD)(Q:KD)(h:Yy ds M Q):ZY ja {nx:=fun _ M'=>Q .non M',rt:=Q} (Zg ["_law_box_here","_law_few","_law_most"] ds) M:=by
 obtain⟨b,few,most,o,rfl,f0,f1,m0,m1,eM,hb,h⟩:=h
 unfold ZY
 walk_at "st"
 refine⟨b,_,o,rfl,by decide,by decide,eM,hb,fun r M1 r0 r1 fr=>?_⟩
 obtain⟨o1,e1,b1⟩:=id fr.1
 walk_at "st"
 refine WJ (fun hc=>?_) (fun hc=>?_)
 ·walk_at "st"
  exact⟨b,_,o1,rfl,by lia,by lia,e1,b1,fun r M2 r0 r1 fr2=>.inl (h _ _ r0 (.inr (by lia)) (fr.trans fr2))⟩
 ·walk_at "st"
  exact⟨b,_,o1,rfl,by lia,by lia,e1,b1,fun r M2 r0 r1 fr2=>.inl (h _ _ r0 (.inl (by lia)) (fr.trans fr2))⟩
def YS:TSD:=
 (Zf (tCD (.str "abcdefghijklmnopqrstuvwxyz")))
def vY(ja jt:SpD):TSD:=
 (Zc (jc (Wb vh (tCD (.int 1)) (Wa ja (Za (Ya 0) (Za (tCD (.int 8)) Xa)))) (Zb 1))
 (Zf (kY (tCD (.str "")) (vH 1 (kB (Za (Ya 1) Xa)) (Zb 0) Xp (Wb Wac (Wa jt Xa) (Wa ja (Za (Ya 1) (Za (tCD (.int 26)) Xa))))))))
def Xaf(ja:SpD):TSD:=
 (Zc (jc (Wa ja (Za (Ya 0) (Za (tCD (.int 4)) Xa))) (Zb 1))
 (Zc (we (Xd (Wb (Wi false) (Ya 1) (tCD (.int 0)))) (Zf (tCD (.int 0))) vd)
 (Zc (we (Xd (Wb (Wi false) (Ya 1) (tCD (.int 1)))) (Zf (Wb jP (Wb jP (Wb jT (tCD (.int 10)) (tCD (.int 9))) (tCD (.int 2600))) (Wa ja (Za (Ya 0) (Za (tCD (.int 3)) Xa))))) vd)
 (Zc (we (Xd (Wb (Wi false) (Ya 1) (tCD (.int 2)))) (Zf (Wb vP (Wa ja (Za (Ya 0) (Za (tCD (.int 1000000)) Xa))) (tCD (.int 900)))) vd)
 (Zf (Wa ja (Za (Ya 0) (Za (tCD (.int 40)) Xa))))))))
def k6(ja:SpD):TSD:=
 (Zc (jc (jg Xa) (Zb 3))
 (Zc (Yv (qj (Ya 1)) (Zb 4) (we (kD (jx (Ya 2)) (Xd (Wb wF (Wa ja (Za (Ya 0) (Za (tCD (.int 4)) Xa))) (tCD (.int 0))))) (kh (kG (Ya 3) (Wa ja (Za (Ya 0) (Za (Wb vh (Wa Zl (Za (Ya 3) Xa)) (tCD (.int 1))) Xa))) (Ya 4))) vd))
 (Zf (Ya 3))))
theorem vE{p:Addr}{M:HpD}{ds:List D}(h:Zd (.ref p) M=some ds):M p=some (.lst ds):=by
 cases e:M p with
 | none=>simp only[Zd,e]at h;cases h
 | some o=>
  cases o with
  | lst l=>simp only[Zd,e]at h;cases h;rfl
  | dct kvs=>simp only[Zd,e]at h;cases h
  | tab _=>simp only[Zd,e]at h;cases h
  | dtt _=>simp only[Zd,e]at h;cases h
theorem jH{d:D}{M:HpD}{ds:List D}(h:Zd d M=some ds):Ye d M=.lst ds:=by
 cases d with
 | lst l=>cases h;rfl
 | ref p=>simp only[Ye,vE h]
 | _=>cases h
theorem jah{d:D}{M:HpD}{ds:List D}(h:Zd d M=some ds):kn d M=some ds:=by
 cases d with
 | lst l=>cases h;rfl
 | ref p=>exact ke (vE h)
 | _=>cases h
def Wa9(x:Str):Prop:=1<=x.length/\x.length<=8/\∀c∈x.cps.toList,97<=c/\c<=122
noncomputable def abc:Str:="abcdefghijklmnopqrstuvwxyz"
theorem Ybp(r:Int)(h0:0<=r)(h1:r<26):∃c:Nat,atI abc.cps.toList r=some c/\97<=c/\c<=122:=by
 have e:abc.cps.toList=(xC 26).map (·+97):=by decide
 have hn:r.toNat<26:=by lia
 refine⟨r.toNat+97,?_,by lia,by lia⟩
 have hr:((r.toNat:Nat):Int)=r:=by lia
 rw[←hr]
 refine Wam ?_
 rw[e,uG,xW,List.getElem?_range hn]
 rfl
def jt:SpD:=fun ds M Q=>ds=[]/\Q (.str abc) M
theorem Waf(ds:List D)(M:HpD)(Q:KD)(h:jt ds M Q):YS {nx:=fun _ M'=>Q .non M',rt:=Q} (Zg [] ds) M:=by
 obtain⟨rfl,h⟩:=h
 unfold YS
 walk_at "st"
 exact .inl h
theorem kaq:∀(cs:List Nat) (acc:Str),((cs.map fun c=>(⟨#[c]⟩:Str)).foldl HAppend.hAppend acc).cps.toList=acc.cps.toList++cs
 | [],acc=>by simp
 | c::cs,acc=>by
  rw[uH,List.foldl_cons,kaq cs]
  show(acc.cps++#[c]).toList++cs=_
  simp
theorem Zab(cs:List Nat):(Txt.join "" (cs.map fun c=>(⟨#[c]⟩:Str))).cps.toList=cs:=by
 rw[show Txt.join (Str.ofString "") (cs.map fun c=>(⟨#[c]⟩:Str))=Str.join ⟨#[]⟩ (cs.map fun c=>(⟨#[c]⟩:Str)) from StrLaws.glued_eq_join _ _]
 rw[←fold_cat_join_nil,kaq]
 rfl
def wx:SpD:=fun ds M Q=>∃(b:Addr) (o:OD),ds=[.ref b]/\M b=some o/\Ys o/\∀x M',Wa9 x->Fr b M M'->Q (.str x) M'
theorem vas(ds:List D)(M:HpD)(Q:KD)(h:wx ds M Q):vY ja jt {nx:=fun _ M'=>Q .non M',rt:=Q} (Zg ["_law_box_here","_law_size"] ds) M:=by
 obtain⟨b,o,rfl,eM,hb,h⟩:=h
 unfold vY
 walk_at "st"
 refine⟨b,_,o,rfl,by decide,by decide,eM,hb,fun r M1 r0 r1 fr=>?_⟩
 obtain⟨o1,e1,b1⟩:=id fr.1
 walk_at "st"
 refine⟨by lia,by lia,qb (by rw[Yu];lia),fun i ys σ M'=>∃(cs:List Nat) (v:Option D),Fr b M M'/\σ=[v,some (.ref b),some (.int (1+r))]/\ys=(cs.map fun c=>(⟨#[c]⟩:Str)).map D.str/\cs.length=i/\(∀c∈cs,97<=c/\c<=122),⟨[],_,fr,rfl,rfl,rfl,by simp⟩,?_,?_⟩
 ·rintro i d ys σ M' e ⟨cs,v,fr',rfl,rfl,hc,ho⟩
  obtain⟨o2,e2,b2⟩:=id fr'.1
  walk_at "st"
  refine⟨rfl,?_⟩
  walk_at "st"
  refine⟨b,_,o2,rfl,by decide,by decide,e2,b2,fun r' M2 r0' r1' fr2=>?_⟩
  obtain⟨c,hat,h97,h122⟩:=Ybp r' r0' r1'
  refine Zbo (qb (by decide)) hat ?_
  refine⟨cs++[c],_,fr'.trans fr2,rfl,by simp,by simp[hc],fun c' hm=>?_⟩
  rcases uQ.mp hm with hm | hm
  ·exact ho c' hm
  ·rw[uL.mp hm];exact⟨h97,h122⟩
 ·rintro ys σ M' ⟨cs,v,fr',rfl,rfl,hc,ho⟩
  rw[Yu]at hc
  refine Xg (qb (by rw[uA,uA];lia)) ?_
  refine⟨_,rfl,?_,.inl (h _ _ ⟨?_,?_,?_⟩ fr')⟩
  ·unfold JoinOk
   rw[StrLaws.joinFits (B:=1) (fun y hy=>?_) (by rw[uA,show(Str.ofString "").length=0 from rfl];lia)]
   ·rfl
   ·obtain⟨c,_,rfl⟩:=uS.mp hy
    exact uJ _
  ·show 1<=(Txt.join _ _).cps.size
   rw[←uU,Zab];lia
  ·show(Txt.join _ _).cps.size<=8
   rw[←uU,Zab];lia
  ·rw[Zab];exact ho
structure Gro(b p:Addr)(M M1:HpD)(ds:List D):Prop where
 bx:∃o,M1 b=some o/\Ys o
 ls:M1 p=some (.lst ds)
 fr:∀a,a≠b->a≠p->M1 a=M a
theorem Gro.step{b p:Addr}{M M1 M2:HpD}{ds:List D}(t:Gro b p M M1 ds)(hn:p≠b)(f:Fr b M1 M2):Gro b p M M2 ds:=
 ⟨f.1,(f.2 p hn).trans t.ls,fun a z1 z2=>(f.2 a z1).trans (t.fr a z1 z2)⟩
theorem Gro.upd{b p:Addr}{M M1:HpD}{ds es:List D}(t:Gro b p M M1 ds)(hn:p≠b):Gro b p M (wc M1 p (.lst es)) es:=
 ⟨by rw[Xb (Ne.symm hn)];exact t.bx,Xc,fun a z1 z2=>by rw[Xb z2];exact t.fr a z1 z2⟩
theorem Gro.start{b p:Addr}{M M1:HpD}(f:Fr b M M1)(hp:M1 p=none)(es:List D):p≠b/\Gro b p M (wc M1 p (.lst es)) es:=by
 have hn:p≠b:=fun z=>by obtain⟨o,e,_⟩:=f.1;rw[z,e]at hp;cases hp
 exact⟨hn,by rw[Xb (Ne.symm hn)];exact f.1,Xc,fun a z1 z2=>by rw[Xb z2];exact f.2 a z1⟩
theorem Gro.del{b p:Addr}{M M1:HpD}{ds:List D}(t:Gro b p M M1 ds)(hn:p≠b)(hp:M p=none):Fr b M (js M1 p):=
 ⟨by rw[Ym (Ne.symm hn)];exact t.bx,fun a z=>by
  by_cases q:a=p
  ·rw[q,wC,hp]
  ·rw[Ym q];exact t.fr a z q⟩
theorem Fr.self{b:Addr}{M:HpD}{o:OD}(e:M b=some o)(h:Ys o):Fr b M M:=⟨⟨o,e,h⟩,fun _ _=>rfl⟩
theorem vR{x:Str}:∀{ns:List Str},inD (.str x) (ns.map D.str)=decide (x∈ns)
 | []=>by simp[inD]
 | y::ns=>by
  have ih:=vR (x:=x) (ns:=ns)
  unfold inD at ih ⊢
  rw[uH,x8,ih]
  by_cases z:x=y
  ·subst z;simp[eqD]
  ·have z':¬y=x:=fun q=>z q.symm
   simp[eqD,z,z']
theorem kO{x:Str}{ns:List Str}:∀d∈ns.map D.str,XB d=true/\okD d (.str x)=true:=fun d hd=>by
 obtain⟨y,_,rfl⟩:=uS.mp hd
 exact⟨rfl,by simp[okD]⟩
def wB:SpD:=fun ds M Q=>∃(b:Addr) (o:OD),ds=[.ref b]/\M b=some o/\Ys o/\∀d M',0<=d->d<=999997400->Fr b M M'->Q (.int d) M'
theorem waH(ds:List D)(M:HpD)(Q:KD)(h:wB ds M Q):Xaf ja {nx:=fun _ M'=>Q .non M',rt:=Q} (Zg ["_law_box_here","_law_turn"] ds) M:=by
 obtain⟨b,o,rfl,eM,hb,h⟩:=h
 unfold Xaf
 walk_at "st"
 refine⟨b,_,o,rfl,by decide,by decide,eM,hb,fun r M1 r0 r1 f1=>?_⟩
 obtain⟨o1,e1,b1⟩:=id f1.1
 walk_at "st"
 refine WJ (fun _=>?_) (fun _=>?_)
 ·walk_at "st"
  exact .inl (h _ _ (by decide) (by decide) f1)
 ·walk_at "st"
  refine WJ (fun _=>?_) (fun _=>?_)
  ·walk_at "st"
   refine⟨b,_,o1,rfl,by decide,by decide,e1,b1,fun r' M2 r0' r1' f2=>?_⟩
   walk_at "st"
   have e9:(10:Int)^(Int.toNat 9)=1000000000:=by decide
   refine .inl (h _ _ (by rw[e9];lia) (by rw[e9];lia) (f1.trans f2))
  ·walk_at "st"
   refine WJ (fun _=>?_) (fun _=>?_)
   ·walk_at "st"
    refine⟨b,_,o1,rfl,by decide,by decide,e1,b1,fun r' M2 r0' r1' f2=>?_⟩
    refine X9 (kag (.inr ⟨by decide,by decide⟩) ?_)
    exact .inl (h _ _ (by lia) (by lia) (f1.trans f2))
   ·walk_at "st"
    refine⟨b,_,o1,rfl,by decide,by decide,e1,b1,fun r' M2 r0' r1' f2=>?_⟩
    exact .inl (h _ _ (by lia) (by lia) (f1.trans f2))
theorem ja4{α:Type}(xs:List α)(k:Nat)(y:α):(Yq xs k y).Perm (xs++[y]):=by
 unfold Yq
 have:xs++[y]=(xs.take k++xs.drop k)++[y]:=by rw[uz]
 rw[this,uf]
 exact List.Perm.append_left _ (xL (l₁:=[y]) (l₂:=xs.drop k))
def YaQ{α:Type}(all:Bool)(ds es:List α):Prop:=∃l,l.Sublist ds/\es.Perm l/\(all=true->l=ds)
def Zk:SpD:=fun ds M Q=>∃(b:Addr) (o:OD) (d:D) (all:Bool) (xs:List D),ds=[.ref b,d,.bl all]/\M b=some o/\Ys o/\Zd d M=some xs/\(∀p,d=.ref p->p≠b)/\xs.length<=100/\∀es M',YaQ all xs es->Fr b M M'->Q (.lst es) M'
theorem kax(ds:List D)(M:HpD)(Q:KD)(h:Zk ds M Q):k6 ja {nx:=fun _ M'=>Q .non M',rt:=Q} (Zg ["_law_box_here","_law_some","_law_all_of","_law_found","_law_one"] ds) M:=by
 obtain⟨b,o,d,all,xs,rfl,eM,hb,hd,hdb,hl,h⟩:=h
 unfold k6
 walk_at "st"
 refine newM (qb (ua _)) fun p hp=>?_
 obtain⟨hpb,g0⟩:=Gro.start (Fr.self eM hb) hp []
 have hdp:∀q,d=.ref q->q≠p:=fun q e z=>by
  subst e z
  rw[vE hd]at hp;cases hp
 have keep:∀{M':HpD} {es:List D},Gro b p M M' es->Zd d M'=some xs:=fun {M' es} g=>by
  cases d with
  | lst l=>exact hd
  | ref q=>exact vw ((g.fr q (hdb q rfl) (hdp q rfl)).trans (vE hd))
  | _=>cases hd
 walk_at "st"
 refine⟨_,keep g0,fun i σ M'=>∃(l es:List D) (v4:Option D),Gro b p M M' es/\σ=[some (.ref b),some d,some (.bl all),some (.ref p),v4]/\l.Sublist (xs.take i)/\es.Perm l/\(all=true->l=xs.take i),⟨[],[],_,g0,rfl,by simp,List.Perm.refl _,fun _=>by simp⟩,fun i σ M' z=>by obtain⟨_,_,_,g,_⟩:=z;exact keep g,?_,?_⟩
 ·rintro i y σ M' e ⟨l,es,v4,g,rfl,sub,per,hall⟩
  have tk:xs.take (i+1)=xs.take i++[y]:=by rw[ud,e];rfl
  have hi:i<xs.length:=(uO.mp e).1
  have el:es.length<=100:=by
   have:=per.length_eq
   have:=sub.length_le
   rw[uX]at this
   lia
  have put:∀(M1:HpD),Gro b p M M1 es->∀DD:jn,(∀σ M2,(∃(l es:List D) (v4:Option D),Gro b p M M2 es/\σ=[some (.ref b),some d,some (.bl all),some (.ref p),v4]/\l.Sublist (xs.take (i+1))/\es.Perm l/\(all=true->l=xs.take (i+1)))->DD.nx σ M2) →
    (kh (kG (Ya 3) (Wa ja (Za (Ya 0) (Za (Wb vh (Wa Zl (Za (Ya 3) Xa)) (tCD (.int 1))) Xa))) (Ya 4))) DD [some (.ref b),some d,some (.bl all),some (.ref p),some y] M1:=by
   intro M1 g1 DD hDD
   obtain⟨o1,e1,b1⟩:=g1.bx
   walk_at "st"
   refine⟨⟨_,g1.ls⟩,?_⟩
   walk_at "st"
   refine jr (ke g1.ls) ?_
   walk_at "st"
   refine⟨b,_,o1,rfl,by lia,by lia,e1,b1,fun r M2 r0 r1 f2=>?_⟩
   have g2:=g1.step hpb f2
   walk_at "st"
   refine⟨r.toNat,es,by rw[show((r.toNat:Nat):Int)=r by lia],g2.ls,uP (by lia) (qb (n:=200) (by decide)),by lia,?_⟩
   refine hDD _ _ ⟨l++[y],_,_,g2.upd hpb,rfl,by rw[tk];exact sub.append (List.Sublist.refl _),(ja4 es _ y).trans (per.append_right _),fun z=>by rw[tk,hall z]⟩
  walk_at "st"
  refine⟨all,by unfold ZQ;rfl,?_⟩
  cases all with
  | true=>
   rw[if_pos rfl,if_pos rfl]
   exact put M' g _ fun _ _ z=>z
  | false=>
   rw[if_neg uK]
   obtain⟨o1,e1,b1⟩:=g.bx
   walk_at "st"
   refine⟨b,_,o1,rfl,by decide,by decide,e1,b1,fun r M2 r0 r1 f2=>?_⟩
   have g2:=g.step hpb f2
   walk_at "st"
   refine ZA (fun _=>?_) (fun _=>?_)
   ·exact put M2 g2 _ fun _ _ z=>z
   ·refine Zo ⟨l,es,_,g2,rfl,by rw[tk];exact sub.trans (List.sublist_append_left _ _),per,fun z=>by cases z⟩
 ·rintro σ M' ⟨l,es,v4,g,rfl,sub,per,hall⟩
  rw[ug]at sub hall
  walk_at "st"
  exact .inr ⟨p,_,rfl,g.ls,h es _ ⟨l,sub,per,hall⟩ (g.del hpb hp)⟩
structure Fx(b:Addr)(M M':HpD):Prop where
 bx:∃o,M' b=some o/\Ys o
 old:∀a o,a≠b->M a=some o->M' a=some o
theorem Fx.of{b:Addr}{M M':HpD}(f:Fr b M M'):Fx b M M':=⟨f.1,fun a o h e=>(f.2 a h).trans e⟩
theorem Fx.trans{b:Addr}{M M1 M2:HpD}(f:Fx b M M1)(g:Fx b M1 M2):Fx b M M2:=⟨g.bx,fun a o h e=>g.old a o h (f.old a o h e)⟩
def Z3(wx:SpD):TSD:=
 (Zc (jc (jg Xa) (Zb 2))
 (Zc (XH (kB (Za (Ya 1) Xa)) (Zb 3) (Zc (jc (Wa wx (Za (Ya 0) Xa)) (Zb 4))
 (we (Xd (Wb (WQ true) (Ya 4) (Ya 2))) (kh (ww (Ya 2) (Ya 4))) vd)))
 (Zf (Ya 2))))
def qY(wB ja Wn Yy Zk:SpD):TSD:=
 (Zc (jc (Wa wB (Za (Ya 0) Xa)) (Zb 2))
 (Zc (jc (jg Xa) (Zb 3))
 (Zc (jc (Wa ja (Za (Ya 0) (Za (tCD (.int 32)) Xa))) (Zb 4))
 (Zc (Yv (qj (Wa Wn (Za (Ya 0) (Za (Wa Yy (Za (Ya 0) (Za (tCD (.int 4)) (Za (tCD (.int 8)) Xa)))) Xa)))) (Zb 5) (Zc (jc (Wb vh (Ya 2) (Wa ja (Za (Ya 0) (Za (tCD (.int 5)) Xa)))) (Zb 6))
 (Zc (jc (Wb vh (Ya 6) (Wb Zh (jg (Za (tCD (.int 0)) (Za (Wa ja (Za (Ya 0) (Za (tCD (.int 3)) Xa))) (Za (Wa ja (Za (Ya 0) (Za (tCD (.int 5)) Xa))) Xa)))) (Wa ja (Za (Ya 0) (Za (tCD (.int 3)) Xa))))) (Zb 7))
 (Zc (we (Xd (Wb (Wi false) (Wa Zl (Za (Ya 3) Xa)) (Ya 4))) (jc (Wb vh (Ya 6) (Wa ja (Za (Ya 0) (Za (Wb Zh (jg (Za (tCD (.int 30)) (Za (tCD (.int 10)) Xa))) (Wa ZV (Za (Wb wF (Wa Zl (Za (Ya 1) Xa)) (tCD (.int 6))) Xa))) Xa)))) (Zb 7)) vd)
 (Zc (jc (Wb vh (tCD (.int 1)) (Wb Zh (jg (Za (Wa ja (Za (Ya 0) (Za (tCD (.int 2)) Xa))) (Za (Wa ja (Za (Ya 0) (Za (tCD (.int 3)) Xa))) (Za (Wa ja (Za (Ya 0) (Za (tCD (.int 12)) Xa))) Xa)))) (Wa ja (Za (Ya 0) (Za (tCD (.int 3)) Xa))))) (Zb 8))
 (Zc (jc (Wa Zk (Za (Ya 0) (Za (Ya 1) (Za (Wb (Wi false) (Wa ja (Za (Ya 0) (Za (tCD (.int 3)) Xa))) (tCD (.int 0))) Xa)))) (Zb 9))
 (kh (ww (Ya 3) (jf (Za (Ya 5) (Za (Ya 6) (Za (Ya 7) (Za (Ya 8) (Za (Wa j4 (Za (Ya 9) Xa)) Xa))))))))))))))
 (Zf (Wa Zk (Za (Ya 0) (Za (Ya 3) (Za (tCD (.bl true)) Xa)))))))))
def YW(ja:SpD):TSD:=
 (Zc (jc ZN (Zb 3))
 (Zc (jc (Wb wD (Xm 1 (qj (Ya 2)) (Zb 0) Xp (Wb Zh (Ya 0) (tCD (.int 1)))) (jg (Za (tCD (.int 5)) Xa))) (Zb 4))
 (Zc (Yv (qj (Ya 1)) (Zb 5) (Zc (jc (jg Xa) (Zb 6))
 (Zc (XH (kB (Za (Wb vP (Wa ja (Za (Ya 0) (Za (tCD (.int 3)) Xa))) (Wa ZV (Za (Wb (Wi false) (Wa ja (Za (Ya 0) (Za (tCD (.int 2)) Xa))) (tCD (.int 0))) Xa))) Xa)) (Zb 7) (Zc (jc (Wa X6 (Za (tCD (.int 0)) (Za (Wb jP (Wb vh (Wb Zh (Ya 4) (Wa ja (Za (Ya 0) (Za (Wa Zl (Za (Ya 4) Xa)) Xa)))) (Wa ja (Za (Ya 0) (Za (tCD (.int 6)) Xa)))) (tCD (.int 2))) Xa))) (Zb 8))
 (Zc (jc (Wb vh (Ya 8) (Wb Zh (jg (Za (tCD (.int 0)) (Za (tCD (.int 1)) (Za (Wa ja (Za (Ya 0) (Za (tCD (.int 4)) Xa))) (Za (Wb jT (tCD (.int 10)) (tCD (.int 6))) Xa))))) (Wa ja (Za (Ya 0) (Za (tCD (.int 4)) Xa))))) (Zb 9))
 (kh (ww (Ya 6) (jf (Za (Ya 8) (Za (Wa X3 (Za (Wb jT (tCD (.int 10)) (tCD (.int 9))) (Za (Ya 9) Xa))) Xa))))))))
 (we (kD (Xd (Wb wF (Wa Zl (Za (Ya 6) Xa)) (tCD (.int 0)))) (Xd (Wb (Wi false) (Wa ja (Za (Ya 0) (Za (tCD (.int 2)) Xa))) (tCD (.int 0))))) (qv (Ya 3) (Ya 5) (wT (Ya 6))) vd))))
 (Zc (we (Wz (Xd (Wb (WQ true) (tCD (.str "zzzzzzzz")) (Ya 1))) (Xd (Wb (Wi false) (Wa ja (Za (Ya 0) (Za (tCD (.int 4)) Xa))) (tCD (.int 0))))) (qv (Ya 3) (tCD (.str "zzzzzzzz")) (jg (Za (jf (Za (tCD (.int 0)) (Za (Wb jT (tCD (.int 10)) (tCD (.int 9))) Xa))) Xa))) vd)
 (Zf (YV (Ya 3)))))))
def wV(ja:SpD):TSD:=
 (Zc (jc ZN (Zb 2))
 (Zc (Yv (qj (Ya 1)) (Zb 3) (qv (Ya 2) (Ya 3) (Wb Zh (jg (Za (Wa ja (Za (Ya 0) (Za (tCD (.int 3)) Xa))) (Za (Wa ja (Za (Ya 0) (Za (tCD (.int 6)) Xa))) (Za (Wa ja (Za (Ya 0) (Za (tCD (.int 12)) Xa))) (Za (tCD (.int 1000)) Xa))))) (Wa ja (Za (Ya 0) (Za (tCD (.int 4)) Xa))))))
 (Zf (Ya 2))))
def X7(Wn ja Zy Wv Yw:SpD):TSD:=
 (Zc (jc (Wa Wn (Za (Ya 0) (Za (Wb Zh (jg (Za (tCD (.int 2)) (Za (tCD (.int 3)) (Za (tCD (.int 4)) (Za (tCD (.int 5)) (Za (tCD (.int 6)) (Za (tCD (.int 3)) (Za (tCD (.int 4)) (Za (tCD (.int 12)) Xa))))))))) (Wa ja (Za (Ya 0) (Za (tCD (.int 8)) Xa)))) Xa))) (Zb 1))
 (Zc (jc (Wa Zy (Za (Ya 0) (Za (Ya 1) Xa))) (Zb 2))
 (Zf (jf (Za (Ya 2) (Za (Wa Yw (Za (Ya 0) (Za (Ya 1) Xa))) (Za (Wa Wv (Za (Ya 0) (Za (Ya 1) (Za (Ya 2) Xa)))) Xa)))))))
def jZ:TSD:=
 (Zc (jc (jg Xa) (Zb 1))
 (Zc (Yv (qj (Ya 0)) (jl 5 (qc (Zb 2) (qc (Zb 3) (qc (Zb 4) (qc (Zb 5) (qc (Zb 6) Xj)))))) (kh (Wag (Ya 1) (vH 1 (W0 (Za (Ya 3) (Za (Wb vh (Ya 4) (tCD (.int 1))) Xa))) (Zb 0) Xp (jf (Za (Ya 0) (Za (Ya 3) (Za (Ya 6) (Za (Ya 7) Xa)))))))))
 (Zf (Wa Wu (Za (Ya 1) Xa)))))
def j7:TSD:=
 (Zf (Wa vak (Za (Xm 2 (qj (wJ (Ya 0) (Ya 1) (jg Xa))) (jl 2 (qc (Zb 0) (qc (Zb 1) Xj))) Xp (jy (Wb Yam (Ya 0) (Ya 4)) (Wb Yam (Ya 4) (Ya 1)))) Xa)))
def wX(Xn Zk Xl ja:SpD):TSD:=
 (Zc (jc (Wa ZI (Za (Ya 2) Xa)) (Zb 4))
 (Zc (jc (jg Xa) (Zb 5))
 (Zc (jc YK (Zb 6))
 (Zc (Yv (qj (Wa Xn (Za (Ya 1) Xa))) (jl 4 (qc (Zb 7) (qc (Zb 8) (qc (Zb 9) (qc (Zb 10) Xj))))) (Zc (jc (jg Xa) (Zb 11))
 (Zc (Yv (qj (Wa Zk (Za (Ya 0) (Za (Wa qz (Za (Ya 10) Xa)) (Za (tCD (.bl true)) Xa))))) (Zb 12) (Zc (jc (jy (Wb wF (Xy (Ya 4) (Ya 12)) (tCD (.int 0))) (jy (WA true (jf (Za (Ya 12) (Za (Ya 7) Xa))) (Ya 6)) (Wb qav (Wa Zl (Za (Ya 11) Xa)) (Ya 9)))) (Zb 13))
 (we (Wz (jx (Ya 13)) (Wz (vG (jx (Wa Xl (Za (Ya 3) (Za (Ya 12) (Za (Ya 7) Xa)))))) (Xd (Wb wF (Wa ja (Za (Ya 0) (Za (tCD (.int 5)) Xa))) (tCD (.int 0)))))) (Zc (kh (ww (Ya 11) (Ya 12)))
 (Zc (qv (Ya 4) (Ya 12) (Wb jP (Xy (Ya 4) (Ya 12)) (tCD (.int 1))))
 (ZD (Ya 6) (jf (Za (Ya 12) (Za (Ya 7) Xa))) (tCD (.bl true))))) vd)))
 (kh (ww (Ya 5) (jf (Za (Ya 7) (Za (Ya 8) (Za (Wa Wu (Za (Ya 11) Xa)) Xa)))))))))
 (Zf (Ya 5))))))
def qE(ja:SpD):TSD:=
 (Zc (jc (Xm 3 (qj (Ya 1)) (jl 3 (qc (Zb 0) (qc (Zb 1) (qc (Zb 2) Xj)))) Xp (jf (Za (Ya 0) (Za (Ya 1) (Za (Wa qz (Za (Ya 2) Xa)) Xa))))) (Zb 1))
 (Zc (jc (Wa ja (Za (Ya 0) (Za (tCD (.int 9)) Xa))) (Zb 6))
 (Zc (we (kD (Xd (Wb (Wi false) (Wa Zl (Za (Ya 1) Xa)) (tCD (.int 0)))) (Xd (Wb (Wi false) (Ya 6) (tCD (.int 0))))) (Zf (kH (Wb wD (Ya 1) (Y1 (jg (Za (jf (Za (tCD (.int 3)) (Za (tCD (.str "a")) (Za (jg Xa) Xa)))) Xa)) jA (wH (Ya 6)))))) vd)
 (Zc (jc (Wa ja (Za (Ya 0) (Za (Wa Zl (Za (Ya 1) Xa)) Xa))) (Zb 7))
 (Zc (jc (Wb Zh (Ya 1) (Ya 7)) (jl 3 (qc (Zb 3) (qc (Zb 4) (qc (Zb 5) Xj)))))
 (Zc (jc (Wb Zh (Wb wD (Ya 2) (jg (Za (tCD (.str "zz")) Xa))) (Wa ja (Za (Ya 0) (Za (Wb vh (Wa Zl (Za (Ya 2) Xa)) (tCD (.int 1))) Xa)))) (Zb 8))
 (Zc (we (Xd (Wb (Wi false) (Ya 6) (tCD (.int 1)))) (kh (kG (Ya 5) (Wa ja (Za (Ya 0) (Za (Wb vh (Wa Zl (Za (Ya 5) Xa)) (tCD (.int 1))) Xa))) (Ya 8))) vd)
 (Zc (we (Xd (Wb (Wi false) (Ya 6) (tCD (.int 2)))) (jc (jf (Za (Ya 3) (Za (Ya 4) (Za (kA (Wb wD (Ya 5) (jg (Za (Ya 8) Xa)))) Xa)))) (kz (Ya 1) (Ya 7))) vd)
 (Zc (we (Wz (Xd (Wb (Wi false) (Ya 6) (tCD (.int 3)))) (Xd (Wb wF (Wa Zl (Za (Ya 5) Xa)) (tCD (.int 0))))) (kh (kP (Ya 5) (Wa ja (Za (Ya 0) (Za (Wa Zl (Za (Ya 5) Xa)) Xa))))) vd)
 (Zc (we (Xd (Wb (Wi false) (Ya 6) (tCD (.int 4)))) (kh (W3 (Ya 5))) vd)
 (Zc (we (Xd (Wb (Wi false) (Ya 6) (tCD (.int 5)))) (kh (kP (Ya 1) (Ya 7))) vd)
 (Zc (we (Xd (Wb (Wi false) (Ya 6) (tCD (.int 6)))) (kh (kG (Ya 1) (Ya 7) (jf (Za (Ya 3) (Za (Ya 4) (Za (jg Xa) Xa)))))) vd)
 (Zc (we (Xd (Wb (Wi false) (Ya 6) (tCD (.int 7)))) (jc (jf (Za (Wb vh (Ya 3) (tCD (.int 1))) (Za (Ya 4) (Za (Ya 5) Xa)))) (kz (Ya 1) (Ya 7))) vd)
 (Zc (we (Xd (Wb (Wi false) (Ya 6) (tCD (.int 8)))) (jc (Wb Zh (Ya 1) (Wa ja (Za (Ya 0) (Za (Wa Zl (Za (Ya 1) Xa)) Xa)))) (kz (Ya 1) (Ya 7))) vd)
 (Zf (kH (Ya 1)))))))))))))))))
def ZS:TSD:=
 (Zf (kC 6 (qj (Ya 0)) (jl 5 (qc (Zb 0) (qc (Zb 1) (qc (Zb 2) (qc (Zb 3) (qc (Zb 4) Xj)))))) (Za (Ya 1) (Za (Wb vh (Ya 2) (tCD (.int 1))) Xa)) (Zb 5) (jf (Za (Ya 5) (Za (Ya 0) Xa))) (Ya 3)))
def jag:TSD:=
 (Zf (Wa vak (Za (Xm 2 (qj (wJ (Ya 0) (Ya 1) (jg Xa))) (jl 2 (qc (Zb 0) (qc (Zb 1) Xj))) Xp (kQ Yam Yam (Ya 0) (Ya 4) (Ya 1))) Xa)))
def jR(Zz:SpD):TSD:=
 (Zf (kC 6 (qj (Ya 0)) (jl 5 (qc (Zb 0) (qc (Zb 1) (qc (Zb 2) (qc (Zb 3) (qc (Zb 4) Xj)))))) (Za (Ya 1) (Za (Wb vh (Ya 2) (tCD (.int 1))) Xa)) (Zb 5) (jf (Za (Ya 5) (Za (Ya 0) Xa))) (vH 1 (qah (Ya 4)) (Zb 0) (vG (jx (Wa Zz (Za (Ya 8) (Za (Ya 0) (Za (Ya 6) Xa)))))) (Ya 0))))
def qO:TSD:=
 (Zf (jy (Wb (Wi false) (Ya 0) (kA (Ya 0))) (jy (Wb Yam (Wa Zl (Za (Ya 0) Xa)) (Ya 1)) (Wa qab (Za (Xm 1 (qj (Ya 0)) (Zb 0) Xp (Wb (WQ false) (Ya 0) (Ya 3))) Xa)))))
def X2:TSD:=
 (Zc (jc ZN (Zb 1))
 (Zc (Yv (qj (Ya 0)) (jl 3 (qc (Zb 2) (qc (Zb 3) (qc (Zb 4) Xj)))) (Yv (qj (Ya 4)) (Zb 5) (kh (ww (qX (Ya 1) (Ya 5) (jg Xa)) (Ya 2)))))
 (Zf (YV (Ya 1)))))
def YT(qt Zu Zs Wy:SpD):TSD:=
 (Zc (jc (Wa qt (Za (Ya 0) Xa)) (Zb 4))
 (Zc (jc (Wa Zu (Za (Ya 0) (Za (Ya 2) Xa))) (Zb 5))
 (Zc (we (Xd (Wb (Wi true) (Xm 3 (qj (Ya 3)) (jl 3 (qc (Zb 0) (qc (Zb 1) (qc (Zb 2) Xj)))) Xp (jf (Za (Ya 0) (Za (Ya 1) Xa)))) (Wa YO (Za (Ya 4) Xa)))) (Zf (tCD (.bl false))) vd)
 (Zc (we (vG (jx (Wa qab (Za (Xm 3 (qj (Ya 3)) (jl 3 (qc (Zb 0) (qc (Zb 1) (qc (Zb 2) Xj)))) Xp (Wa Zs (Za (Ya 2) (Za (kK (Ya 7) (jf (Za (Ya 0) (Za (Ya 1) Xa)))) (Za (kK (Ya 8) (jf (Za (Ya 0) (Za (Ya 1) Xa)))) Xa))))) Xa)))) (Zf (tCD (.bl false))) vd)
 (Zf (Wa qab (Za (Xm 2 (jF (Wa Wy (Za (Ya 3) Xa))) (jl 2 (qc (Zb 0) (qc (Zb 1) Xj))) Xp (jy (Wb (Wi false) (ZF (Ya 1)) (Wa Zl (Za (Ya 1) Xa))) (Wb Yam (Wa Zl (Za (Ya 1) Xa)) (Xy (Ya 3) (Ya 0))))) Xa)))))))
def ZJ(Xn Xl:SpD):TSD:=
 (Zc (jc (Wa Xn (Za (Ya 0) Xa)) (Zb 4))
 (Zc (we (Xd (Wb (Wi true) (Xm 1 (qj (Ya 3)) (Zb 0) Xp (jf (Za (Wb Zh (Ya 0) (tCD (.int 0))) (Za (Wb Zh (Ya 0) (tCD (.int 1))) Xa)))) (Xm 1 (qj (Ya 4)) (Zb 0) Xp (jf (Za (Wb Zh (Ya 0) (tCD (.int 0))) (Za (Wb Zh (Ya 0) (tCD (.int 1))) Xa)))))) (Zf (tCD (.bl false))) vd)
 (Zc (jc (Wa ZI (Za (Ya 1) Xa)) (Zb 6))
 (Zc (jc YK (Zb 7))
 (Zc (Yv (jae (Za (Ya 3) (Za (Ya 4) Xa))) (jl 2 (qc (jl 3 (qc (Zb 8) (qc (Zb 9) (qc (Zb 10) Xj)))) (qc (Zb 5) Xj))) (Zc (we (kD (Xd (Wb wF (Wa Zl (Za (Ya 10) Xa)) (Wb Zh (Ya 5) (tCD (.int 2))))) (kD (Xd (Wb (Wi true) (Wa Wu (Za (Ya 10) Xa)) (Ya 10))) (Xd (Wb qav (ZF (Ya 10)) (Wa Zl (Za (Ya 10) Xa)))))) (Zf (tCD (.bl false))) vd)
 (Yv (qj (Ya 10)) (Zb 11) (Zc (we (kD (Xd (Wb (WQ true) (Ya 11) (Wb Zh (Ya 5) (tCD (.int 3))))) (Xd (WA false (jf (Za (Ya 11) (Za (Ya 8) Xa))) (Ya 7)))) (Zf (tCD (.bl false))) vd)
 (Zc (we (kD (jx (Wa Xl (Za (Ya 2) (Za (Ya 11) (Za (Ya 8) Xa))))) (Xd (Wb qav (Xy (Ya 6) (Ya 11)) (tCD (.int 1))))) (Zf (tCD (.bl false))) vd)
 (Zc (ZD (Ya 7) (jf (Za (Ya 11) (Za (Ya 8) Xa))) (tCD (.bl true)))
 (qv (Ya 6) (Ya 11) (Wb jP (Xy (Ya 6) (Ya 11)) (tCD (.int 1))))))))))
 (Zf (tCD (.bl true))))))))
def XaT(qu kr Xq ja qi vo jm:SpD):TSD:=
 (Zc (jc (Wa qu (Za (Ya 0) Xa)) (Zb 1))
 (Zc (jc (Wa kr (Za (Ya 1) Xa)) (jl 3 (qc (Zb 2) (qc (Zb 3) (qc (Zb 4) Xj)))))
 (Zc (jc (Wa Xq (Za (Ya 1) (Za (Ya 2) (Za (Ya 3) (Za (Ya 4) Xa))))) (Zb 5))
 (Zc (XH (kB (Za (Wa ja (Za (Ya 1) (Za (tCD (.int 3)) Xa))) Xa)) (Zb 6) (jc (Wa qi (Za (Ya 1) (Za (Ya 5) (Za (Wa Wu (Za (Wa wS (Za (Ya 3) Xa)) Xa)) Xa)))) (Zb 5)))
 (Zc (jc (Xm 3 (qj (Ya 5)) (jl 3 (qc (Zb 0) (qc (Zb 1) (qc (Zb 2) Xj)))) Xp (jf (Za (Ya 0) (Za (Ya 1) (Za (Wa qz (Za (Ya 2) Xa)) Xa))))) (Zb 7))
 (Zc (jc (jf (Za (Wa qz (Za (Ya 2) Xa)) (Za (Wa ZI (Za (Ya 3) Xa)) (Za (Wa YR (Za (Xm 2 (jF (Ya 4)) (jl 2 (qc (Zb 0) (qc (Zb 1) Xj))) Xp (jf (Za (Ya 0) (Za (Wa qz (Za (Ya 1) Xa)) Xa)))) Xa)) Xa)))) (Zb 8))
 (Zc (jc (Wa vo (Za (Wb Zh (Ya 8) (tCD (.int 0))) (Za (Wb Zh (Ya 8) (tCD (.int 1))) (Za (Wb Zh (Ya 8) (tCD (.int 2))) (Za (Ya 7) Xa))))) (Zb 9))
 (Zc (we (kD (vG (jx (Wa vaE (Za (Ya 9) (Za (tCD (.ty "bool")) Xa))))) (kD (Xd (Wb (Wi true) (Ya 7) (Ya 5))) (Xd (Wb XM (Ya 8) (jf (Za (Ya 2) (Za (Ya 3) (Za (Ya 4) Xa)))))))) (Zf (tCD (.bl false))) vd)
 (Zf (Wb (Wi false) (Ya 9) (Wa jm (Za (Ya 2) (Za (Ya 3) (Za (Ya 4) (Za (Ya 5) Xa)))))))))))))))
inductive Sh:List Bool->List D->Prop
 | nil:Sh [] []
 | int {s r} (i:Int):Sh s r->Sh (true::s) (.int i::r)
 | str {s r} (x:Str):Sh s r->Sh (false::s) (.str x::r)
theorem eqI(a b:Int):eqD (.int a) (.int b)=decide (a=b):=by
 unfold eqD
 by_cases z:a=b<;>simp[z]
theorem eqS(a b:Str):eqD (.str a) (.str b)=decide (a=b):=by
 unfold eqD
 by_cases z:a=b<;>simp[z]
theorem Xbh{a b:Str}(h:a.cps.toList=b.cps.toList):a=b:=by
 cases a;cases b
 simp only[Str.mk.injEq]
 exact Array.toList_inj.mp h
theorem wK(i j:Int)(r s:List D):ltT (.int i::r) (.int j::s)=if i=j then ltT r s else decide (i<j):=by
 rw[ltT,eqI]
 by_cases z:i=j
 ·rw[decide_eq_true z,if_pos rfl,if_pos z]
 ·rw[decide_eq_false z,if_neg (by decide),if_neg z];rfl
theorem jK(i j:Str)(r s:List D):ltT (.str i::r) (.str j::s)=if i=j then ltT r s else decide (i.cps.toList<j.cps.toList):=by
 rw[ltT,eqS]
 by_cases z:i=j
 ·rw[decide_eq_true z,if_pos rfl,if_pos z]
 ·rw[decide_eq_false z,if_neg (by decide),if_neg z];rfl
theorem Xan:∀{s:List Bool} {a:List D},Sh s a->ltT a a=false
 | _,_,.nil=>rfl
 | _,_,.int i h=>by rw[wK,if_pos rfl];exact Xan h
 | _,_,.str x h=>by rw[jK,if_pos rfl];exact Xan h
theorem jbl(a b:List Nat):a<b\/a=b\/b<a:=by
 by_cases h1:a<b
 ·exact .inl h1
 ·by_cases h2:b<a
  ·exact .inr (.inr h2)
  ·exact .inr (.inl (List.le_antisymm (List.not_lt.mp h2) (List.not_lt.mp h1)))
theorem XaE:∀{s:List Bool} {a b c:List D},Sh s a->Sh s b->Sh s c->ltT a b=true->ltT b c=true->ltT a c=true
 | _,_,_,_,.nil,.nil,.nil,h,_=>h
 | _,_,_,_,.int i h1,.int j h2,.int k h3,p,q=>by
  rw[wK]at p q ⊢
  by_cases e1:i=j
  ·rw[if_pos e1]at p
   by_cases e2:j=k
   ·rw[if_pos e2]at q;rw[if_pos (e1.trans e2)];exact XaE h1 h2 h3 p q
   ·rw[if_neg e2]at q;rw[if_neg (by lia),e1];exact q
  ·rw[if_neg e1]at p
   have p:=of_decide_eq_true p
   by_cases e2:j=k
   ·rw[if_neg (by lia)];exact decide_eq_true (by lia)
   ·rw[if_neg e2]at q
    have q:=of_decide_eq_true q
    rw[if_neg (by lia)];exact decide_eq_true (by lia)
 | _,_,_,_,.str i h1,.str j h2,.str k h3,p,q=>by
  rw[jK]at p q ⊢
  by_cases e1:i=j
  ·rw[if_pos e1]at p
   by_cases e2:j=k
   ·rw[if_pos e2]at q;rw[if_pos (e1.trans e2)];exact XaE h1 h2 h3 p q
   ·rw[if_neg e2]at q;rw[if_neg (by rw[e1];exact e2),e1];exact q
  ·rw[if_neg e1]at p
   have p:=of_decide_eq_true p
   by_cases e2:j=k
   ·rw[←e2,if_neg e1];exact decide_eq_true p
   ·rw[if_neg e2]at q
    have q:=of_decide_eq_true q
    have pq:=List.lt_trans p q
    rw[if_neg (fun z=>by rw[z]at pq;exact List.lt_irrefl _ pq)];exact decide_eq_true pq
theorem Yak:∀{s:List Bool} {a b:List D},Sh s a->Sh s b->ltT a b=false->ltT b a=false->a=b
 | _,_,_,.nil,.nil,_,_=>rfl
 | _,_,_,.int i h1,.int j h2,p,q=>by
  rw[wK]at p q
  by_cases e:i=j
  ·rw[if_pos e]at p;rw[if_pos e.symm]at q
   rw[e,Yak h1 h2 p q]
  ·rw[if_neg e]at p;rw[if_neg (Ne.symm e)]at q
   have:=of_decide_eq_false p
   have:=of_decide_eq_false q
   lia
 | _,_,_,.str i h1,.str j h2,p,q=>by
  rw[jK]at p q
  by_cases e:i=j
  ·rw[if_pos e]at p;rw[if_pos e.symm]at q
   rw[e,Yak h1 h2 p q]
  ·rw[if_neg e]at p;rw[if_neg (Ne.symm e)]at q
   have p:=of_decide_eq_false p
   have q:=of_decide_eq_false q
   rcases jbl i.cps.toList j.cps.toList with z | z | z
   ·exact absurd z p
   ·exact absurd (Xbh z) e
   ·exact absurd z q
theorem Yaj:∀{s:List Bool} {a b:List D},Sh s a->Sh s b->jB a b=true
 | _,_,_,.nil,.nil=>by unfold jB;rfl
 | _,_,_,.int i h1,.int j h2=>by
  rw[jB,Yaj h1 h2]
  simp[okD,W8]
 | _,_,_,.str i h1,.str j h2=>by
  rw[jB,Yaj h1 h2]
  simp[okD,W8]
theorem Yaw:∀{s:List Bool} {a:List D},Sh s a->Xh a=0
 | _,_,.nil=>by unfold Xh;rfl
 | _,_,.int i h=>by rw[Xh,Yaw h];rfl
 | _,_,.str i h=>by rw[Xh,Yaw h];rfl
theorem ka4{α:Type}{f:α->List D}{s:List Bool}(h:∀a,Sh s (f a))(inj:∀a b,f a=f b->a=b):Zv fun a b=>ltD (.tup (f a)) (.tup (f b)):=
 ⟨fun a=>Xan (h a),fun a b c p q=>XaE (h a) (h b) (h c) p q,fun a b p q=>inj a b (Yak (h a) (h b) p q)⟩
theorem Ybh(a b:Str):ltD (.tup [.str a]) (.tup [.str b])=sLt a b:=by
 show ltT [.str a] [.str b]=_
 rw[jK]
 show _=ltF (.str a) (.str b)
 by_cases z:a=b
 ·rw[if_pos z,z]
  show ltT [] []=decide (b.cps.toList<b.cps.toList)
  rw[decide_eq_false (List.lt_irrefl _)];rfl
 ·rw[if_neg z];rfl
theorem jv:Zv sLt:=by
 have h:=ka4 (α:=Str) (f:=fun a=>[.str a]) (s:=[false]) (fun a=>.str _ .nil) fun a b e=>by
  have:=List.head_eq_of_cons_eq e
  injection this
 have e:(fun a b:Str=>ltD (.tup [.str a]) (.tup [.str b]))=sLt:=by funext a b;exact Ybh a b
 rw[e]at h
 exact h
section
variable {α:Type} {lt:α->α->Bool}
theorem XN(L:Zv lt):∀{as bs:List α},as.Perm bs->as.Pairwise (fun a b=>lt b a=false)->bs.Pairwise (fun a b=>lt b a=false)->as=bs
 | [],bs,p,_,_=>(List.nil_perm.mp p).symm
 | a::as,[],p,_,_=>absurd p.length_eq (by simp)
 | a::as,b::bs,p,h1,h2=>by
  rw[List.pairwise_cons]at h1 h2
  have e:a=b:=by
   have m1:a∈b::bs:=p.mem_iff.mp uc
   have m2:b∈a::as:=p.mem_iff.mpr uc
   rcases uZ.mp m1 with z | z
   ·exact z
   ·rcases uZ.mp m2 with y | y
    ·exact y.symm
    ·exact L.tot a b (h2.1 a z) (h1.1 b y)
  subst e
  rw[XN L (List.Perm.cons_inv p) h1.2 h2.2]
def Strict(lt:α->α->Bool)(as:List α):Prop:=as.Pairwise (fun a b=>lt a b=true)
theorem Strict.srt(L:Zv lt){as:List α}(h:Strict lt as):as.Pairwise (fun a b=>lt b a=false):=h.imp fun {a b} q=>by
 cases z:lt b a with
 | false=>rfl
 | true=>have:=L.tr a b a q z;rw[L.irr]at this;cases this
theorem Strict.nodup(L:Zv lt){as:List α}(h:Strict lt as):as.Nodup:=h.imp fun {a b} q e=>by rw[e,L.irr]at q;cases q
theorem Xaq(L:Zv lt){as:List α}(h:as.Pairwise (fun a b=>lt b a=false))(n:as.Nodup):Strict lt as:=by
 unfold Strict
 have:=h.and n
 exact this.imp fun {a b} q=>by
  cases z:lt a b with
  | true=>rfl
  | false=>exact absurd (L.tot a b z q.1) q.2
theorem ZW [DecidableEq α]:∀{as bs:List α},as.Nodup->bs.Nodup->(∀x,x∈as↔x∈bs)->as.Perm bs:=fun {as bs} h1 h2 h=>
 (List.perm_ext_iff_of_nodup h1 h2).mpr h
theorem Xbi [DecidableEq α] (L:Zv lt){ns ms:List α}(nd:ms.Nodup)(me:∀x,x∈ms↔x∈ns)(so:ms.Pairwise (fun a b=>lt b a=false)):ns=ms↔Strict lt ns:=
 ⟨fun e=>by rw[e];exact Xaq L so nd,fun h=>XN L (ZW (h.nodup L) nd fun x=>(me x).symm) (h.srt L) so⟩
theorem wZ [DecidableEq α]:∀{ns ms:List α},ms.Nodup->(∀x∈ms,x∈ns)->ns.length<=ms.length->ns.Nodup
 | [],_,_,_,_=>xR
 | a::r,ms,nd,su,hl=>by
  rw[uj]at hl
  by_cases ha:a∈r
  ·have:=wn nd (m:=r) fun x hx=>(uZ.mp (su x hx)).elim (fun e=>e▸ha) id
   lia
  ·refine uv.mpr ⟨ha,wZ (ms:=ms.erase a) (nd.erase a) (fun x hx=>?_) ?_⟩
   ·have h1:=(nd.mem_erase_iff).mp hx
    exact(uZ.mp (su x h1.2)).elim (fun e=>absurd e h1.1) id
   ·have:=List.length_erase (a:=a) (l:=ms)
    split at this<;>lia
theorem XY [DecidableEq α] {ns ms:List α}(nd:ms.Nodup)(me:∀x,x∈ms↔x∈ns)(hl:ns.length<=ms.length):ns.Nodup:=wZ nd (fun x hx=>(me x).mp hx) hl
theorem X1 [DecidableEq α] {ns ms:List α}(nd:ms.Nodup)(me:∀x,x∈ms↔x∈ns)(h:ns.Nodup):ms.length=ns.length:=(ZW nd h me).length_eq
end
local macro_rules | `(tactic| walk_at "st1") => `(tactic| first
 | refine vS ?_
 | refine YaF ?_
 | refine jj ?_
 | refine W5 ?_
 | refine X9 ?_
 | refine YC rfl ?_
 | refine kae ?_
 | refine kag (by first | exact .inl ⟨by decide, by decide⟩ | exact .inr ⟨by decide, by decide⟩ | exact ⟨by decide, by decide⟩ | (show (0 : Int) < _; first | decide | lia) | exact .inl ⟨by lia, by lia⟩ | (constructor <;> lia)) ?_
 | refine WT ?_
 | refine qa2 ?_
 | refine Yae ?_
 | refine XaJ ?_
 | refine jaM ?_
 | refine Z1 ?_
 | refine Ybe ?_
 | refine qa3 ?_
 | refine qak rfl ?_
 | refine kE ?_
 | refine Xal ?_
 | refine XaM ?_
 | refine ja1 ?_
 | refine rd_neg ?_
 | refine qae ?_
 | refine vaJ ?_
 | refine rd_notV ?_
 | refine rd_mx ?_
 | refine vam ?_
 | refine WZ ?_
 | refine Xax ?_
 | refine vaz ?_
 | refine WL ?_
 | refine WH ?_
 | refine jaj ?_
 | refine Zo ?_
 | refine qam ?_
 | refine qaU ?_
 | refine Z2 ?_
 | refine Yai ?_
 | refine Wak ?_
 | refine kaD ?_
 | refine qaJ ?_
 | refine WaE ?_
 | refine kaz ?_
 | refine rd_ienum ?_
 | refine qaK ?_
 | refine vaM ?_
 | refine WaW ?_
 | refine rd_lstRng ?_
 | refine rd_din ?_
 | refine waL ?_
 | refine rd_compDc ?_
 | refine rd_izts ?_
 | refine rd_lstZip ?_
 | refine rd_irev ?_
 | refine rd_sortLam ?_
 | refine rd_ifE ?_
 | refine Ybq ?_
 | refine Xbm ?_
 | refine Wbk ?_
 | refine ja5 ?_
 | refine ZaY ?_
 | refine XaW ?_
 | refine wbo ?_
 | refine qbf ?_
 | refine Ya7 ?_
 | refine va7 ?_
 | refine kaX ?_
 | refine Wa2 ?_
 | refine YaH ?_
 | refine vbl ?_
 | refine Wbj ?_
 | refine Zbh ?_
 | refine qax ?_
 | refine qbk ?_
 | refine qa9 ?_
 | refine Xbk ?_
 | refine rd_isN ?_
 | refine rd_isB ?_
 | refine ⟨qb (yP rfl), ?_⟩
 | refine Xai ?_
 | refine X8 ?_
 | refine Y8 ?_
 | refine vq rfl rfl ?_
 | refine jr rfl ?_
 | refine ⟨_, rfl, ?_⟩)
structure Sho where
 nm:Str
 b:Int
 l:Int
 sz:Int
 th:List Str
noncomputable def qf(s:Sho):D:=.tup [.str s.nm,.int s.b,.int s.l,.int s.sz,.tup (s.th.map D.str)]
noncomputable def Zt(s:Sho):Nat:=(s.l+1 - s.b).toNat
noncomputable abbrev Wq:=Int×Str
noncomputable def spL(a:Wq):List D:=[.int a.1,.str a.2]
noncomputable def ZG(a:Wq):D:=.tup (spL a)
noncomputable def Yx(a:Wq):Yf:=[.inl a.1,.inr a.2]
noncomputable def vn(s:Sho)(n:Nat):List (Wq×Sho):=(xC n).map fun(j:Nat)=>((s.b+(j:Int),s.nm),s)
noncomputable def ki(ss:List Sho):List (Wq×Sho):=ss.flatMap fun s=>vn s (Zt s)
structure GSh(ss:List Sho):Prop where
 ln:ss.length<=8
 nd:(ss.map (·.nm)).Nodup
 dy:∀s∈ss,0<=s.b/\s.b<=1000000000/\s.b<=s.l/\s.l<=s.b+29
 sz:∀s∈ss,1<=s.sz/\s.sz<=12
 th:∀s∈ss,s.th.length<=12
noncomputable abbrev Lvs:=List (Str×List (Int×Int))
noncomputable def jM(x:Int×Int):D:=.tup [.int x.1,.int x.2]
noncomputable def kg(lv:Lvs):List (Key×D):=lv.map fun p=>(.inr p.1,.lst (p.2.map jM))
noncomputable def YM(lv:Lvs)(n:Str):List (Int×Int):=((lv.find? fun p=>decide (p.1=n)).map (·.2)).getD []
noncomputable def aw(lv:Lvs)(n:Str)(d:Int):Bool:=(YM lv n).any fun x=>decide (x.1<=d)&&decide (d<=x.2)
def GLv(lv:Lvs):Prop:=∀p∈lv,p.2.length<=100
theorem qaW(lv:Lvs)(n:Str):(Wr (kg lv) (.inr n)).getD (.lst [])=.lst ((YM lv n).map jM):=by
 unfold YM kg
 induction lv with
 | nil=>rfl
 | cons p lv ih=>
  rw[uH]
  by_cases z:p.1=n
  ·rw[ZO (by simp[z])]
   simp[uq,z]
  ·rw[WM (by simp;exact z),ih]
   simp[uq,z]
theorem qaZ{lv:Lvs}(h:GLv lv)(n:Str):(YM lv n).length<=100:=by
 unfold YM
 cases q:lv.find? fun p=>decide (p.1=n) with
 | none=>exact ua _
 | some p=>exact h p (yB q)
def Zz:SpD:=fun ds M Q=>∃(d:D) (lv:Lvs) (n:Str) (day:Int),ds=[d,.str n,.int day]/\dcD d M=some (kg lv)/\GLv lv/\Q (.bl (aw lv n day)) M
theorem jaH(ds:List D)(M:HpD)(Q:KD)(h:Zz ds M Q):jag {nx:=fun _ M'=>Q .non M',rt:=Q} (Zg ["leaves","thing","day"] ds) M:=by
 obtain⟨d,lv,n,day,rfl,hd,gl,h⟩:=h
 unfold jag
 walk_at "st"
 refine⟨⟨_,hd⟩,?_⟩
 walk_at "st"
 refine Xg (qb (ua _)) ?_
 refine⟨_,.inr n,hd,rfl,?_⟩
 rw[qaW]
 have hl:=qaZ gl n
 refine⟨_,rfl,qb (by rw[uA];lia),fun i ys σ M'=>∃(v0 v1:Option D),M'=M/\σ=[v0,v1,some d,some (.str n),some (.int day)]/\ys=(((YM lv n).take i).map fun x=>decide (x.1<=day)&&decide (day<=x.2)).map D.bl,⟨_,_,rfl,rfl,by simp⟩,fun _ _ _ _ _=>rfl,?_,?_⟩
 ·rintro i y ys σ M' e ⟨v0,v1,rfl,rfl,rfl⟩
  rw[uG]at e
  obtain⟨x,ex,rfl⟩:=uV.mp e
  unfold jM
  have tk:(YM lv n).take (i+1)=(YM lv n).take i++[x]:=by rw[ud,ex];rfl
  walk_at "st"
  cases q:decide (x.1<=day) with
  | true=>
   rw[if_pos rfl]
   walk_at "st"
   exact⟨_,_,rfl,rfl,by rw[tk];simp[q]⟩
  | false=>
   rw[if_neg (by decide)]
   exact⟨_,_,rfl,rfl,by rw[tk];simp[q]⟩
 ·rintro ys σ M' ⟨v0,v1,rfl,rfl,rfl⟩
  rw[uA,ug]
  refine Xg (qb (by rw[uA,uA];lia)) ?_
  walk_at "st"
  refine Xa4 rfl (Or.inl ?_)
  rw[List.any_map]
  exact h
def Xl:SpD:=Zz
theorem YaA(ds:List D)(M:HpD)(Q:KD)(h:Xl ds M Q):j7 {nx:=fun _ M'=>Q .non M',rt:=Q} (Zg ["_law_leaves_here","_law_name","_law_day_here"] ds) M:=by
 obtain⟨d,lv,n,day,rfl,hd,gl,h⟩:=h
 unfold j7
 walk_at "st"
 refine⟨⟨_,hd⟩,?_⟩
 walk_at "st"
 refine Xg (qb (ua _)) ?_
 refine⟨_,.inr n,hd,rfl,?_⟩
 rw[qaW]
 have hl:=qaZ gl n
 refine⟨_,rfl,qb (by rw[uA];lia),fun i ys σ M'=>∃(v0 v1:Option D),M'=M/\σ=[v0,v1,some d,some (.str n),some (.int day)]/\ys=(((YM lv n).take i).map fun x=>decide (x.1<=day)&&decide (day<=x.2)).map D.bl,⟨_,_,rfl,rfl,by simp⟩,fun _ _ _ _ _=>rfl,?_,?_⟩
 ·rintro i y ys σ M' e ⟨v0,v1,rfl,rfl,rfl⟩
  rw[uG]at e
  obtain⟨x,ex,rfl⟩:=uV.mp e
  unfold jM
  have tk:(YM lv n).take (i+1)=(YM lv n).take i++[x]:=by rw[ud,ex];rfl
  walk_at "st"
  cases q:decide (x.1<=day) with
  | true=>
   rw[if_pos rfl]
   walk_at "st"
   exact⟨_,_,rfl,rfl,by rw[tk];simp[q]⟩
  | false=>
   rw[if_neg (by decide)]
   exact⟨_,_,rfl,rfl,by rw[tk];simp[q]⟩
 ·rintro ys σ M' ⟨v0,v1,rfl,rfl,rfl⟩
  rw[uA,ug]
  refine Xg (qb (by rw[uA,uA];lia)) ?_
  walk_at "st"
  refine Xa4 rfl (Or.inl ?_)
  rw[List.any_map]
  exact h
theorem Yaa{β:Type}{kvs:List (Yf×β)}{k:Yf}{v:β}(h:∀kv∈kvs,kv.1≠k):kL kvs k v=kvs++[(k,v)]:=by
 unfold kL
 rw[if_neg]
 intro z
 obtain⟨kv,m,e⟩:=yV.mp z
 exact h kv m (of_decide_eq_true e)
theorem qay{a b:Wq}(h:Yx a=Yx b):a=b:=by
 unfold Yx at h
 injection h with h1 h2
 injection h2 with h2 _
 injection h1 with h1
 injection h2 with h2
 exact Prod.ext h1 h2
theorem vT{ss:List Sho}{i:Nat}{s:Sho}(e:ss[i]?=some s):ki (ss.take (i+1))=ki (ss.take i)++vn s (Zt s):=by
 rw[ud,e]
 unfold ki
 simp[yZ]
theorem kap(s:Sho)(n:Nat):vn s (n+1)=vn s n++[((s.b+(n:Int),s.nm),s)]:=by
 unfold vn
 rw[List.range_succ,uN];rfl
theorem WN{s:Sho}{n:Nat}{x:Wq×Sho}(h:x∈vn s n):x.2=s/\x.1.2=s.nm/\∃j,j<n/\x.1.1=s.b+(j:Int):=by
 unfold vn at h
 obtain⟨j,hj,rfl⟩:=uS.mp h
 exact⟨rfl,rfl,j,xf.mp hj,rfl⟩
theorem vZ{ss:List Sho}{x:Wq×Sho}(h:x∈ki ss):∃s∈ss,x∈vn s (Zt s):=by
 unfold ki at h
 exact List.mem_flatMap.mp h
theorem wy{ss:List Sho}(g:GSh ss){s:Sho}(h:s∈ss):Zt s<=30:=by
 have:=g.dy s h
 unfold Zt;lia
theorem qA{ss:List Sho}(h:∀s∈ss,Zt s<=30):(ki ss).length<=30*ss.length:=by
 induction ss with
 | nil=>exact uJ _
 | cons s ss ih=>
  have h1:=ih fun x hx=>h x (uW _ hx)
  have h2:=h s uc
  have:ki (s::ss)=vn s (Zt s)++ki ss:=by unfold ki;simp
  rw[this,uE,uj]
  have:(vn s (Zt s)).length=Zt s:=by unfold vn;simp
  lia
theorem XaA{ss:List Sho}(g:GSh ss){i:Nat}{s:Sho}(e:ss[i]?=some s){j:Nat}{f:Wq×Sho->D}:∀kv∈(ki (ss.take i)++vn s j).map (fun p=>(Yx p.1,f p)),kv.1≠Yx (s.b+(j:Int),s.nm):=by
 intro kv hkv z
 obtain⟨p,hp,rfl⟩:=uS.mp hkv
 have e1:=qay z
 rcases uQ.mp hp with h | h
 ·obtain⟨s',hs',hx⟩:=vZ h
  obtain⟨_,h2,_⟩:=WN hx
  have e2:s'.nm=s.nm:=by rw[←h2,e1]
  have hi:i<ss.length:=(uO.mp e).1
  obtain⟨k,hk,rfl⟩:=uu hs'
  rw[uX]at hk
  have hs:s=ss[i]:=by rw[uB hi]at e;exact(Option.some.inj e).symm
  rw[yA,hs]at e2
  have nd:=g.nd
  have:=(xy.mp nd)
  rw[xH]at this
  have:=this k i (by rw[uA];lia) (by rw[uA];exact hi) (by lia)
  rw[xc,xc]at this
  exact this e2
 ·obtain⟨_,_,k,hk,h3⟩:=WN h
  have:p.1.1=s.b+(j:Int):=by rw[e1]
  lia
noncomputable def kF(ss:List Sho):List (Yf×D):=(ki ss).map fun p=>(Yx p.1,.int p.2.sz)
def qt:SpD:=fun ds M Q=>∃(d:D) (ss:List Sho),ds=[d]/\Zd d M=some (ss.map qf)/\GSh ss/\∀q,M q=none->Q (.ref q) (wc M q (.dtt (kF ss)))
theorem Zag(ds:List D)(M:HpD)(Q:KD)(h:qt ds M Q):ZS {nx:=fun _ M'=>Q .non M',rt:=Q} (Zg ["shows"] ds) M:=by
 obtain⟨d,ss,rfl,hd,g,h⟩:=h
 unfold ZS
 walk_at "st"
 refine⟨_,hd,fun i ys σ M'=>∃v0 v1 v2 v3 v4 v5:Option D,M=M'/\σ=[v0,v1,v2,v3,v4,v5,some d]/\ys=(ki (ss.take i)).map fun p=>(Yx p.1,.int p.2.sz),⟨_,_,_,_,_,_,rfl,rfl,rfl⟩,fun i ys σ M' z=>by obtain⟨_,_,_,_,_,_,rfl,_⟩:=z;exact hd,?_,?_⟩
 ·rintro i y ys σ M' e ⟨v0,v1,v2,v3,v4,v5,rfl,rfl,rfl⟩
  rw[uG]at e
  obtain⟨s,es,rfl⟩:=uV.mp e
  have hs:s∈ss:=uF es
  obtain⟨d0,d1,d2,d3⟩:=g.dy s hs
  unfold qf
  walk_at "st"
  refine⟨s.b,s.l+1,rfl,⟨by lia,by lia,by lia,by lia⟩,fun j zs σ M'=>∃v5:Option D,M=M'/\σ=[some (.str s.nm),some (.int s.b),some (.int s.l),some (.int s.sz),some (.tup (s.th.map D.str)),v5,some d]/\zs=(ki (ss.take i)++vn s j).map fun p=>(Yx p.1,.int p.2.sz),⟨_,rfl,rfl,by unfold vn;simp⟩,?_,?_⟩
  ·rintro j zs σ M' hj ⟨v5,rfl,rfl,rfl⟩
   have hn:=wy g hs
   walk_at "st"
   refine⟨Yx (s.b+(j:Int),s.nm),rfl,?_,?_⟩
   ·have h1:=qA (ss:=ss.take i) fun x hx=>wy g (xF hx)
    have h2:(vn s j).length=j:=by unfold vn;simp
    have h3:(ss.take i).length<=8:=by rw[uX];have:=g.ln;lia
    have hj':j<Zt s:=hj
    refine uP ?_ (qb (n:=1000) (by decide))
    rw[uA,uE,h2];lia
   ·refine⟨_,rfl,rfl,?_⟩
    rw[Yaa (XaA g es),kap,←uf]
    simp only[uN,uH,xl]
  ·rintro zs σ M' ⟨v5,rfl,rfl,rfl⟩
   exact⟨_,_,_,_,_,_,rfl,rfl,by rw[vT es];rfl⟩
 ·rintro ys σ M' ⟨v0,v1,v2,v3,v4,v5,rfl,rfl,rfl⟩ q hq
  rw[uA,ug]
  exact .inl (h q hq)
noncomputable def Z5(lv:Lvs)(p:Wq×Sho):List Str:=p.2.th.filter fun t=>!aw lv t p.1.1
noncomputable def ZK(lv:Lvs)(ss:List Sho):List (Yf×D):=(ki ss).map fun p=>(Yx p.1,.lst ((Z5 lv p).map D.str))
def Zu:SpD:=fun ds M Q=>∃(d e:D) (ss:List Sho) (lv:Lvs),ds=[d,e]/\Zd d M=some (ss.map qf)/\GSh ss/\dcD e M=some (kg lv)/\GLv lv/\∀q,M q=none->Q (.ref q) (wc M q (.dtt (ZK lv ss)))
theorem Xah(ds:List D)(M:HpD)(Q:KD)(h:Zu ds M Q):jR Zz {nx:=fun _ M'=>Q .non M',rt:=Q} (Zg ["shows","leaves"] ds) M:=by
 obtain⟨d,d2,ss,lv,rfl,hd,g,hlv,gl,h⟩:=h
 unfold jR
 walk_at "st"
 refine⟨_,hd,fun i ys σ M'=>∃v0 v1 v2 v3 v4 v5:Option D,M=M'/\σ=[v0,v1,v2,v3,v4,v5,some d,some d2]/\ys=(ki (ss.take i)).map fun p=>(Yx p.1,.lst ((Z5 lv p).map D.str)),⟨_,_,_,_,_,_,rfl,rfl,rfl⟩,fun i ys σ M' z=>by obtain⟨_,_,_,_,_,_,rfl,_⟩:=z;exact hd,?_,?_⟩
 ·rintro i y ys σ M' e ⟨v0,v1,v2,v3,v4,v5,rfl,rfl,rfl⟩
  rw[uG]at e
  obtain⟨s,es,rfl⟩:=uV.mp e
  have hs:s∈ss:=uF es
  obtain⟨e0,e1,e2,e3⟩:=g.dy s hs
  have ht:=g.th s hs
  unfold qf
  walk_at "st"
  refine⟨s.b,s.l+1,rfl,⟨by lia,by lia,by lia,by lia⟩,fun j zs σ M'=>∃v5:Option D,M=M'/\σ=[some (.str s.nm),some (.int s.b),some (.int s.l),some (.int s.sz),some (.tup (s.th.map D.str)),v5,some d,some d2]/\zs=(ki (ss.take i)++vn s j).map fun p=>(Yx p.1,.lst ((Z5 lv p).map D.str)),⟨_,rfl,rfl,by unfold vn;simp⟩,?_,?_⟩
  ·rintro j zs σ M' hj ⟨v5,rfl,rfl,rfl⟩
   have hn:=wy g hs
   walk_at "st"
   refine⟨qb (by rw[uA];lia),fun k ys σ M'=>∃v0:Option D,M=M'/\σ=[v0,some (.str s.nm),some (.int s.b),some (.int s.l),some (.int s.sz),some (.tup (s.th.map D.str)),some (.int (s.b+(j:Int))),some d,some d2]/\ys=((s.th.take k).filter fun t=>!aw lv t (s.b+(j:Int))).map D.str,⟨_,rfl,rfl,rfl⟩,?_,?_⟩
   ·rintro k y ys σ M' ek ⟨v0,rfl,rfl,rfl⟩
    rw[uG]at ek
    obtain⟨t,et,rfl⟩:=uV.mp ek
    have tk:s.th.take (k+1)=s.th.take k++[t]:=by rw[ud,et];rfl
    walk_at "st"
    refine⟨d2,lv,t,s.b+(j:Int),rfl,hlv,gl,?_⟩
    refine⟨aw lv t (s.b+(j:Int)),by unfold ZQ;rfl,?_⟩
    cases q:aw lv t (s.b+(j:Int)) with
    | true=>
     rw[if_neg (by decide)]
     exact⟨_,rfl,rfl,by rw[tk,yL];simp[q]⟩
    | false=>
     rw[if_pos (by decide)]
     walk_at "st"
     exact⟨_,rfl,rfl,by rw[tk,yL];simp[q]⟩
   ·rintro ys σ M' ⟨v0,rfl,rfl,rfl⟩
    rw[uA,ug]
    refine Xg (qb (by rw[uA];have:=List.length_filter_le (fun t=>!aw lv t (s.b+(j:Int))) s.th;lia)) ?_
    refine⟨Yx (s.b+(j:Int),s.nm),rfl,?_,?_⟩
    ·have h1:=qA (ss:=ss.take i) fun x hx=>wy g (xF hx)
     have h2:(vn s j).length=j:=by unfold vn;simp
     have h3:(ss.take i).length<=8:=by rw[uX];have:=g.ln;lia
     have hj':j<Zt s:=hj
     refine uP ?_ (qb (n:=1000) (by decide))
     rw[uA,uE,h2];lia
    ·refine⟨_,rfl,rfl,?_⟩
     rw[Yaa (XaA g es),kap,←uf]
     simp only[uN,uH,xl];rfl
  ·rintro zs σ M' ⟨v5,rfl,rfl,rfl⟩
   exact⟨_,_,_,_,_,_,rfl,rfl,by rw[vT es];rfl⟩
 ·rintro ys σ M' ⟨v0,v1,v2,v3,v4,v5,rfl,rfl,rfl⟩ q hq
  rw[uA,ug]
  exact .inl (h q hq)
structure EqF{α:Type} [DecidableEq α] (f:α->D):Prop where
 ok:∀a b,okD (f a) (f b)=true
 eq:∀a b,eqD (f a) (f b)=decide (a=b)
 dp:∀a,Zn (f a)<=5
theorem WK{α:Type} [DecidableEq α] {f:α->D}(h:EqF f):∀as bs:List α,Xs (as.map f) (bs.map f)=true/\kj (as.map f) (bs.map f)=decide (as=bs)
 | [],[]=>by simp[Xs,kj]
 | [],_::_=>by simp[Xs,kj]
 | _::_,[]=>by simp[Xs,kj]
 | a::as,b::bs=>by
  obtain⟨g1,g2⟩:=WK h as bs
  rw[uH,uH]
  unfold Xs kj
  rw[g1,g2,h.ok,h.eq]
  refine⟨rfl,?_⟩
  by_cases z:a=b<;>by_cases y:as=bs<;>simp[z,y]
theorem WR{α:Type} [DecidableEq α] {f:α->D}(h:EqF f):∀as:List α,Xh (as.map f)<=5
 | []=>by simp[Xh]
 | a::as=>by
  rw[uH]
  unfold Xh
  have:=h.dp a
  have:=WR h as
  lia
theorem ZZ{α:Type} [DecidableEq α] {f:α->D}{neg:Bool}{x y:D}{as bs:List α}{M:HpD}{Q:KD}(h:EqF f)(hx:Zd x M=some (as.map f))(hy:Zd y M=some (bs.map f))(q:Q (.bl (neg ^^ decide (as=bs))) M):Wi neg x y M Q:=by
 obtain⟨g1,g2⟩:=WK h as bs
 have g3:=WR h as
 refine XaG ?_ ?_ ?_
 ·rw[jH hx,jH hy];exact g1
 ·rw[jH hx];unfold Zn;lia
 ·rw[jH hx,jH hy]
  have:eqD (.lst (as.map f)) (.lst (bs.map f))=decide (as=bs):=by unfold eqD;exact g2
  rw[this];exact q
theorem WG:EqF D.str:=⟨fun a b=>by simp[okD],eqS,fun a=>by simp[Zn]⟩
theorem jaw:EqF ZG:=⟨fun a b=>by simp[ZG,spL,okD,Xs],fun a b=>by
 unfold ZG spL
 unfold eqD
 simp only[kj]
 rw[eqI,eqS]
 obtain⟨a1,a2⟩:=a
 obtain⟨b1,b2⟩:=b
 by_cases z:a1=b1<;>by_cases y:a2=b2<;>simp[z,y],fun a=>by simp[ZG,spL,Zn,Xh]⟩
def Zs:SpD:=fun ds M Q=>∃(dn da:D) (ns as:List Str) (room:Int),ds=[dn,.int room,da]/\Zd dn M=some (ns.map D.str)/\Zd da M=some (as.map D.str)/\ns.length<=100/\∀b:Bool,(b=true↔Strict sLt ns/\(ns.length:Int)<=room/\∀n∈ns,n∈as)->Q (.bl b) M
theorem k9(ds:List D)(M:HpD)(Q:KD)(h:Zs ds M Q):qO {nx:=fun _ M'=>Q .non M',rt:=Q} (Zg ["names","room","able"] ds) M:=by
 obtain⟨dn,da,ns,as,room,rfl,hn,ha,hl,h⟩:=h
 unfold qO
 walk_at "st"
 refine⟨ns,hn,by lia,fun ms nd me so=>Xg (qb ?_) ?_⟩
 ·rw[uA]
  have:=wn nd fun x hx=>(me x).mp hx
  lia
 refine ZZ WG hn rfl ?_
 have es:=Xbi jv nd me so
 refine⟨_,rfl,?_⟩
 simp only[yR]
 by_cases h1:ns=ms
 ·rw[decide_eq_true h1,if_pos rfl]
  walk_at "st"
  refine jr (jah hn) ?_
  walk_at "st"
  rw[uA]
  by_cases h2:(ns.length:Int)<=room
  ·rw[decide_eq_true h2,if_pos rfl]
   walk_at "st"
   refine⟨_,hn,qb (by rw[uA];lia),fun i ys σ M'=>∃v0:Option D,M=M'/\σ=[v0,some dn,some (.int room),some da]/\ys=((ns.take i).map fun n=>decide (n∈as)).map D.bl,⟨_,rfl,rfl,by simp⟩,fun i ys σ M' z=>by obtain⟨_,rfl,_⟩:=z;exact hn,?_,?_⟩
   ·rintro i y ys σ M' e ⟨v0,rfl,rfl,rfl⟩
    rw[uG]at e
    obtain⟨n,en,rfl⟩:=uV.mp e
    have tk:ns.take (i+1)=ns.take i++[n]:=by rw[ud,en];rfl
    walk_at "st"
    refine Xav (jah ha) rfl kO ?_
    rw[vR,if_neg (by decide)]
    exact⟨_,rfl,rfl,by rw[tk];simp⟩
   ·rintro ys σ M' ⟨v0,rfl,rfl,rfl⟩
    rw[uA,ug]
    refine Xg (qb (by rw[uA,uA];lia)) ?_
    walk_at "st"
    refine qaD rfl (Or.inl (h _ ?_))
    rw[List.all_map,xq]
    simp only[Function.comp,id,decide_eq_true_eq]
    exact⟨fun z=>⟨es.mp h1,h2,z⟩,fun z=>z.2.2⟩
  ·rw[decide_eq_false h2,if_neg (by decide)]
   exact .inl (h false (Iff.intro (fun z=>by cases z) fun z=>absurd z.2.1 h2))
 ·rw[decide_eq_false h1,if_neg (by decide)]
  exact .inl (h false (Iff.intro (fun z=>by cases z) fun z=>absurd (es.mpr z.1) h1))
noncomputable abbrev Row:=Int×Str×List Str
noncomputable def Wj(r:Row):D:=.tup [.int r.1,.str r.2.1,.lst (r.2.2.map D.str)]
noncomputable def prs(r:Row):List (Str×Int):=r.2.2.map fun n=>(n,r.1)
noncomputable def Ze(rows:List Row):List (Str×Int):=rows.flatMap prs
noncomputable def dl(P:List (Str×Int))(n:Str):List Int:=(P.filter fun p=>decide (p.1=n)).map (·.2)
theorem kW(P:List (Str×Int))(m n:Str)(d:Int):dl (P++[(m,d)]) n=if m=n then dl P n++[d] else dl P n:=by
 unfold dl
 rw[yL,uN]
 by_cases z:m=n<;>simp[z]
theorem vbv(P:List (Str×Int))(n:Str):(dl P n).length<=P.length:=by unfold dl;rw[uA];exact List.length_filter_le _ _
structure Dys(M0 M:HpD)(a:Addr)(P:List (Str×Int))(ks:List Str)(r:Str->Addr):Prop where
 dc:M a=some (.dct (ks.map fun n=>(.inr n,.ref (r n))))
 ls:∀n∈ks,M (r n)=some (.lst ((dl P n).map D.int))
 nd:ks.Nodup
 me:∀n,n∈ks↔∃d,(n,d)∈P
 ij:∀n∈ks,∀m∈ks,r n=r m->n=m
 nw:M0 a=none
 nr:∀n∈ks,M0 (r n)=none/\r n≠a
 fr:∀x,x≠a->(∀n∈ks,x≠r n)->M x=M0 x
theorem Dys.old{M0 M:HpD}{a:Addr}{P:List (Str×Int)}{ks:List Str}{r:Str->Addr}(G:Dys M0 M a P ks r){x:Addr}{o:OD}(h:M0 x=some o):M x=some o:=by
 rw[G.fr x (fun z=>by rw[z,G.nw]at h;cases h) fun n hn z=>by rw[z,(G.nr n hn).1]at h;cases h]
 exact h
theorem Yal{ks:List Str}{r:Str->Addr}(n:Str):Wr (ks.map fun n=>((.inr n:Key),D.ref (r n))) (.inr n)=if n∈ks then some (.ref (r n)) else none:=by
 induction ks with
 | nil=>rfl
 | cons m ks ih=>
  rw[uH]
  by_cases z:m=n
  ·rw[ZO (by simp[z]),if_pos (by simp[z]),z]
  ·rw[WM (by simp;exact z),ih]
   have:(n∈m::ks)↔n∈ks:=by rw[uZ];exact⟨fun q=>q.elim (fun e=>absurd e.symm z) id,.inr⟩
   by_cases q:n∈ks
   ·rw[if_pos q,if_pos (this.mpr q)]
   ·rw[if_neg q,if_neg (fun w=>q (this.mp w))]
theorem qN{kvs:List (Key×D)}{k:Key}{v:D}(h:∀kv∈kvs,kv.1≠k):ju kvs k v=kvs++[(k,v)]:=by
 unfold ju
 rw[if_neg]
 intro z
 obtain⟨kv,m,e⟩:=yV.mp z
 exact h kv m (of_decide_eq_true e)
theorem Dys.there{M0 M:HpD}{a:Addr}{P:List (Str×Int)}{ks:List Str}{r:Str->Addr}(G:Dys M0 M a P ks r){n:Str}(hn:n∈ks)(d:Int):Dys M0 (wc M (r n) (.lst ((dl P n).map D.int++[.int d]))) a (P++[(n,d)]) ks r where
 dc:=by rw[Xb (Ne.symm (G.nr n hn).2)];exact G.dc
 ls:=fun m hm=>by
  rw[kW]
  by_cases z:n=m
  ·subst z;rw[Xc,if_pos rfl,uN];rfl
  ·rw[Xb (fun q=>z (G.ij n hn m hm q.symm)),if_neg z];exact G.ls m hm
 nd:=G.nd
 me:=fun m=>by
  rw[G.me m]
  constructor
  ·rintro ⟨x,hx⟩;exact⟨x,xg _ hx⟩
  ·rintro ⟨x,hx⟩
   rcases uQ.mp hx with q | q
   ·exact⟨x,q⟩
   ·rw[uL]at q
    cases q
    exact(G.me n).mp hn
 ij:=G.ij
 nw:=G.nw
 nr:=G.nr
 fr:=fun x h1 h2=>by rw[Xb (h2 n hn)];exact G.fr x h1 h2
theorem Dys.fresh{M0 M:HpD}{a:Addr}{P:List (Str×Int)}{ks:List Str}{r:Str->Addr}(G:Dys M0 M a P ks r){n:Str}(hn:n∉ks){q:Addr}(hq:M q=none)(d:Int) :
  Dys M0 (wc (wc (wc M q (.lst [])) a (.dct ((ks++[n]).map fun m=>(.inr m,.ref (if m=n then q else r m))))) q (.lst [.int d])) a (P++[(n,d)]) (ks++[n]) (fun m=>if m=n then q else r m):=by
 have qa:q≠a:=fun z=>by rw[z,G.dc]at hq;cases hq
 have qr:∀m∈ks,q≠r m:=fun m hm z=>by rw[z,G.ls m hm]at hq;cases hq
 have q0:M0 q=none:=by rw[←G.fr q qa qr];exact hq
 have ne:∀m∈ks,m≠n:=fun m hm z=>hn (z▸hm)
 refine⟨?_,fun m hm=>?_,?_,fun m=>?_,fun m hm k hk e=>?_,G.nw,fun m hm=>?_,fun x h1 h2=>?_⟩
 ·rw[Xb (Ne.symm qa),Xc]
 ·rw[kW]
  rcases uQ.mp hm with z | z
  ·rw[if_neg (ne m z),if_neg (Ne.symm (ne m z)),Xb (Ne.symm (qr m z)),Xb (G.nr m z).2,Xb (Ne.symm (qr m z))]
   exact G.ls m z
  ·rw[uL]at z
   subst z
   rw[if_pos rfl,if_pos rfl,Xc]
   have:dl P m=[]:=by
    unfold dl
    rw[List.filter_eq_nil_iff.mpr]
    ·rfl
    ·intro p hp e
     have e':=of_decide_eq_true e
     exact hn ((G.me m).mpr ⟨p.2,by rw[←e'];exact hp⟩)
   rw[this];rfl
 ·exact xM.mpr ⟨G.nd,uv.mpr ⟨u6,xR⟩,fun x hx y hy e=>by rw[uL]at hy;subst hy;exact hn (e▸hx)⟩
 ·rw[uQ,G.me m,uL]
  constructor
  ·rintro (⟨x,hx⟩ | rfl)
   ·exact⟨x,xg _ hx⟩
   ·exact⟨d,uY _ (uL.mpr rfl)⟩
  ·rintro ⟨x,hx⟩
   rcases uQ.mp hx with z | z
   ·exact .inl ⟨x,z⟩
   ·rw[uL]at z;cases z;exact .inr rfl
 ·rcases uQ.mp hm with z | z<;>rcases uQ.mp hk with y | y
  ·rw[if_neg (ne m z),if_neg (ne k y)]at e;exact G.ij m z k y e
  ·rw[uL]at y;subst y
   rw[if_neg (ne m z),if_pos rfl]at e;exact absurd e.symm (qr m z)
  ·rw[uL]at z;subst z
   rw[if_pos rfl,if_neg (ne k y)]at e;exact absurd e (qr k y)
  ·rw[uL]at z y;rw[z,y]
 ·rcases uQ.mp hm with z | z
  ·rw[if_neg (ne m z)];exact G.nr m z
  ·rw[uL]at z;rw[if_pos z];exact⟨q0,qa⟩
 ·have hxq:x≠q:=by have:=h2 n (uY _ (uL.mpr rfl));rw[if_pos rfl]at this;exact this
  have hxr:∀m∈ks,x≠r m:=fun m hm=>by have:=h2 m (xg _ hm);rw[if_neg (ne m hm)]at this;exact this
  rw[Xb hxq,Xb h1,Xb hxq]
  exact G.fr x h1 hxr
structure kbz(M0 M:HpD)(P:List (Str×Int))(ks:List Str)(r:Str->Addr):Prop where
 ls:∀n∈ks,M (r n)=some (.lst ((dl P n).map D.int))
 nd:ks.Nodup
 me:∀n,n∈ks↔∃d,(n,d)∈P
 old:∀x o,M0 x=some o->M x=some o
def Wy:SpD:=fun ds M Q=>∃(d:D) (rows:List Row),ds=[d]/\Zd d M=some (rows.map Wj)/\rows.length<=300/\(∀r∈rows,r.2.2.length<=100)/\∀ks r M',kbz M M' (Ze rows) ks r->Q (.fdc (ks.map Sum.inr) (ks.map fun n=>.ref (r n))) M'
theorem Waq{rows:List Row}(h:∀r∈rows,r.2.2.length<=100):(Ze rows).length<=100*rows.length:=by
 induction rows with
 | nil=>exact uJ _
 | cons r rows ih=>
  have h1:=ih fun x hx=>h x (uW _ hx)
  have h2:=h r uc
  have:Ze (r::rows)=prs r++Ze rows:=by unfold Ze;simp
  rw[this,uE,uj]
  have:(prs r).length=r.2.2.length:=by unfold prs;simp
  lia
theorem Xat(ds:List D)(M:HpD)(Q:KD)(h:Wy ds M Q):X2 {nx:=fun _ M'=>Q .non M',rt:=Q} (Zg ["rows","days","day","show","names","name"] ds) M:=by
 obtain⟨d,rows,rfl,hd,hl,hn,h⟩:=h
 unfold X2
 walk_at "st"
 intro a ha
 have keep:∀{M':HpD} {P ks r},Dys M M' a P ks r->Zd d M'=some (rows.map Wj):=fun {M' P ks r} g=>by
  cases d with
  | lst l=>exact hd
  | ref q=>exact vw (g.old (vE hd))
  | _=>cases hd
 have g0:Dys M (wc M a (.dct [])) a [] [] (fun _=>0):=⟨Xc,fun n hn=>by simp at hn,xR,fun n=>by simp,fun n hn=>by simp at hn,ha,fun n hn=>by simp at hn,fun x h1 _=>Xb h1⟩
 walk_at "st"
 refine⟨_,keep g0,fun i σ M'=>∃(ks:List Str) (r:Str->Addr) (v2 v3 v4 v5:Option D),Dys M M' a (Ze (rows.take i)) ks r/\σ=[some d,some (.ref a),v2,v3,v4,v5],⟨[],_,_,_,_,_,g0,rfl⟩,fun i σ M' z=>by obtain⟨_,_,_,_,_,_,g,_⟩:=z;exact keep g,?_,?_⟩
 ·rintro i y σ M' e ⟨ks,r,v2,v3,v4,v5,g,rfl⟩
  rw[uG]at e
  obtain⟨row,er,rfl⟩:=uV.mp e
  have hrow:row∈rows:=uF er
  have hrl:=hn row hrow
  have tk:Ze (rows.take (i+1))=Ze (rows.take i)++prs row:=by
   rw[ud,er]
   unfold Ze
   simp[yZ]
  have hpl:=Waq (rows:=rows.take i) fun x hx=>hn x (xF hx)
  have hil:(rows.take i).length<=300:=by rw[uX];lia
  unfold Wj
  walk_at "st"
  refine⟨fun j σ M'=>∃(ks:List Str) (r:Str->Addr) (v5:Option D),Dys M M' a (Ze (rows.take i)++(row.2.2.take j).map fun n=>(n,row.1)) ks r/\σ=[some d,some (.ref a),some (.int row.1),some (.str row.2.1),some (.lst (row.2.2.map D.str)),v5],⟨ks,r,_,by simpa using g,rfl⟩,fun _ _ _ _=>rfl,?_,?_⟩
  ·rintro j y σ M' ej ⟨ks,r,v5,g,rfl⟩
   rw[uG]at ej
   obtain⟨n,en,rfl⟩:=uV.mp ej
   have tk2:(row.2.2.take (j+1)).map (fun n=>(n,row.1))=(row.2.2.take j).map (fun n=>(n,row.1))++[(n,row.1)]:=by rw[ud,en];simp
   have hkl:ks.length<=40000:=by
    have:=wn (m:=(Ze (rows.take i)++(row.2.2.take j).map fun n=>(n,row.1)).map (·.1)) g.nd fun x hx=>by
     obtain⟨dd,hdd⟩:=(g.me x).mp hx
     exact uS.mpr ⟨_,hdd,rfl⟩
    rw[uA,uE,uA,uX]at this
    lia
   walk_at "st"
   refine⟨⟨_,g.dc⟩,?_⟩
   walk_at "st"
   by_cases hk:n∈ks
   ·refine Xg (qb (ua _)) ?_
    refine⟨_,.inr n,g.dc,rfl,by rw[uA,sizeLine_eq];lia,fun x hx=>?_,fun hx=>?_⟩
    ·rw[Yal,if_pos hk]at hx
     cases hx
     refine⟨_,rfl,⟨_,g.ls n hk⟩,?_⟩
     walk_at "st"
     refine⟨_,g.ls n hk,?_,?_⟩
     ·have:=vbv (Ze (rows.take i)++(row.2.2.take j).map fun n=>(n,row.1)) n
      rw[uE,uA,uX]at this
      rw[uA,sizeLine_eq];lia
     ·refine⟨ks,r,_,?_,rfl⟩
      rw[tk2,←uf]
      exact g.there hk row.1
    ·rw[Yal,if_pos hk]at hx;cases hx
   ·refine newM (qb (ua _)) fun q hq=>?_
    have qa:a≠q:=fun z=>by rw[←z,g.dc]at hq;cases hq
    refine⟨_,.inr n,by rw[Xb qa];exact g.dc,rfl,by rw[uA,sizeLine_eq];lia,fun x hx=>?_,fun hx=>?_⟩
    ·rw[Yal,if_neg hk]at hx;cases hx
    ·have ep:ju (ks.map fun n=>((.inr n:Key),D.ref (r n))) (.inr n) (.ref q)=(ks++[n]).map fun m=>(.inr m,.ref (if m=n then q else r m)):=by
      rw[qN fun kv hkv=>?_,uN]
      ·congr 1
       ·apply xZ
        intro m hm
        rw[if_neg (fun(z:m=n)=>hk (z▸hm))]
       ·rw[uH,xl,if_pos rfl]
      ·obtain⟨m,hm,rfl⟩:=uS.mp hkv
       intro z
       injection z with z
       exact hk (z▸hm)
     rw[ep]
     refine⟨q,rfl,⟨[],by rw[Xb (Ne.symm qa),Xc]⟩,?_⟩
     walk_at "st"
     refine⟨[],by rw[Xb (Ne.symm qa),Xc],by rw[List.length_nil,sizeLine_eq];lia,ks++[n],(fun m=>if m=n then q else r m),_,?_,rfl⟩
     rw[tk2,←uf]
     exact g.fresh hk hq row.1
  ·rintro σ M' ⟨ks,r,v5,g,rfl⟩
   rw[uA,ug]at g
   refine⟨ks,r,_,_,_,_,?_,rfl⟩
   rw[tk];exact g
 ·rintro σ M' ⟨ks,r,v2,v3,v4,v5,g,rfl⟩
  rw[uA,ug]at g
  walk_at "st"
  refine⟨a,_,rfl,g.dc,.inl ?_⟩
  rw[uh,uh]
  refine h ks r _ ⟨fun n hn=>?_,g.nd,g.me,fun x o hx=>?_⟩
  ·rw[Ym (g.nr n hn).2];exact g.ls n hn
  ·rw[Ym (fun z=>by rw[z,g.nw]at hx;cases hx)];exact g.old hx
noncomputable def wak(a b:Wq):Bool:=ltD (ZG a) (ZG b)
theorem Yau(a:Wq):Sh [true,false] (spL a):=.int _ (.str _ .nil)
theorem kU:Zv wak:=ka4 (f:=spL) Yau fun a b e=>by
 unfold spL at e
 injection e with e1 e2
 injection e2 with e2 _
 injection e1 with e1
 injection e2 with e2
 exact Prod.ext e1 e2
noncomputable abbrev Lgs:=List (Str×Int)
noncomputable def Zi(lg:Lgs):List (Key×D):=lg.map fun p=>(.inr p.1,.int p.2)
noncomputable def YE(lg:Lgs)(n:Str):Int:=((lg.find? fun p=>decide (p.1=n)).map (·.2)).getD 0
theorem YY{lg:Lgs}{n:Str}(h:n∈lg.map (·.1)):Wr (Zi lg) (.inr n)=some (.int (YE lg n)):=by
 unfold YE Zi
 induction lg with
 | nil=>simp at h
 | cons p lg ih=>
  rw[uH]
  by_cases z:p.1=n
  ·rw[ZO (by simp[z])]
   simp[uq,z]
  ·rw[WM (by simp;exact z),ih ((uZ.mp h).elim (fun e=>absurd e.symm z) id)]
   simp[uq,z]
noncomputable def jz(r:Row):Wq:=(r.1,r.2.1)
def Zav(ss:List Sho)(lv:Lvs)(r:Row):Prop:=∃s∈ss,s.nm=r.2.1/\Strict sLt r.2.2/\(r.2.2.length:Int)<=s.sz/\∀n∈r.2.2,n∈s.th/\aw lv n r.1=false
structure WaO(ss:List Sho)(lg:Lgs)(lv:Lvs)(rows:List Row):Prop where
 pm:(rows.map jz).Perm ((ki ss).map (·.1))
 so:(rows.map jz).Pairwise (fun a b=>wak b a=false)
 rw_:∀r∈rows,Zav ss lv r
 nd:(Ze rows).Nodup
 ct:∀n d,(n,d)∈Ze rows->((dl (Ze rows) n).length:Int)<=YE lg n
theorem Ya8{ss:List Sho}(nd:(ss.map (·.nm)).Nodup):((ki ss).map (·.1)).Nodup:=by
 induction ss with
 | nil=>exact xR
 | cons s ss ih=>
  rw[uH,uv]at nd
  have e:ki (s::ss)=vn s (Zt s)++ki ss:=by unfold ki;simp
  rw[e,uN,xM]
  refine⟨?_,ih nd.2,fun x hx y hy z=>?_⟩
  ·unfold vn
   rw[uh]
   unfold yY
   rw[xX]
   exact List.nodup_range.imp fun {a b} h z=>h (by have:=congrArg Prod.fst z;simp only[Function.comp]at this;lia)
  ·obtain⟨p,hp,rfl⟩:=uS.mp hx
   obtain⟨q,hq,rfl⟩:=uS.mp hy
   obtain⟨s',hs',hq'⟩:=vZ hq
   exact nd.1 (uS.mpr ⟨s',hs',by rw[←(WN hq').2.1,←(WN hp).2.1,z]⟩)
theorem Xak{α:Type}{β:Type}{k:α->Yf}{f:α->β}:∀{l:List α},(l.map k).Nodup->∀{p:α},p∈l->XE (l.map fun p=>(k p,f p)) (k p)=some (f p)
 | [],_,p,h=>by simp at h
 | q::l,nd,p,h=>by
  rw[uH,uv]at nd
  rw[uH]
  rcases uZ.mp h with rfl | h
  ·rw[Y9 rfl]
  ·rw[vaa (fun z=>nd.1 (uS.mpr ⟨p,h,z.symm⟩))]
   exact Xak nd.2 h
theorem qar{ss:List Sho}(nd:(ss.map (·.nm)).Nodup):((ki ss).map fun p=>Yx p.1).Nodup:=by
 have:=Ya8 nd
 unfold yY at this ⊢
 rw[xX]at this ⊢
 exact this.imp fun h z=>h (qay z)
theorem Yar{ss:List Sho}{p:Wq×Sho}(h:p∈ki ss):p.2∈ss/\p.2.nm=p.1.2:=by
 obtain⟨s,hs,hp⟩:=vZ h
 obtain⟨h1,h2,_⟩:=WN hp
 exact⟨h1▸hs,by rw[h1,h2]⟩
theorem W7(P:List (Str×Int)):P.Nodup↔∀n,(dl P n).Nodup:=by
 constructor
 ·intro h n
  unfold dl yY
  rw[xX]
  have h2:=(h.filter fun p=>decide (p.1=n))
  refine List.Pairwise.imp_of_mem (fun {a b} ha hb hab z=>?_) h2
  have e1:=of_decide_eq_true (xi.mp ha).2
  have e2:=of_decide_eq_true (xi.mp hb).2
  exact hab (Prod.ext (e1.trans e2.symm) z)
 ·induction P with
  | nil=>intro _;exact xR
  | cons p P ih=>
   intro h
   refine uv.mpr ⟨fun hp=>?_,ih fun n=>?_⟩
   ·have:=h p.1
    have e:dl (p::P) p.1=p.2::dl P p.1:=by unfold dl;simp
    rw[e,uv]at this
    exact this.1 (uS.mpr ⟨p,xi.mpr ⟨hp,by simp⟩,rfl⟩)
   ·have:=h n
    by_cases z:p.1=n
    ·have e:dl (p::P) n=p.2::dl P n:=by unfold dl;simp[z]
     rw[e,uv]at this
     exact this.2
    ·have e:dl (p::P) n=dl P n:=by unfold dl;simp[z]
     rw[e]at this
     exact this
def Mo(M M':HpD):Prop:=∀x o,M x=some o->M' x=some o
theorem jaK{d:D}{M M':HpD}{xs:List D}(h:Zd d M=some xs)(f:Mo M M'):Zd d M'=some xs:=by
 cases d with
 | lst l=>exact h
 | ref p=>exact vw (f _ _ (vE h))
 | _=>cases h
theorem Zbz{d:D}{M M':HpD}{kvs:List (Key×D)}(h:dcD d M=some kvs)(f:Mo M M'):dcD d M'=some kvs:=by
 cases d with
 | fdc ks ds=>exact h
 | ref p=>
  cases q:M p with
  | none=>simp only[dcD,q]at h;cases h
  | some o=>
   cases o with
   | dct l=>simp only[dcD,q]at h;cases h;exact qH (f _ _ q)
   | _=>simp only[dcD,q]at h;cases h
 | _=>cases h
theorem Zah{M:HpD}{p:Addr}{o:OD}(h:M p=none):Mo M (wc M p o):=fun x u e=>by rw[Xb (fun z=>by rw[z,h]at e;cases e)];exact e
theorem Mo.trans{M M1 M2:HpD}(a:Mo M M1)(b:Mo M1 M2):Mo M M2:=fun x o e=>b x o (a x o e)
theorem qaL{bl:List Bool}{n:Nat}{P:Nat->Prop}(hl:bl.length=n)(h:∀(j:Nat) b,bl[j]?=some b->(b=true↔P j)):(bl.all id=true↔∀j,j<n->P j):=by
 rw[xq]
 constructor
 ·intro z j hj
  have e:=uB (l:=bl) (i:=j) (by lia)
  exact(h j _ e).mp (z _ (xS (by lia)))
 ·intro z b hb
  obtain⟨j,hj,rfl⟩:=uu hb
  exact(h j _ (uB hj)).mpr (z j (by lia))
theorem waM{bl:List Bool}{i:Nat}{P:Nat->Prop}{b:Bool}(hl:bl.length=i)(h:∀(j:Nat) b,bl[j]?=some b->(b=true↔P j))(hb:b=true↔P i):∀(j:Nat) c,(bl++[b])[j]?=some c->(c=true↔P j):=by
 intro j c e
 by_cases hj:j<bl.length
 ·rw[u8 hj]at e;exact h j c e
 ·rw[up (by lia)]at e
  have:j - bl.length=0:=by
   rcases Nat.eq_zero_or_pos (j - bl.length) with q | q
   ·exact q
   ·rw[xE (by simp;lia)]at e;cases e
  rw[this]at e
  cases e
  have:j=i:=by lia
  rw[this];exact hb
structure GdIn(M:HpD)(dS dL dV dR:D)(ss:List Sho)(lg:Lgs)(lv:Lvs)(rows:List Row):Prop where
 s:Zd dS M=some (ss.map qf)
 g:GSh ss
 l:Zr dL M=some (Zi lg)
 t:∀s∈ss,∀x∈s.th,x∈lg.map (·.1)
 v:dcD dV M=some (kg lv)
 gv:GLv lv
 r:Zd dR M=some (rows.map Wj)
 rl:rows.length<=300
 rn:∀r∈rows,r.2.2.length<=100
 ll:lg.length<=1000
theorem wbj{d:D}{M M':HpD}{kvs:List (Key×D)}(h:Zr d M=some kvs)(f:Mo M M'):Zr d M'=some kvs:=by
 cases d with
 | ref p=>
  cases q:M p with
  | none=>simp only[Zr,q]at h;cases h
  | some o=>
   cases o with
   | dct l=>simp only[Zr,q]at h;cases h;exact vC (f _ _ q)
   | _=>simp only[Zr,q]at h;cases h
 | _=>cases h
theorem GdIn.mo{M M':HpD}{dS dL dV dR:D}{ss:List Sho}{lg:Lgs}{lv:Lvs}{rows:List Row}(i:GdIn M dS dL dV dR ss lg lv rows)(f:Mo M M'):GdIn M' dS dL dV dR ss lg lv rows:=
 ⟨jaK i.s f,i.g,wbj i.l f,i.t,Zbz i.v f,i.gv,jaK i.r f,i.rl,i.rn,i.ll⟩
def vo:SpD:=fun ds M Q=>∃(dS dL dV dR:D) (ss:List Sho) (lg:Lgs) (lv:Lvs) (rows:List Row),ds=[dS,dL,dV,dR]/\GdIn M dS dL dV dR ss lg lv rows/\∀b M',(b=true↔WaO ss lg lv rows)->Mo M M'->Q (.bl b) M'
theorem ka0{ss:List Sho}{rows:List Row}{bs:List Wq}(e:rows.map jz=bs)(p:bs.Perm ((ki ss).map (·.1))){r:Row}(h:r∈rows):∃q∈ki ss,q.1=jz r:=by
 have:jz r∈(ki ss).map (·.1):=p.mem_iff.mp (by rw[←e];exact uS.mpr ⟨r,h,rfl⟩)
 obtain⟨q,hq,e⟩:=uS.mp this
 exact⟨q,hq,e⟩
theorem vaj{ss:List Sho}(nd:(ss.map (·.nm)).Nodup){s t:Sho}(h1:s∈ss)(h2:t∈ss)(e:s.nm=t.nm):s=t:=by
 induction ss with
 | nil=>simp at h1
 | cons a ss ih=>
  rw[uH,uv]at nd
  rcases uZ.mp h1 with y1 | y1<;>rcases uZ.mp h2 with y2 | y2
  ·rw[y1,y2]
  ·exact(nd.1 (uS.mpr ⟨t,y2,by rw[←e,y1]⟩)).elim
  ·exact(nd.1 (uS.mpr ⟨s,y1,by rw[e,y2]⟩)).elim
  ·exact ih nd.2 y1 y2
theorem vao{rows:List Row}{n:Str}{d:Int}(h:(n,d)∈Ze rows):∃r∈rows,n∈r.2.2/\r.1=d:=by
 unfold Ze at h
 obtain⟨r,hr,hp⟩:=List.mem_flatMap.mp h
 unfold prs at hp
 obtain⟨m,hm,e⟩:=uS.mp hp
 cases e
 exact⟨r,hr,hm,rfl⟩
theorem kbh{rows:List Row}(h:∀r∈rows,r.2.2.Nodup)(n:Str):(dl (Ze rows) n).length<=rows.length:=by
 induction rows with
 | nil=>exact uJ _
 | cons r rows ih=>
  have h1:=ih fun x hx=>h x (uW _ hx)
  have h2:=h r uc
  have e:Ze (r::rows)=prs r++Ze rows:=by unfold Ze;simp
  have e2:dl (Ze (r::rows)) n=dl (prs r) n++dl (Ze rows) n:=by rw[e];unfold dl;rw[yL,uN]
  rw[e2,uE,uj]
  have:(dl (prs r) n).length<=1:=by
   unfold dl prs
   rw[uA,List.filter_map,uA]
   have hf:=h2.filter fun m=>decide (m=n)
   have:=wn (m:=[n]) hf fun x hx=>by
    have:=of_decide_eq_true (xi.mp hx).2
    rw[this];exact uL.mpr rfl
   exact this
  lia
theorem vah(ds:List D)(M:HpD)(Q:KD)(h:vo ds M Q):YT qt Zu Zs Wy {nx:=fun _ M'=>Q .non M',rt:=Q} (Zg ["shows","lights","leaves","rows","room","able"] ds) M:=by
 obtain⟨dS,dL,dV,dR,ss,lg,lv,rows,rfl,I,h⟩:=h
 unfold YT
 walk_at "st"
 refine⟨dS,ss,rfl,I.s,I.g,fun q1 hq1=>?_⟩
 have m1:Mo M (wc M q1 (.dtt (kF ss))):=Zah hq1
 have r1:wc M q1 (.dtt (kF ss)) q1=some (.dtt (kF ss)):=Xc
 generalize wc M q1 (.dtt (kF ss))=M1 at m1 r1
 have I1:=I.mo m1
 walk_at "st"
 refine⟨dS,dV,ss,lv,rfl,I1.s,I1.g,I1.v,I1.gv,fun q2 hq2=>?_⟩
 have m2:Mo M1 (wc M1 q2 (.dtt (ZK lv ss))):=Zah hq2
 have r2:wc M1 q2 (.dtt (ZK lv ss)) q2=some (.dtt (ZK lv ss)):=Xc
 generalize wc M1 q2 (.dtt (ZK lv ss))=M2 at m2 r2
 have I2:=I1.mo m2
 have r1':=m2 _ _ r1
 have mm:=m1.trans m2
 have sl:=qA (ss:=ss) fun x hx=>wy I.g hx
 have g8:=I.g.ln
 walk_at "st"
 refine⟨_,I2.r,qb (by rw[uA];have:=I.rl;lia),fun i ys σ M'=>∃v0 v1 v2:Option D,M2=M'/\σ=[v0,v1,v2,some dS,some dL,some dV,some dR,some (.ref q1),some (.ref q2)]/\ys=((rows.take i).map jz).map ZG,⟨_,_,_,rfl,rfl,by simp⟩,fun i ys σ M' z=>by obtain⟨_,_,_,rfl,_⟩:=z;exact I2.r,?_,?_⟩
 ·rintro i y ys σ M' e ⟨v0,v1,v2,rfl,rfl,rfl⟩
  rw[uG]at e
  obtain⟨r,er,rfl⟩:=uV.mp e
  have tk:rows.take (i+1)=rows.take i++[r]:=by rw[ud,er];rfl
  unfold Wj
  walk_at "st"
  exact⟨_,_,_,rfl,rfl,by rw[tk];simp[ZG,spL,jz]⟩
 rintro ys σ M' ⟨v0,v1,v2,rfl,rfl,rfl⟩
 rw[uA,ug]
 refine Xg (qb (by rw[uA,uA];have:=I.rl;lia)) ?_
 walk_at "st"
 refine waR (enc:=ZG) (lt:=wak) (as:=(ki ss).map (·.1)) r1' ?_ (by rw[uA];lia) kU ?_ (fun _ _ _ _=>rfl) fun bs hp hs=>Xg (qb ?_) ?_
 ·unfold kF
  rw[uh,uh];rfl
 ·refine .tupI (fun d hd=>?_) fun a b ha hb=>?_
  ·obtain⟨p,_,rfl⟩:=uS.mp hd
   exact⟨_,_,rfl,by rw[show(D.int p.1::[D.str p.2])=spL p from rfl,Yaw (Yau p)];lia⟩
  ·obtain⟨p,_,e1⟩:=uS.mp ha
   obtain⟨q,_,e2⟩:=uS.mp hb
   cases e1;cases e2
   exact Yaj (Yau p) (Yau q)
 ·rw[uA,hp.length_eq,uA];lia
 refine ZZ jaw rfl rfl ?_
 walk_at "st"
 by_cases h1:rows.map jz=bs
 case neg=>
  rw[decide_eq_false h1,if_pos (by decide)]
  walk_at "st"
  exact .inl (h false _ (Iff.intro (fun z=>by cases z) fun z=>absurd (XN kU (z.pm.trans hp.symm) z.so hs) h1) mm)
 rw[decide_eq_true h1,if_neg (by decide)]
 walk_at "st"
 refine⟨_,I2.r,qb (by rw[uA];have:=I.rl;lia),fun i ys σ M'=>∃(v0 v1 v2:Option D) (bl:List Bool),M2=M'/\σ=[v0,v1,v2,some dS,some dL,some dV,some dR,some (.ref q1),some (.ref q2)]/\ys=bl.map D.bl/\bl.length=i/\i<=rows.length/\∀(j:Nat) b,bl[j]?=some b->(b=true↔∀r,rows[j]?=some r->Zav ss lv r),⟨_,_,_,[],rfl,rfl,rfl,rfl,ua _,fun j b z=>by simp at z⟩,fun i ys σ M' z=>by obtain⟨_,_,_,_,rfl,_⟩:=z;exact I2.r,?_,?_⟩
 ·rintro i y ys σ M' e ⟨v0,v1,v2,bl,rfl,rfl,rfl,hbl,hi,hb⟩
  rw[uG]at e
  obtain⟨r,er,rfl⟩:=uV.mp e
  have hr:r∈rows:=uF er
  have hi2:i<rows.length:=(uO.mp er).1
  obtain⟨q,hq,eq⟩:=ka0 h1 hp hr
  have ek:Yx q.1=[.inl r.1,.inr r.2.1]:=by rw[eq];rfl
  obtain⟨hs1,hs2⟩:=Yar hq
  unfold Wj
  walk_at "st"
  refine⟨q1,_,Yx q.1,.int q.2.sz,rfl,r1',by rw[ek];rfl,by unfold kF;exact Xak (k:=fun p:Wq×Sho=>Yx p.1) (f:=fun p:Wq×Sho=>D.int p.2.sz) (qar I.g.nd) hq,?_⟩
  walk_at "st"
  refine⟨q2,_,Yx q.1,.lst ((Z5 lv q).map D.str),rfl,r2,by rw[ek];rfl,by unfold ZK;exact Xak (k:=fun p:Wq×Sho=>Yx p.1) (f:=fun p:Wq×Sho=>D.lst ((Z5 lv p).map D.str)) (qar I.g.nd) hq,?_⟩
  walk_at "st"
  refine⟨_,_,r.2.2,Z5 lv q,q.2.sz,rfl,rfl,rfl,I.rn r hr,fun b hbb=>⟨_,_,_,bl++[b],rfl,rfl,by simp,by simp[hbl],hi2,waM hbl hb ?_⟩⟩
  rw[hbb]
  have e1:q.1.1=r.1:=by rw[eq];rfl
  have e2:q.1.2=r.2.1:=by rw[eq];rfl
  constructor
  ·rintro ⟨a1,a2,a3⟩ r' er'
   rw[er]at er';cases er'
   refine⟨q.2,hs1,by rw[hs2,e2],a1,a2,fun n hn=>?_⟩
   have:=xi.mp (a3 n hn)
   rw[e1]at this
   exact⟨this.1,by simpa using this.2⟩
  ·intro z
   obtain⟨s,hs',es,a1,a2,a3⟩:=z r er
   have:s=q.2:=vaj I.g.nd hs' hs1 (by rw[es,hs2,e2])
   subst this
   refine⟨a1,a2,fun n hn=>xi.mpr ⟨(a3 n hn).1,?_⟩⟩
   rw[e1,(a3 n hn).2];rfl
 rintro ys σ M' ⟨v0,v1,v2,bl,rfl,rfl,rfl,hbl,hi,hb⟩
 rw[uA]at hbl hi
 refine Xg (qb (by rw[uA,hbl];have:=I.rl;lia)) ?_
 walk_at "st"
 refine qaD rfl ?_
 have ha:=qaL hbl hb
 walk_at "st"
 refine⟨_,by unfold ZQ;rfl,?_⟩
 cases hq:bl.all id with
 | false=>
  rw[if_pos (by decide)]
  walk_at "st"
  refine .inl (h false _ (Iff.intro (fun z=>by cases z) fun z=>?_) mm)
  have:=ha.mpr fun j hj r er=>z.rw_ r (uF er)
  rw[hq]at this;cases this
 | true=>
  rw[if_neg (by decide)]
  have hrow:∀r∈rows,Zav ss lv r:=fun r hr=>by
   obtain⟨j,hj,rfl⟩:=uu hr
   exact ha.mp hq j hj _ (uB hj)
  walk_at "st"
  refine⟨dR,rows,rfl,I2.r,I.rl,I.rn,fun ks r M3 T=>?_⟩
  have I3:=I2.mo (fun x o e=>T.old x o e)
  have m3:Mo M M3:=mm.trans fun x o e=>T.old x o e
  have hlen:∀n,(dl (Ze rows) n).length<=300:=fun n=>xQ (kbh (fun r hr=>by
   obtain⟨s,_,_,z,_⟩:=hrow r hr
   exact z.nodup jv) n) I.rl
  have hkl:ks.length<=1000:=by
   have:=wn (m:=lg.map (·.1)) T.nd fun n hn=>by
    obtain⟨d,hd⟩:=(T.me n).mp hn
    obtain⟨r',hr',hn'⟩:=vao hd
    obtain⟨s,hs',_,_,_,z⟩:=hrow r' hr'
    exact I.t s hs' n (z n hn'.1).1
   rw[uA]at this
   exact xQ this I.ll
  have hin:∀n∈ks,n∈lg.map (·.1):=fun n hn=>by
   obtain⟨d,hd⟩:=(T.me n).mp hn
   obtain⟨r',hr',hn'⟩:=vao hd
   obtain⟨s,hs',_,_,_,z⟩:=hrow r' hr'
   exact I.t s hs' n (z n hn'.1).1
  have hit:YB (ks.map Sum.inr) (ks.map fun n=>D.ref (r n))=ks.map fun n=>.tup [.str n,.ref (r n)]:=by
   unfold YB
   rw[List.zip_map',uh];rfl
  refine⟨_,_,rfl,?_⟩
  rw[hit]
  refine⟨qb (by rw[uA];exact hkl),fun i ys σ M'=>∃(v0 v1:Option D) (bl:List Bool),M3=M'/\σ=[v0,v1,some dS,some dL,some dV,some dR,some (.ref q1),some (.ref q2)]/\ys=bl.map D.bl/\bl.length=i/\i<=ks.length/\∀(j:Nat) b,bl[j]?=some b->(b=true↔∀n,ks[j]?=some n->(dl (Ze rows) n).Nodup/\((dl (Ze rows) n).length:Int)<=YE lg n),⟨_,_,[],rfl,rfl,rfl,rfl,ua _,fun j b z=>by simp at z⟩,fun _ _ _ _ _=>trivial,?_,?_⟩
  ·rintro i y ys σ M' e ⟨v0,v1,bl,rfl,rfl,rfl,hbl,hi,hb⟩
   rw[uG]at e
   obtain⟨n,en,rfl⟩:=uV.mp e
   have hn:n∈ks:=uF en
   have hi2:i<ks.length:=(uO.mp en).1
   have hls:=T.ls n hn
   have hl3:=hlen n
   have done:∀b:Bool,(b=true↔(dl (Ze rows) n).Nodup/\((dl (Ze rows) n).length:Int)<=YE lg n)->∃(v0 v1:Option D) (bl':List Bool),M3=M3/\[some (D.str n),some (D.ref (r n)),some dS,some dL,some dV,some dR,some (.ref q1),some (.ref q2)]=[v0,v1,some dS,some dL,some dV,some dR,some (.ref q1),some (.ref q2)]/\bl.map D.bl++[D.bl b]=bl'.map D.bl/\bl'.length=i+1/\i+1<=ks.length/\∀(j:Nat) b,bl'[j]?=some b->(b=true↔∀n,ks[j]?=some n->(dl (Ze rows) n).Nodup/\((dl (Ze rows) n).length:Int)<=YE lg n):=fun b hbb=>
    ⟨_,_,bl++[b],rfl,rfl,by simp,by simp[hbl],hi2,waM hbl hb (hbb.trans ⟨fun z m em=>by rw[en]at em;cases em;exact z,fun z=>z n en⟩)⟩
   walk_at "st"
   refine⟨(dl (Ze rows) n).map Sum.inl,by rw[uh];exact vw hls,by rw[uA];lia,fun ms nd me=>?_⟩
   walk_at "st"
   refine jr (ke hls) ?_
   walk_at "st"
   rw[uA]
   have hnd:((ms.length:Int)=((dl (Ze rows) n).length:Int))↔(dl (Ze rows) n).Nodup:=by
    have hn1:((dl (Ze rows) n).map (Sum.inl:Int->Key)).Nodup↔(dl (Ze rows) n).Nodup:=by
     unfold yY
     rw[xX]
     exact⟨fun z=>z.imp fun h e=>h (by rw[e]),fun z=>z.imp fun h e=>h (by injection e)⟩
    rw[←hn1]
    constructor
    ·intro z
     exact XY nd me (by rw[uA];lia)
    ·intro z
     have:=X1 nd me z
     rw[uA]at this
     lia
   rw[yR]
   by_cases c1:(ms.length:Int)=((dl (Ze rows) n).length:Int)
   ·rw[decide_eq_true c1,if_pos rfl]
    walk_at "st"
    refine jr (ke hls) ?_
    walk_at "st"
    refine⟨_,.inr n,_,I3.l,rfl,YY (hin n hn),?_⟩
    walk_at "st"
    rw[uA]
    exact done _ (by rw[decide_eq_true_eq];exact⟨fun z=>⟨hnd.mp c1,z⟩,fun z=>z.2⟩)
   ·rw[decide_eq_false c1,if_neg (by decide)]
    exact done false (Iff.intro (fun z=>by cases z) fun z=>absurd (hnd.mpr z.1) c1)
  ·rintro ys σ M' ⟨v0,v1,bl2,rfl,rfl,rfl,hbl2,hi2,hb2⟩
   rw[uA]at hbl2 hi2
   refine Xg (qb (by rw[uA,hbl2];exact hkl)) ?_
   walk_at "st"
   refine qaD rfl (Or.inl (h _ _ ?_ m3))
   rw[qaL hbl2 hb2]
   constructor
   ·intro z
    have zz:∀n∈ks,(dl (Ze rows) n).Nodup/\((dl (Ze rows) n).length:Int)<=YE lg n:=fun n hn=>by
     obtain⟨j,hj,rfl⟩:=uu hn
     exact z j hj _ (uB hj)
    refine⟨by rw[h1];exact hp,by rw[h1];exact hs,hrow,(W7 _).mpr fun n=>?_,fun n d hd=>(zz n ((T.me n).mpr ⟨d,hd⟩)).2⟩
    by_cases hn:n∈ks
    ·exact(zz n hn).1
    ·have:dl (Ze rows) n=[]:=by
      unfold dl
      rw[List.filter_eq_nil_iff.mpr]
      ·rfl
      ·intro p hp' e
       have e':=of_decide_eq_true e
       exact hn ((T.me n).mpr ⟨p.2,by rw[←e'];exact hp'⟩)
     rw[this];exact xR
   ·intro z j hj n en
    have hn:n∈ks:=uF en
    obtain⟨d,hd⟩:=(T.me n).mp hn
    exact⟨(W7 _).mp z.nd n,z.ct n d hd⟩
def GNm(ns:List Str)(k:Nat):Prop:=ns.length<=k/\ns.Nodup/\∀x∈ns,Wa9 x
def Wn:SpD:=fun ds M Q=>∃(b:Addr) (o:OD) (k:Int),ds=[.ref b,.int k]/\0<=k/\k<=12/\M b=some o/\Ys o/\∀ns M',GNm ns k.toNat->Fr b M M'->Q (.lst (ns.map D.str)) M'
theorem qas(ds:List D)(M:HpD)(Q:KD)(h:Wn ds M Q):Z3 wx {nx:=fun _ M'=>Q .non M',rt:=Q} (Zg ["_law_box_here","_law_size","_law_found","_law_k","_law_name"] ds) M:=by
 obtain⟨b,o,k,rfl,k0,k1,eM,hb,h⟩:=h
 unfold Z3
 walk_at "st"
 refine newM (qb (ua _)) fun p hp=>?_
 obtain⟨hpb,g0⟩:=Gro.start (Fr.self eM hb) hp []
 walk_at "st"
 refine⟨by lia,by lia,fun i σ M'=>∃(ns:List Str) (v2 v3:Option D),Gro b p M M' (ns.map D.str)/\σ=[some (.ref b),some (.int k),some (.ref p),v2,v3]/\ns.length<=i/\i<=k.toNat/\ns.Nodup/\∀x∈ns,Wa9 x,⟨[],_,_,g0,rfl,uJ _,ua _,xR,by simp⟩,?_,?_⟩
 ·rintro i d σ M' e ⟨ns,v2,v3,g,rfl,hl,hk,nd,ok⟩
  obtain⟨hi,rfl⟩:=wO e
  obtain⟨o2,e2,b2⟩:=g.bx
  walk_at "st"
  refine⟨b,o2,rfl,e2,b2,fun x M2 hx f2=>?_⟩
  have g2:=g.step hpb f2
  walk_at "st"
  refine Xav (ke g2.ls) rfl kO ?_
  rw[vR,if_pos rfl]
  walk_at "st"
  by_cases hm:x∈ns
  ·rw[decide_eq_true hm,if_neg (by decide)]
   walk_at "st"
   exact⟨ns,_,_,g2,rfl,by lia,hi,nd,ok⟩
  ·rw[decide_eq_false hm,if_pos (by decide)]
   walk_at "st"
   refine⟨⟨_,g2.ls⟩,?_⟩
   walk_at "st"
   refine⟨_,g2.ls,uP (by rw[uA];lia) (qb (n:=100) (by decide)),?_⟩
   refine⟨ns++[x],_,_,by have:=g2.upd (es:=ns.map D.str++[.str x]) hpb;simpa using this,rfl,by simp;lia,hi,?_,fun y hy=>?_⟩
   ·rw[xM]
    exact⟨nd,by simp,fun a ha b' hb' e=>hm (by rw[uL.mp hb']at e;rw[←e];exact ha)⟩
   ·rcases uQ.mp hy with hy | hy
    ·exact ok y hy
    ·rw[uL.mp hy];exact hx
 ·rintro σ M' ⟨ns,v2,v3,g,rfl,hl,hk,nd,ok⟩
  rw[Yu]at hl hk
  walk_at "st"
  exact .inr ⟨p,_,rfl,g.ls,h ns _ ⟨hl,nd,ok⟩ (g.del hpb hp)⟩
noncomputable def jaQ(ss:List Sho)(n:Str):Int:=((ss.find? fun s=>decide (s.nm=n)).map (·.sz)).getD 0
noncomputable def qB(ss:List Sho)(n:Str):List Str:=((ss.find? fun s=>decide (s.nm=n)).map (·.th)).getD []
noncomputable def rmL(ss:List Sho)(a:Wq):List D:=[.int a.1,.str a.2,.int (jaQ ss a.2),.tup ((qB ss a.2).map D.str)]
noncomputable def wu(ss:List Sho)(a:Wq):D:=.tup (rmL ss a)
theorem qaC{ss:List Sho}(nd:(ss.map (·.nm)).Nodup){s:Sho}(h:s∈ss):ss.find? (fun t=>decide (t.nm=s.nm))=some s:=by
 cases q:ss.find? fun t=>decide (t.nm=s.nm) with
 | none=>exact absurd (List.find?_eq_none.mp q s h) (by simp)
 | some t=>
  have e:t.nm=s.nm:=by simpa using List.find?_some q
  rw[vaj nd (yB q) h e]
theorem WaM{ss:List Sho}(nd:(ss.map (·.nm)).Nodup){s:Sho}(h:s∈ss):jaQ ss s.nm=s.sz:=by unfold jaQ;rw[qaC nd h];rfl
theorem kaL{ss:List Sho}(nd:(ss.map (·.nm)).Nodup){s:Sho}(h:s∈ss):qB ss s.nm=s.th:=by unfold qB;rw[qaC nd h];rfl
theorem jO:∀ns:List Str,Xs (ns.map D.str) (ns.map D.str)=true/\kj (ns.map D.str) (ns.map D.str)=true
 | ns=>by
  obtain⟨a,b⟩:=WK WG ns ns
  exact⟨a,by rw[b];simp⟩
theorem jby(ss:List Sho)(a b:Wq):ltD (wu ss a) (wu ss b)=wak a b:=by
 show ltT (rmL ss a) (rmL ss b)=ltT (spL a) (spL b)
 unfold rmL spL
 rw[wK,wK]
 by_cases z:a.1=b.1
 ·rw[if_pos z,if_pos z,jK,jK]
  by_cases y:a.2=b.2
  ·rw[if_pos y,if_pos y,y,wK,if_pos rfl]
   show(if eqD (.tup _) (.tup _)=true then ltT [] [] else ltF (.tup _) (.tup _))=ltT [] []
   have:eqD (.tup ((qB ss b.2).map D.str)) (.tup ((qB ss b.2).map D.str))=true:=by unfold eqD;exact(jO _).2
   rw[if_pos this]
  ·rw[if_neg y,if_neg y]
 ·rw[if_neg z,if_neg z]
theorem qbo(ss:List Sho)(a b:Wq):jB (rmL ss a) (rmL ss b)=true:=by
 unfold rmL
 rw[jB,eqI]
 by_cases z:a.1=b.1
 ·rw[decide_eq_true z,if_pos rfl,jB,eqS]
  by_cases y:a.2=b.2
  ·rw[decide_eq_true y,if_pos rfl,y,jB,eqI,decide_eq_true rfl,if_pos rfl,jB]
   have h1:eqD (.tup ((qB ss b.2).map D.str)) (.tup ((qB ss b.2).map D.str))=true:=by unfold eqD;exact(jO _).2
   have h2:okD (.tup ((qB ss b.2).map D.str)) (.tup ((qB ss b.2).map D.str))=true:=by unfold okD;exact(jO _).1
   rw[h1,h2,if_pos rfl]
   simp[okD,jB]
  ·rw[decide_eq_false y,if_neg (by decide)]
   simp[okD,W8]
 ·rw[decide_eq_false z,if_neg (by decide)]
  simp[okD,W8]
theorem Wbm(ss:List Sho)(a:Wq):Xh (rmL ss a)<=60:=by
 unfold rmL
 have:=WR WG (qB ss a.2)
 simp only[Xh,Zn]
 lia
theorem ka9{ss:List Sho}(g:GSh ss)(n:Nat){s:Sho}(hs:s∈ss):((vn s n).map (·.1)).map (wu ss)=(Xu s.b n).map fun d=>.tup [d,.str s.nm,.int s.sz,.tup (s.th.map D.str)]:=by
 unfold vn Xu
 rw[uh,uh,uh]
 apply xZ
 intro j _
 simp only[Function.comp,wu,rmL]
 rw[WaM g.nd hs,kaL g.nd hs]
def Xn:SpD:=fun ds M Q=>∃(ss:List Sho),ds=[.lst (ss.map qf)]/\GSh ss/\∀(bs:List Wq) (M':HpD),bs.Perm ((ki ss).map (·.1))->bs.Pairwise (fun a b=>wak b a=false)->Mo M M'->Q (.lst (bs.map (wu ss))) M'
theorem jas(ds:List D)(M:HpD)(Q:KD)(h:Xn ds M Q):jZ {nx:=fun _ M'=>Q .non M',rt:=Q} (Zg ["_law_shows_here","_law_found","_law_name","_law_first","_law_last","_law_size","_law_things"] ds) M:=by
 obtain⟨ss,rfl,g,h⟩:=h
 have sl:=qA (ss:=ss) fun x hx=>wy g hx
 have g8:=g.ln
 unfold jZ
 walk_at "st"
 refine newM (qb (ua _)) fun p hp=>?_
 walk_at "st"
 refine⟨fun i σ M'=>∃v2 v3 v4 v5 v6:Option D,M' p=some (.lst (((ki (ss.take i)).map (·.1)).map (wu ss)))/\(∀a,a≠p->M a≠none->M' a=M a)/\σ=[some (.lst (ss.map qf)),some (.ref p),v2,v3,v4,v5,v6],⟨_,_,_,_,_,Xc,fun a h1 _=>Xb h1,rfl⟩,fun _ _ _ _=>rfl,?_,?_⟩
 ·rintro i y σ M' e ⟨v2,v3,v4,v5,v6,eM,fr,rfl⟩
  rw[uG]at e
  obtain⟨s,es,rfl⟩:=uV.mp e
  have hs:s∈ss:=uF es
  obtain⟨d0,d1,d2,d3⟩:=g.dy s hs
  have hn:=wy g hs
  have sl2:=qA (ss:=ss.take i) fun x hx=>wy g (xF hx)
  have h3:(ss.take i).length<=8:=by rw[uX];lia
  unfold qf
  walk_at "st"
  refine⟨⟨_,eM⟩,?_⟩
  walk_at "st"
  refine⟨s.b,s.l+1,rfl,⟨by lia,by lia,by lia,by lia⟩,qb (by rw[Yu];unfold Zt at hn;lia),fun j ys σ M''=>∃v0:Option D,M'=M''/\σ=[v0,some (.lst (ss.map qf)),some (.ref p),some (.str s.nm),some (.int s.b),some (.int s.l),some (.int s.sz),some (.tup (s.th.map D.str))]/\ys=((Xu s.b (Zt s)).take j).map fun d=>.tup [d,.str s.nm,.int s.sz,.tup (s.th.map D.str)],⟨_,rfl,rfl,rfl⟩,?_,?_⟩
  ·rintro j y ys σ M'' ej ⟨v0,rfl,rfl,rfl⟩
   have tk:(Xu s.b (Zt s)).take (j+1)=(Xu s.b (Zt s)).take j++[y]:=by rw[ud,show(Xu s.b (Zt s))[j]?=some y from ej];rfl
   walk_at "st"
   exact⟨_,rfl,rfl,by rw[tk];simp⟩
  ·rintro ys σ M'' ⟨v0,rfl,rfl,rfl⟩
   rw[Yu]
   have el:((Xu s.b (Zt s)).take (s.l+1 - s.b).toNat)=Xu s.b (Zt s):=u9 (by rw[Yu];exact uJ _)
   rw[el,←ka9 g (Zt s) hs]
   refine newM (qb ?_) fun q hq=>?_
   ·rw[uA,uA];unfold vn;simp;lia
   have qp:q≠p:=fun z=>by rw[z,eM]at hq;cases hq
   refine⟨_,_,q,rfl,by rw[Xb (Ne.symm qp)];exact eM,Xc,?_,?_⟩
   ·refine qb ?_
    rw[uA,uA,uA,uA]
    have:(vn s (Zt s)).length=Zt s:=by unfold vn;simp
    lia
   ·refine⟨_,_,_,_,_,?_,fun a h1 h2=>?_,rfl⟩
    ·rw[Xc,vT es,uN,uN]
    ·have:a≠q:=fun z=>by
      rw[z]at h1 h2
      exact h2 ((fr q h1 h2).symm.trans hq)
     rw[Xb h1,Xb this];exact fr a h1 h2
 ·rintro σ M' ⟨v2,v3,v4,v5,v6,eM,fr,rfl⟩
  rw[uA,ug]at eM
  walk_at "st"
  refine YJ (enc:=wu ss) (lt:=wak) (as:=(ki ss).map (·.1)) (vw eM) (by rw[uA];lia) kU ?_ (fun a _ b _=>jby ss a b) fun bs hp' hs=>Xg (qb ?_) (.inl ?_)
  ·refine .tupI (fun d hd=>?_) fun a b ha hb=>?_
   ·obtain⟨q,_,rfl⟩:=uS.mp hd
    exact⟨_,_,rfl,Wbm ss q⟩
   ·obtain⟨q,_,e1⟩:=uS.mp ha
    obtain⟨q',_,e2⟩:=uS.mp hb
    cases e1;cases e2
    exact qbo ss q q'
  ·rw[uA,hp'.length_eq,uA];lia
  ·exact h bs M' hp' hs fun x o e=>by rw[fr x (fun z=>by rw[z,hp]at e;cases e) (by rw[e];exact fun z=>nomatch z)];exact e
structure LgD(b p:Addr)(M M1:HpD)(lg:Lgs):Prop where
 bx:∃o,M1 b=some o/\Ys o
 dc:M1 p=some (.dct (Zi lg))
 fr:∀a,a≠b->a≠p->M1 a=M a
theorem LgD.step{b p:Addr}{M M1 M2:HpD}{lg:Lgs}(t:LgD b p M M1 lg)(hn:p≠b)(f:Fr b M1 M2):LgD b p M M2 lg:=
 ⟨f.1,(f.2 p hn).trans t.dc,fun a z1 z2=>(f.2 a z1).trans (t.fr a z1 z2)⟩
def Yw:SpD:=fun ds M Q=>∃(b:Addr) (o:OD) (ns:List Str),ds=[.ref b,.lst (ns.map D.str)]/\M b=some o/\Ys o/\ns.Nodup/\ns.length<=12/\∀lg p M',lg.map (·.1)=ns->M p=none->LgD b p M M' lg->Q (.ref p) M'
theorem qal(ds:List D)(M:HpD)(Q:KD)(h:Yw ds M Q):wV ja {nx:=fun _ M'=>Q .non M',rt:=Q} (Zg ["_law_box_here","_law_names_here","_law_found","_law_name"] ds) M:=by
 obtain⟨b,o,ns,rfl,eM,hb,nd,hl,h⟩:=h
 unfold wV
 walk_at "st"
 intro p hp
 have hpb:p≠b:=fun z=>by rw[z,eM]at hp;cases hp
 have g0:LgD b p M (wc M p (.dct (Zi []))) []:=⟨⟨o,by rw[Xb (Ne.symm hpb)];exact eM,hb⟩,Xc,fun a _ z=>Xb z⟩
 walk_at "st"
 refine⟨fun i σ M'=>∃(lg:Lgs) (v3:Option D),LgD b p M M' lg/\lg.map (·.1)=ns.take i/\σ=[some (.ref b),some (.lst (ns.map D.str)),some (.ref p),v3],⟨[],_,g0,by simp,rfl⟩,fun _ _ _ _=>rfl,?_,?_⟩
 ·rintro i y σ M' e ⟨lg,v3,g,hk,rfl⟩
  rw[uG]at e
  obtain⟨n,en,rfl⟩:=uV.mp e
  have hi:i<ns.length:=(uO.mp en).1
  obtain⟨o1,e1,b1⟩:=g.bx
  walk_at "st"
  refine⟨b,_,o1,rfl,by decide,by decide,e1,b1,fun r1 M2 _ _ f2=>?_⟩
  have g2:=g.step hpb f2
  obtain⟨o2,e2,b2⟩:=g2.bx
  walk_at "st"
  refine⟨b,_,o2,rfl,by decide,by decide,e2,b2,fun r2 M3 _ _ f3=>?_⟩
  have g3:=g2.step hpb f3
  obtain⟨o3,e3,b3⟩:=g3.bx
  walk_at "st"
  refine⟨b,_,o3,rfl,by decide,by decide,e3,b3,fun r3 M4 _ _ f4=>?_⟩
  have g4:=g3.step hpb f4
  obtain⟨o4,e4,b4⟩:=g4.bx
  walk_at "st"
  refine Xg (qb (by show 4<=1000;decide)) ?_
  walk_at "st"
  refine⟨b,_,o4,rfl,by decide,by decide,e4,b4,fun r4 M5 z0 z1 f5=>?_⟩
  have g5:=g4.step hpb f5
  obtain⟨v,hat⟩:∃v:Int,atI [D.int r1,.int r2,.int r3,.int 1000] r4=some (.int v):=by
   have:r4=0\/r4=1\/r4=2\/r4=3:=by lia
   rcases this with rfl | rfl | rfl | rfl<;>exact⟨_,rfl⟩
  refine vq rfl hat ?_
  walk_at "st"
  have hkl:lg.length=i:=by
   have:=congrArg xV hk
   rw[uA,uX]at this
   lia
  refine⟨p,_,.inr n,rfl,g5.dc,rfl,uP (by unfold Zi;rw[uA];lia) (qb (n:=1000) (by decide)),?_⟩
  have ep:ju (Zi lg) (.inr n) (.int v)=Zi (lg++[(n,v)]):=by
   unfold Zi
   rw[qN fun kv hkv=>?_,uN]
   ·rfl
   ·obtain⟨q,hq,rfl⟩:=uS.mp hkv
    intro z
    injection z with z
    have m1:q.1∈ns.take i:=by rw[←hk];exact uS.mpr ⟨q,hq,rfl⟩
    rw[z]at m1
    obtain⟨j,hj,ej⟩:=uu m1
    rw[uX]at hj
    rw[yA]at ej
    have en':n=ns[i]:=by rw[uB hi]at en;exact(Option.some.inj en).symm
    have:=(xy.mp nd)
    rw[xH]at this
    exact this j i (by lia) hi (by lia) (by rw[ej,en'])
  rw[ep]
  refine⟨lg++[(n,v)],_,⟨?_,Xc,fun a z1 z2=>by rw[Xb z2];exact g5.fr a z1 z2⟩,?_,rfl⟩
  ·rw[Xb (Ne.symm hpb)];exact g5.bx
  ·rw[uN,hk,ud,en];rfl
 ·rintro σ M' ⟨lg,v3,g,hk,rfl⟩
  rw[uA,ug]at hk
  walk_at "st"
  exact .inl (h lg p M' hk hp g)
noncomputable def jI(p:Str×Int):Yf:=[.inr p.1,.inl p.2]
noncomputable def ZC(P:List (Str×Int)):List (Yf×D):=P.map fun p=>(jI p,.bl true)
theorem qaE{a b:Str×Int}(h:jI a=jI b):a=b:=by
 unfold jI at h
 injection h with h1 h2
 injection h2 with h2 _
 injection h1 with h1
 injection h2 with h2
 exact Prod.ext h1 h2
theorem va0(P:List (Str×Int))(x:Str×Int):(XE (ZC P) (jI x)).isSome=decide (x∈P):=by
 unfold ZC
 induction P with
 | nil=>rfl
 | cons p P ih=>
  rw[uH]
  by_cases z:p=x
  ·rw[Y9 (by rw[z])];simp[z]
  ·rw[vaa (fun e=>z (qaE e)),ih]
   have:(x∈p::P)↔x∈P:=by rw[uZ];exact⟨fun q=>q.elim (fun e=>absurd e.symm z) id,.inr⟩
   simp only[this]
theorem waK{P:List (Str×Int)}{x:Str×Int}(h:x∉P):kL (ZC P) (jI x) (.bl true)=ZC (P++[x]):=by
 unfold ZC
 rw[Yaa fun kv hkv=>?_,uN]
 ·rfl
 ·obtain⟨p,hp,rfl⟩:=uS.mp hkv
  exact fun z=>h (qaE z▸hp)
noncomputable def lgd(lg:Lgs)(P:List (Str×Int)):Lgs:=lg.map fun p=>(p.1,p.2 - ((dl P p.1).length:Int))
theorem wav(lg:Lgs)(P:List (Str×Int)):(lgd lg P).map (·.1)=lg.map (·.1):=by unfold lgd;rw[uh];rfl
theorem qaB{lg:Lgs}{P:List (Str×Int)}{n:Str}(h:n∈lg.map (·.1)):YE (lgd lg P) n=YE lg n - ((dl P n).length:Int):=by
 unfold YE lgd
 induction lg with
 | nil=>simp at h
 | cons p lg ih=>
  rw[uH]
  by_cases z:p.1=n
  ·simp[uq,z]
  ·have:=ih ((uZ.mp h).elim (fun e=>absurd e.symm z) id)
   simp only[uq,z,decide_false]
   exact this
theorem WaL{lg:Lgs}{P:List (Str×Int)}{n:Str}{d:Int}(nd:(lg.map (·.1)).Nodup)(h:n∈lg.map (·.1)) :
  ju (Zi (lgd lg P)) (.inr n) (.int (YE lg n - ((dl P n).length:Int) - 1))=Zi (lgd lg (P++[(n,d)])):=by
 unfold ju
 have hany:((Zi (lgd lg P)).any fun kv=>decide (kv.1=(.inr n:Key)))=true:=by
  obtain⟨p,hp,e⟩:=uS.mp h
  refine yV.mpr ⟨(.inr p.1,.int (p.2 - ((dl P p.1).length:Int))),?_,by simp[e]⟩
  unfold Zi lgd
  rw[uh]
  exact uS.mpr ⟨p,hp,rfl⟩
 rw[if_pos hany]
 unfold Zi lgd
 rw[uh,uh,uh]
 apply xZ
 intro p hp
 simp only[Function.comp]
 rw[kW]
 by_cases z:p.1=n
 ·have ea:YE lg n=p.2:=by
   unfold YE
   have:lg.find? (fun q=>decide (q.1=n))=some p:=by
    cases q:lg.find? fun q=>decide (q.1=n) with
    | none=>exact absurd (List.find?_eq_none.mp q p hp) (by simp[z])
    | some t=>
     have e:t.1=n:=by simpa using List.find?_some q
     have ht:=yB q
     obtain⟨i,hi,rfl⟩:=uu ht
     obtain⟨j,hj,rfl⟩:=uu hp
     have hne:=(xy.mp nd)
     rw[xH]at hne
     rcases Nat.lt_trichotomy i j with y | y | y
     ·have:=hne i j (by rw[uA];exact hi) (by rw[uA];exact hj) y
      rw[xc,xc]at this
      exact absurd (e.trans z.symm) this
     ·subst y;rfl
     ·have:=hne j i (by rw[uA];exact hj) (by rw[uA];exact hi) y
      rw[xc,xc]at this
      exact absurd (z.trans e.symm) this
   rw[this];rfl
  rw[if_pos (by rw[z]),if_pos z.symm,ea,z,uE]
  simp only[Prod.mk.injEq,D.int.injEq,true_and]
  push_cast
  simp;lia
 ·rw[if_neg (fun e=>z (by injection e)),if_neg (fun e=>z e.symm)]
theorem ZaI{rows:List Row}{i:Nat}{r:Row}(e:rows[i]?=some r):Ze rows=Ze (rows.take i)++(prs r++Ze (rows.drop (i+1))):=by
 have hi:i<rows.length:=(uO.mp e).1
 have h1:rows=rows.take i++(r::rows.drop (i+1)):=by
  have:=(uz i rows).symm
  rw[x9 hi]at this
  rw[uB hi]at e
  rw[Option.some.inj e]at this
  exact this
 conv=>lhs;rw[h1]
 unfold Ze
 rw[yZ,List.flatMap_cons]
theorem va1{r:Row}{j:Nat}{n:Str}(e:r.2.2[j]?=some n):prs r=(r.2.2.take j).map (fun n=>(n,r.1))++((n,r.1)::(r.2.2.drop (j+1)).map fun n=>(n,r.1)):=by
 have hj:j<r.2.2.length:=(uO.mp e).1
 unfold prs
 conv=>lhs;rw[←uz j r.2.2,x9 hj]
 rw[uB hj]at e
 rw[Option.some.inj e,uN,uH]
theorem jbt(P R:List (Str×Int))(n:Str):(dl P n).length<=(dl (P++R) n).length:=by
 unfold dl
 rw[yL,uN,uE]
 lia
structure WaG(ss:List Sho)(lg:Lgs)(lv:Lvs)(M M':HpD)(ql qh:Addr)(P:List (Str×Int)):Prop where
 mo:Mo M M'
 l:M' ql=some (.dct (Zi (lgd lg P)))
 h:M' qh=some (.dtt (ZC P))
 nd:P.Nodup
 ct:∀n d,(n,d)∈P->((dl P n).length:Int)<=YE lg n
 ne:ql≠qh
 nl:M ql=none
 nh:M qh=none
def jm:SpD:=fun ds M Q=>∃(dL dV dR:D) (ss:List Sho) (lg:Lgs) (lv:Lvs) (rows:List Row),ds=[.lst (ss.map qf),dL,dV,dR]/\GdIn M (.lst (ss.map qf)) dL dV dR ss lg lv rows/\(lg.map (·.1)).Nodup/\∀b M',(b=true↔WaO ss lg lv rows)->Mo M M'->Q (.bl b) M'
theorem qbi{d:D}{M:HpD}{kvs:List (Key×D)}(h:Zr d M=some kvs):dcD d M=some kvs:=by
 cases d with
 | ref p=>exact h
 | _=>cases h
theorem jX(ds:List D)(M:HpD)(Q:KD)(h:jm ds M Q):ZJ Xn Xl {nx:=fun _ M'=>Q .non M',rt:=Q} (Zg ["_law_shows_here","_law_lights_here","_law_leaves_here","_law_rows","_law_rooms_here","_law_room","_law_left","_law_had","_law_day_here","_law_show","_law_names_here","_law_name"] ds) M:=by
 obtain⟨dL,dV,dR,ss,lg,lv,rows,rfl,I,lnd,h⟩:=h
 have sl:=qA (ss:=ss) fun x hx=>wy I.g hx
 have g8:=I.g.ln
 have rl:=I.rl
 unfold ZJ
 walk_at "st"
 refine⟨I.g,fun bs M1 hp hs m1=>?_⟩
 have I1:=I.mo m1
 have hbl:bs.length<=240:=by rw[hp.length_eq,uA];lia
 walk_at "st"
 refine⟨_,I1.r,qb (by rw[uA];lia),fun i ys σ M'=>∃v0 v5 v6 v7 v8 v9 v10 v11:Option D,M1=M'/\σ=[v0,some (.lst (ss.map qf)),some dL,some dV,some dR,some (.lst (bs.map (wu ss))),v5,v6,v7,v8,v9,v10,v11]/\ys=((rows.take i).map jz).map ZG,⟨_,_,_,_,_,_,_,_,rfl,rfl,by simp⟩,fun i ys σ M' z=>by obtain⟨_,_,_,_,_,_,_,_,rfl,_⟩:=z;exact I1.r,?_,?_⟩
 ·rintro i y ys σ M' e ⟨v0,v5,v6,v7,v8,v9,v10,v11,rfl,rfl,rfl⟩
  rw[uG]at e
  obtain⟨r,er,rfl⟩:=uV.mp e
  have tk:rows.take (i+1)=rows.take i++[r]:=by rw[ud,er];rfl
  unfold Wj
  walk_at "st"
  exact⟨_,_,_,_,_,_,_,_,rfl,rfl,by rw[tk];simp[ZG,spL,jz]⟩
 rintro ys σ M' ⟨v0,v5,v6,v7,v8,v9,v10,v11,rfl,rfl,rfl⟩
 rw[uA,ug]
 refine Xg (qb (by rw[uA,uA];lia)) ?_
 walk_at "st"
 refine⟨qb (by rw[uA];lia),fun i ys σ M'=>∃v0:Option D,M1=M'/\σ=v0::[some (.lst (ss.map qf)),some dL,some dV,some dR,some (.lst (bs.map (wu ss))),none,none,none,none,none,none,none]/\ys=(bs.take i).map ZG,⟨_,rfl,rfl,by simp⟩,fun _ _ _ _ _=>rfl,?_,?_⟩
 ·rintro i y ys σ M' e ⟨v0,rfl,rfl,rfl⟩
  rw[uG]at e
  obtain⟨r,er,rfl⟩:=uV.mp e
  have tk:bs.take (i+1)=bs.take i++[r]:=by rw[ud,er];rfl
  unfold wu rmL
  walk_at "st"
  exact⟨_,rfl,rfl,by rw[tk];simp[ZG,spL]⟩
 rintro ys σ M' ⟨v0,rfl,rfl,rfl⟩
 rw[uA,ug]
 refine Xg (qb (by rw[uA];lia)) ?_
 refine ZZ jaw rfl rfl ?_
 walk_at "st"
 by_cases h1:rows.map jz=bs
 case neg=>
  rw[decide_eq_false h1,if_pos (by decide)]
  walk_at "st"
  exact .inl (h false _ (Iff.intro (fun z=>by cases z) fun z=>absurd (XN kU (z.pm.trans hp.symm) z.so hs) h1) m1)
 rw[decide_eq_true h1,if_neg (by decide)]
 walk_at "st"
 refine vab (qbi I1.l) fun ql hql=>?_
 walk_at "st"
 intro qh hqh
 have nq:qh≠ql:=fun z=>by rw[z,Xc]at hqh;cases hqh
 have nl:M ql=none:=by
  cases q:M ql with
  | none=>rfl
  | some o=>rw[m1 _ _ q]at hql;cases hql
 have nh:M qh=none:=by
  cases q:M qh with
  | none=>rfl
  | some o=>rw[Xb nq,m1 _ _ q]at hqh;cases hqh
 have L0:WaG ss lg lv M (wc (wc M1 ql (.dct (Zi lg))) qh (.dtt [])) ql qh []:=⟨m1.trans ((Zah hql).trans (Zah hqh)),by
  rw[Xb (Ne.symm nq),Xc]
  unfold lgd
  have:(lg.map fun p=>(p.1,p.2 - ((dl [] p.1).length:Int)))=lg:=by
   conv=>rhs;rw[←List.map_id lg]
   apply xZ
   intro p _
   simp[dl]
  rw[this],by rw[Xc];rfl,xR,fun n d z=>by simp at z,Ne.symm nq,nl,nh⟩
 have hzl:(YQ (rows.map Wj) (bs.map (wu ss))).length=rows.length:=by
  unfold YQ
  rw[List.length_zipWith,uA,uA,←h1,uA]
  exact Nat.min_self _
 walk_at "st"
 refine⟨_,_,_,_,rfl,(I.mo L0.mo).r,rfl,fun i σ M'=>∃v5 v8 v9 v10 v11:Option D,WaG ss lg lv M M' ql qh (Ze (rows.take i))/\(∀r∈rows.take i,Zav ss lv r)/\σ=[some (.lst (ss.map qf)),some dL,some dV,some dR,some (.lst (bs.map (wu ss))),v5,some (.ref ql),some (.ref qh),v8,v9,v10,v11],⟨_,_,_,_,_,L0,by simp,rfl⟩,fun i σ M' z=>by obtain⟨_,_,_,_,_,L,_⟩:=z;exact⟨(I.mo L.mo).r,rfl⟩,?_,?_⟩
 ·rintro i y σ M' e ⟨v5,v8,v9,v10,v11,L,hro,rfl⟩
  have hi:i<rows.length:=by rw[←hzl];exact(uO.mp e).1
  have er:rows[i]?=some rows[i]:=uB hi
  have ea:bs[i]?=some (jz rows[i]):=by rw[←h1,uG,er];rfl
  have ey:y=.tup [Wj rows[i],wu ss (jz rows[i])]:=by
   unfold YQ at e
   rw[List.getElem?_zipWith,uG,uG,er,ea]at e
   exact(Option.some.inj e).symm
  subst ey
  generalize rows[i]=r at er ea
  have hr:r∈rows:=uF er
  have hrn:=I.rn r hr
  obtain⟨q,hq,eq⟩:=ka0 h1 hp hr
  obtain⟨hs1,hs2⟩:=Yar hq
  have e1:q.1.1=r.1:=by rw[eq];rfl
  have e2:q.2.nm=r.2.1:=by rw[hs2,eq];rfl
  have esz:jaQ ss r.2.1=q.2.sz:=by rw[←e2,WaM I.g.nd hs1]
  have eth:qB ss r.2.1=q.2.th:=by rw[←e2,kaL I.g.nd hs1]
  have hrow:WaO ss lg lv rows->Strict sLt r.2.2/\(r.2.2.length:Int)<=q.2.sz/\∀n∈r.2.2,n∈q.2.th/\aw lv n r.1=false:=fun z=>by
   obtain⟨s,hs',es,a⟩:=z.rw_ r hr
   have:s=q.2:=vaj I.g.nd hs' hs1 (by rw[es,e2])
   subst this
   exact a
  have tk:Ze (rows.take (i+1))=Ze (rows.take i)++prs r:=by
   rw[ud,er]
   unfold Ze
   simp[yZ]
  have no:∀{M2:HpD},Mo M M2->(WaO ss lg lv rows->False)->Q (.bl false) M2:=fun m z=>h false _ (Iff.intro (fun y=>by cases y) fun y=>(z y).elim) m
  unfold Wj wu rmL jz
  walk_at "st"
  rw[uA,esz,eth]
  refine ZA (fun c1=>?_) (fun c1=>?_)
  ·rw[if_pos rfl]
   walk_at "st"
   exact .inl (no L.mo fun z=>by have:=(hrow z).2.1;lia)
  walk_at "st"
  refine YJ (enc:=D.str) (lt:=sLt) (as:=r.2.2) rfl (by lia) jv (.kS fun d hd=>by obtain⟨x,_,rfl⟩:=uS.mp hd;exact⟨x,rfl⟩) (fun _ _ _ _=>rfl) fun bs' hp' hs'=>Xg (qb (by rw[uA,hp'.length_eq];lia)) ?_
  walk_at "st"
  refine ZZ WG rfl rfl ?_
  walk_at "st"
  by_cases c2:bs'=r.2.2
  case neg=>
   rw[decide_eq_false c2,if_pos (by decide),if_pos rfl]
   walk_at "st"
   exact .inl (no L.mo fun z=>c2 (XN jv hp' hs' ((hrow z).1.srt jv)))
  rw[decide_eq_true c2,if_neg (by decide)]
  walk_at "st"
  refine⟨r.2.2.map Sum.inr,by rw[uh];rfl,by rw[uA];lia,fun ms nd me=>?_⟩
  walk_at "st"
  have hinr:(r.2.2.map (Sum.inr:Str->Key)).Nodup↔r.2.2.Nodup:=by
   unfold yY
   rw[xX]
   exact⟨fun z=>z.imp fun h e=>h (by rw[e]),fun z=>z.imp fun h e=>h (by injection e)⟩
  rw[uA]
  refine ZA (fun c3=>?_) (fun c3=>?_)
  ·walk_at "st"
   exact .inl (no L.mo fun z=>by
    have:=X1 nd me (hinr.mpr ((hrow z).1.nodup jv))
    rw[uA]at this
    lia)
  have hst:Strict sLt r.2.2:=Xaq jv (by rw[←c2];exact hs') (hinr.mp (XY nd me (by rw[uA];lia)))
  walk_at "st"
  refine⟨fun j σ M2=>∃v11:Option D,WaG ss lg lv M M2 ql qh (Ze (rows.take i)++(r.2.2.take j).map fun n=>(n,r.1))/\(∀n∈r.2.2.take j,n∈q.2.th/\aw lv n r.1=false)/\σ=[some (.lst (ss.map qf)),some dL,some dV,some dR,some (.lst (bs.map (wu ss))),some (.tup [.int r.1,.str r.2.1,.int q.2.sz,.tup (q.2.th.map D.str)]),some (.ref ql),some (.ref qh),some (.int r.1),some (.str r.2.1),some (.lst (r.2.2.map D.str)),v11],⟨_,by simpa using L,by simp,rfl⟩,fun _ _ _ _=>rfl,?_,?_⟩
  ·rintro j y σ M2 ej ⟨v11,L2,hok,rfl⟩
   rw[uG]at ej
   obtain⟨n,en,rfl⟩:=uV.mp ej
   have hn:n∈r.2.2:=uF en
   have tk2:(r.2.2.take (j+1)).map (fun n=>(n,r.1))=(r.2.2.take j).map (fun n=>(n,r.1))++[(n,r.1)]:=by rw[ud,en];simp
   have tk3:r.2.2.take (j+1)=r.2.2.take j++[n]:=by rw[ud,en];rfl
   have whole:Ze rows=(Ze (rows.take i)++(r.2.2.take j).map fun n=>(n,r.1))++[(n,r.1)]++((r.2.2.drop (j+1)).map (fun n=>(n,r.1))++Ze (rows.drop (i+1))):=by
    rw[ZaI er,va1 en]
    simp[uf]
   generalize eP:(Ze (rows.take i)++(r.2.2.take j).map fun n=>(n,r.1))=P at L2 whole
   walk_at "st"
   refine Xav rfl rfl kO ?_
   rw[vR,if_pos rfl]
   walk_at "st"
   by_cases c4:n∈q.2.th
   case neg=>
    rw[decide_eq_false c4,if_pos (by decide),if_pos rfl]
    walk_at "st"
    exact .inl (no L2.mo fun z=>c4 ((hrow z).2.2 n hn).1)
   rw[decide_eq_true c4,if_neg (by decide)]
   walk_at "st"
   refine⟨qh,_,jI (n,r.1),rfl,L2.h,rfl,?_⟩
   rw[va0,yR]
   walk_at "st"
   refine ZA (fun c5=>?_) (fun c5=>?_)
   ·walk_at "st"
    exact .inl (no L2.mo fun z=>by
     have:=z.nd
     rw[whole,xM,xM]at this
     exact this.1.2.2 _ c5 _ (uL.mpr rfl) rfl)
   walk_at "st"
   refine⟨dV,lv,n,r.1,rfl,(I.mo L2.mo).v,I.gv,?_⟩
   walk_at "st"
   refine⟨_,by unfold ZQ;rfl,?_⟩
   cases c6:aw lv n r.1 with
   | true=>
    rw[if_pos rfl,if_pos rfl]
    walk_at "st"
    exact .inl (no L2.mo fun z=>by have:=((hrow z).2.2 n hn).2;rw[c6]at this;cases this)
   | false=>
    rw[if_neg (by decide)]
    have hnl:n∈lg.map (·.1):=I.t q.2 hs1 n c4
    have hnl':n∈(lgd lg P).map (·.1):=by rw[wav];exact hnl
    walk_at "st"
    refine⟨_,.inr n,_,vC L2.l,rfl,YY hnl',?_⟩
    rw[qaB hnl]
    walk_at "st"
    have dapp:(dl (P++[(n,r.1)]) n).length=(dl P n).length+1:=by rw[kW,if_pos rfl,uE];rfl
    refine ZA (fun c7=>?_) (fun c7=>?_)
    ·walk_at "st"
     exact .inl (no L2.mo fun z=>by
      have h9:=z.ct n r.1 (by rw[whole];simp)
      have h8:=jbt (P++[(n,r.1)]) ((r.2.2.drop (j+1)).map (fun n=>(n,r.1))++Ze (rows.drop (i+1))) n
      rw[←whole,dapp]at h8
      lia)
    walk_at "st"
    have hsz:(ZC P).length<sizeLine:=by
     unfold ZC
     rw[uA,sizeLine_eq]
     have h8:=Waq (rows:=rows) I.rn
     rw[whole]at h8
     simp only[uE]at h8
     lia
    refine⟨qh,_,jI (n,r.1),rfl,L2.h,rfl,hsz,?_⟩
    rw[waK c5]
    walk_at "st"
    refine⟨_,.inr n,_,vC (by rw[Xb L2.ne];exact L2.l),rfl,YY hnl',?_⟩
    rw[qaB hnl]
    walk_at "st"
    refine⟨ql,_,.inr n,rfl,by rw[Xb L2.ne];exact L2.l,rfl,?_,?_⟩
    ·refine Nat.lt_of_le_of_lt ?_ (uP (show 1000<1001 by decide) ?_)
     ·unfold Zi lgd;rw[uA,uA];exact I.ll
     ·rw[sizeLine_eq];lia
    rw[WaL (d:=r.1) lnd hnl]
    refine⟨_,⟨fun x o e=>?_,?_,?_,?_,fun m d hd=>?_,L2.ne,L2.nl,L2.nh⟩,fun m hm=>?_,rfl⟩
    ·rw[Xb (fun z=>by rw[z,L2.nl]at e;cases e),Xb (fun z=>by rw[z,L2.nh]at e;cases e)]
     exact L2.mo x o e
    ·rw[Xc,tk2,←uf,eP]
    ·rw[Xb (Ne.symm L2.ne),Xc,tk2,←uf,eP]
    ·rw[tk2,←uf,eP]
     exact xM.mpr ⟨L2.nd,by simp,fun x hx y hy z=>by rw[uL]at hy;subst hy;exact c5 (z▸hx)⟩
    ·rw[tk2,←uf,eP]at hd ⊢
     by_cases z:n=m
     ·subst z;rw[dapp];lia
     ·rw[kW,if_neg z]
      rcases uQ.mp hd with w | w
      ·exact L2.ct m d w
      ·rw[uL]at w;cases w;exact absurd rfl z
    ·rw[tk3]at hm
     rcases uQ.mp hm with w | w
     ·exact hok m w
     ·rw[uL]at w;rw[w];exact⟨c4,c6⟩
  ·rintro σ M2 ⟨v11,L2,hok,rfl⟩
   rw[uA,ug]at L2 hok
   refine⟨_,_,_,_,_,by rw[tk];exact L2,fun x hx=>?_,rfl⟩
   rw[ud,er]at hx
   rcases uQ.mp hx with w | w
   ·exact hro x w
   ·have:x=r:=by simpa using w
    rw[this]
    exact⟨q.2,hs1,e2,hst,by lia,hok⟩
 ·rintro σ M' ⟨v5,v8,v9,v10,v11,L,hro,rfl⟩
  rw[hzl,ug]at L hro
  walk_at "st"
  exact .inl (h true _ (Iff.intro (fun _=>⟨by rw[h1];exact hp,by rw[h1];exact hs,hro,L.nd,L.ct⟩) fun _=>rfl) L.mo)
theorem vbj:EqF Wj:=⟨fun a b=>by
  have:=(WK WG a.2.2 b.2.2).1
  simp[Wj,okD,Xs,this],fun a b=>by
  have h2:=(WK WG a.2.2 b.2.2).2
  obtain⟨a1,a2,a3⟩:=a
  obtain⟨b1,b2,b3⟩:=b
  unfold Wj
  unfold eqD
  simp only[kj]
  rw[eqI,eqS]
  have:eqD (.lst (a3.map D.str)) (.lst (b3.map D.str))=decide (a3=b3):=by unfold eqD;exact h2
  rw[this]
  by_cases z:a1=b1<;>by_cases y:a2=b2<;>by_cases x:a3=b3<;>simp[z,y,x],fun a=>by
  have h3:Xh (a.2.2.map D.str)=0:=by
   induction a.2.2 with
   | nil=>simp[Xh]
   | cons x l ih=>rw[uH,Xh,ih];simp[Zn]
  simp[Wj,Zn,Xh,h3]⟩
theorem waV:EqF jM:=⟨fun a b=>by simp[jM,okD,Xs],fun a b=>by
  obtain⟨a1,a2⟩:=a
  obtain⟨b1,b2⟩:=b
  unfold jM
  unfold eqD
  simp only[kj]
  rw[eqI,eqI]
  by_cases z:a1=b1<;>by_cases y:a2=b2<;>simp[z,y],fun a=>by simp[jM,Zn,Xh]⟩
theorem YaB{β:Type}:∀{l:List (Key×β)},(l.map (·.1)).Nodup->∀{kv:Key×β},kv∈l->Wr l kv.1=some kv.2
 | [],_,kv,h=>by simp at h
 | p::l,nd,kv,h=>by
  rw[uH,uv]at nd
  rcases uZ.mp h with rfl | h
  ·exact ZO rfl
  ·rw[WM (fun e=>nd.1 (uS.mpr ⟨kv,h,e.symm⟩))]
   exact YaB nd.2 h
theorem Xac{M:HpD}{x y:D}{kvs:List (Key×D)}(nd:(kvs.map (·.1)).Nodup)(hs:∀kv∈kvs,okD kv.2 kv.2=true/\eqD kv.2 kv.2=true/\Zn kv.2<=50)(hx:dcD x M=some kvs)(hy:dcD y M=some kvs):qU M x y:=
 .inr ⟨kvs,kvs,hx,hy,rfl,fun kv h=>⟨kv.2,YaB nd h,hs kv h⟩⟩
theorem XG{α:Type}{f:α->D}{l:List α}{x:D}{r:Int}{M:HpD}{Q:KD}(h:kn x M=some (l.map f))(r0:0<=r)(r1:r<(l.length:Int))(q:∀v,l[r.toNat]?=some v->Q (f v) M):Zh x (.int r) M Q:=by
 obtain⟨j,rfl⟩:=yH r0
 have hlt:j<l.length:=by lia
 have e:l[j]?=some l[j]:=uB hlt
 exact vq h (Wam (by rw[uG,e];rfl)) (q l[j] e)
theorem ja7{ns:List Str}{i:Nat}{n:Str}(nd:ns.Nodup)(en:ns[i]?=some n):n∉ns.take i:=fun m1=>by
 have hi:i<ns.length:=(uO.mp en).1
 obtain⟨j,hj,ej⟩:=uu m1
 rw[uX]at hj
 rw[yA]at ej
 have en':n=ns[i]:=by rw[uB hi]at en;exact(Option.some.inj en).symm
 have:=(xy.mp nd)
 rw[xH]at this
 exact this j i (by lia) hi (by lia) (by rw[ej,en'])
noncomputable def Xz(lv:Lvs):D:=.fdc ((kg lv).map (·.1)) ((kg lv).map (·.2))
theorem j5(lv:Lvs)(M:HpD):dcD (Xz lv) M=some (kg lv):=by
 show some (((kg lv).map (·.1)).zip ((kg lv).map (·.2)))=_
 congr 1
 induction kg lv with
 | nil=>rfl
 | cons x l ih=>rw[uH,uH,yK,ih]
structure qaj(lv:Lvs):Prop where
 ln:lv.length<=13
 sh:GLv lv
 nd:(lv.map (·.1)).Nodup
theorem vaf{all:Bool}{ns:List Str}{es:List D}(h:YaQ all (ns.map D.str) es):∃th:List Str,es=th.map D.str/\th.length<=ns.length/\∀x∈th,x∈ns:=by
 obtain⟨l,sub,per,_⟩:=h
 have hm:∀d∈es,∃x∈ns,d=.str x:=fun d hd=>by
  obtain⟨x,hx,e⟩:=uS.mp (sub.subset (per.mem_iff.mp hd))
  exact⟨x,hx,e.symm⟩
 have hl:es.length<=ns.length:=by
  rw[per.length_eq]
  have:=sub.length_le
  rw[uA]at this
  exact this
 clear sub per
 have:∃th:List Str,es=th.map D.str/\∀x∈th,x∈ns:=by
  clear hl
  induction es with
  | nil=>exact⟨[],rfl,by simp⟩
  | cons d es ih=>
   obtain⟨th,e,hth⟩:=ih fun d hd=>hm d (uW _ hd)
   obtain⟨x,hx,rfl⟩:=hm d uc
   exact⟨x::th,by rw[e];rfl,fun y hy=>(uZ.mp hy).elim (fun z=>z▸hx) (hth y)⟩
 obtain⟨th,e,hth⟩:=this
 exact⟨th,e,by rw[e,uA]at hl;exact hl,hth⟩
structure Hall(b p:Addr)(M':HpD)(ss:List Sho)(lg:Lgs)(lv:Lvs):Prop where
 s:GSh ss
 t:∀s∈ss,∀x∈s.th,x∈lg.map (·.1)
 nd:(lg.map (·.1)).Nodup
 ln:lg.length<=12
 v:qaj lv
 d:M' p=some (.dct (Zi lg))
 pb:p≠b
theorem Hall.fx{b p:Addr}{M M':HpD}{ss:List Sho}{lg:Lgs}{lv:Lvs}(h:Hall b p M ss lg lv)(f:Fx b M M'):Hall b p M' ss lg lv:=
 ⟨h.s,h.t,h.nd,h.ln,h.v,f.old p _ h.pb h.d,h.pb⟩
theorem Fx.step{b:Addr}{M M1 M2:HpD}(f:Fx b M M1)(g:Fr b M1 M2):Fx b M M2:=f.trans (Fx.of g)
structure ShP(ns:List Str)(s:Sho):Prop where
 dy:0<=s.b/\s.b<=1000000000/\s.b<=s.l/\s.l<=s.b+29
 sz:1<=s.sz/\s.sz<=12
 th:s.th.length<=12
 ns:∀x∈s.th,x∈ns
def Zy:SpD:=fun ds M Q=>∃(b:Addr) (o:OD) (ns:List Str),ds=[.ref b,.lst (ns.map D.str)]/\M b=some o/\Ys o/\ns.length<=12/\∀ss M',GSh ss->(∀s∈ss,∀x∈s.th,x∈ns)->Fx b M M'->Q (.lst (ss.map qf)) M'
theorem WaA{α:Type}{f:α->D}:∀{es:List D} {as:List α},es.Perm (as.map f)->∃bs:List α,es=bs.map f/\bs.Perm as
 | [],as,h=>by
  have:=h.length_eq
  rw[uA]at this
  exact⟨[],rfl,by rw[ut.mp this.symm]⟩
 | d::es,as,h=>by
  obtain⟨a,ha,rfl⟩:=uS.mp (h.mem_iff.mp uc)
  obtain⟨l1,l2,rfl⟩:=List.append_of_mem ha
  have p1:((l1++a::l2).map f).Perm (f a::(l1++l2).map f):=by
   rw[uN,uH,uN]
   exact List.perm_middle
  obtain⟨bs,e,p⟩:=WaA (List.Perm.cons_inv (h.trans p1))
  exact⟨a::bs,by rw[e];rfl,(List.Perm.cons _ p).trans List.perm_middle.symm⟩
theorem kaI{ss:List Sho}{es:List D}(h:YaQ true (ss.map qf) es):∃ss':List Sho,es=ss'.map qf/\ss'.Perm ss:=by
 obtain⟨l,_,per,hall⟩:=h
 rw[hall rfl]at per
 exact WaA per
theorem at3{a b c:Int}{r:Int}(h0:0<=r)(h1:r<3):∃v:Int,atI [D.int a,.int b,.int c] r=some (.int v)/\(v=a\/v=b\/v=c):=by
 have:r=0\/r=1\/r=2:=by lia
 rcases this with rfl | rfl | rfl
 ·exact⟨a,rfl,.inl rfl⟩
 ·exact⟨b,rfl,.inr (.inl rfl)⟩
 ·exact⟨c,rfl,.inr (.inr rfl)⟩
theorem Wbq{x y:Int}{k:Bool}{M:HpD}{Q:KD}(q:∀n:Int,n=x\/n=y->Q (.int n) M):Zh (.lst [.int x,.int y]) (.int (if k=true then 1 else 0)) M Q:=by
 cases k
 ·exact vq rfl rfl (q x (.inl rfl))
 ·exact vq rfl rfl (q y (.inr rfl))
theorem Wat(ds:List D)(M:HpD)(Q:KD)(h:Zy ds M Q):qY wB ja Wn Yy Zk {nx:=fun _ M'=>Q .non M',rt:=Q} (Zg ["_law_box_here","_law_names_here","_law_first","_law_found","_law_long","_law_name","_law_begin","_law_last","_law_size","_law_things"] ds) M:=by
 obtain⟨b,o,ns,rfl,eM,hb,hl,h⟩:=h
 unfold qY
 walk_at "st"
 refine⟨b,o,rfl,eM,hb,fun first M1 f0 f1 fr1=>?_⟩
 walk_at "st"
 refine newM (qb (ua _)) fun p hp=>?_
 obtain⟨hpb,g0⟩:=Gro.start fr1 hp []
 obtain⟨o0,e0,b0⟩:=g0.bx
 walk_at "st"
 refine⟨b,_,o0,rfl,by decide,by decide,e0,b0,fun lng M2 _ _ f2=>?_⟩
 have g2:=g0.step hpb f2
 obtain⟨o2,e2,b2⟩:=g2.bx
 walk_at "st"
 refine⟨b,_,_,o2,rfl,by decide,by decide,by decide,by decide,e2,b2,fun k M3 k0 k1 f3=>?_⟩
 have g3:=g2.step hpb f3
 obtain⟨o3,e3,b3⟩:=g3.bx
 walk_at "st"
 refine⟨b,o3,k,rfl,by lia,by lia,e3,b3,fun nms M4 gn f4=>?_⟩
 have g4:=g3.step hpb f4
 obtain⟨nl,nnd,_⟩:=gn
 walk_at "st"
 refine⟨fun i σ M'=>∃(ss:List Sho) (v5 v6 v7 v8 v9:Option D),Gro b p M M' (ss.map qf)/\ss.map (·.nm)=nms.take i/\(∀s∈ss,ShP ns s)/\σ=[some (.ref b),some (.lst (ns.map D.str)),some (.int first),some (.ref p),some (.int lng),v5,v6,v7,v8,v9],⟨[],_,_,_,_,_,g4,by simp,by simp,rfl⟩,fun _ _ _ _=>rfl,?_,?_⟩
 ·rintro i y σ M' e ⟨ss,v5,v6,v7,v8,v9,g,hnm,hsp,rfl⟩
  rw[uG]at e
  obtain⟨nm,en,rfl⟩:=uV.mp e
  have hi:i<nms.length:=(uO.mp en).1
  have hsl:ss.length<=8:=by
   have:=congrArg xV hnm
   rw[uA,uX]at this
   lia
  have fin:∀(bg last:Int) (M1:HpD) (w8 w9:Option D),0<=bg->bg<=1000000000->bg<=last->last<=bg+29->Gro b p M M1 (ss.map qf)->∀DD:jn,(∀σ M2,(∃(ss:List Sho) (v5 v6 v7 v8 v9:Option D),Gro b p M M2 (ss.map qf)/\ss.map (·.nm)=nms.take (i+1)/\(∀s∈ss,ShP ns s)/\σ=[some (.ref b),some (.lst (ns.map D.str)),some (.int first),some (.ref p),some (.int lng),v5,v6,v7,v8,v9])->DD.nx σ M2) →
    (Zc (jc (Wb vh (tCD (.int 1)) (Wb Zh (jg (Za (Wa ja (Za (Ya 0) (Za (tCD (.int 2)) Xa))) (Za (Wa ja (Za (Ya 0) (Za (tCD (.int 3)) Xa))) (Za (Wa ja (Za (Ya 0) (Za (tCD (.int 12)) Xa))) Xa)))) (Wa ja (Za (Ya 0) (Za (tCD (.int 3)) Xa))))) (Zb 8)) (Zc (jc (Wa Zk (Za (Ya 0) (Za (Ya 1) (Za (Wb (Wi false) (Wa ja (Za (Ya 0) (Za (tCD (.int 3)) Xa))) (tCD (.int 0))) Xa)))) (Zb 9)) (kh (ww (Ya 3) (jf (Za (Ya 5) (Za (Ya 6) (Za (Ya 7) (Za (Ya 8) (Za (Wa j4 (Za (Ya 9) Xa)) Xa)))))))))) DD [some (.ref b),some (.lst (ns.map D.str)),some (.int first),some (.ref p),some (.int lng),some (.str nm),some (.int bg),some (.int last),w8,w9] M1:=by
   intro bg last M1 w8 w9 c0 c1 c2 c3 g1 DD hDD
   obtain⟨o1,e1,b1⟩:=g1.bx
   walk_at "st"
   refine⟨b,_,o1,rfl,by decide,by decide,e1,b1,fun x1 N1 y0 y1 q1=>?_⟩
   have g2:=g1.step hpb q1
   obtain⟨o2,e2,b2⟩:=g2.bx
   walk_at "st"
   refine⟨b,_,o2,rfl,by decide,by decide,e2,b2,fun x2 N2 z0 z1 q2=>?_⟩
   have g3:=g2.step hpb q2
   obtain⟨o3,e3,b3⟩:=g3.bx
   walk_at "st"
   refine⟨b,_,o3,rfl,by decide,by decide,e3,b3,fun x3 N3 w0 w1 q3=>?_⟩
   have g4:=g3.step hpb q3
   obtain⟨o4,e4,b4⟩:=g4.bx
   walk_at "st"
   refine Xg (qb (by show 3<=1000;decide)) ?_
   walk_at "st"
   refine⟨b,_,o4,rfl,by decide,by decide,e4,b4,fun x4 N4 u0 u1 q4=>?_⟩
   have g5:=g4.step hpb q4
   obtain⟨o5,e5,b5⟩:=g5.bx
   obtain⟨v,hat,hv⟩:=at3 (a:=x1) (b:=x2) (c:=x3) u0 u1
   refine vq rfl hat ?_
   walk_at "st"
   refine⟨b,_,o5,rfl,by decide,by decide,e5,b5,fun x5 N5 _ _ q5=>?_⟩
   have g6:=g5.step hpb q5
   obtain⟨o6,e6,b6⟩:=g6.bx
   walk_at "st"
   refine⟨b,o6,.lst (ns.map D.str),_,ns.map D.str,rfl,e6,b6,rfl,(fun q e=>nomatch e),by rw[uA];lia,fun es N6 hd q6=>?_⟩
   have g7:=g6.step hpb q6
   obtain⟨th,rfl,tl,tm⟩:=vaf hd
   walk_at "st"
   refine⟨⟨_,g7.ls⟩,?_⟩
   walk_at "st"
   refine vbk rfl (qb (by rw[uA];lia)) ?_
   walk_at "st"
   refine⟨_,g7.ls,uP (by rw[uA];lia) (qb (n:=100) (by decide)),?_⟩
   refine hDD _ _ ⟨ss++[⟨nm,bg,last,1+v,th⟩],_,_,_,_,_,by rw[uN];exact g7.upd (es:=ss.map qf++[qf ⟨nm,bg,last,1+v,th⟩]) hpb,?_,fun s hs=>?_,rfl⟩
   ·rw[uN,hnm,ud,en];rfl
   ·rcases uQ.mp hs with z | z
    ·exact hsp s z
    ·rw[uL]at z
     subst z
     exact⟨⟨c0,c1,c2,c3⟩,⟨by show 1<=1+v;lia,by show 1+v<=12;lia⟩,by show th.length<=12;lia,tm⟩
  obtain⟨o1,e1,b1⟩:=g.bx
  walk_at "st"
  refine⟨b,_,o1,rfl,by decide,by decide,e1,b1,fun x1 N1 y0 y1 q1=>?_⟩
  have g2:=g.step hpb q1
  obtain⟨o2,e2,b2⟩:=g2.bx
  walk_at "st"
  refine⟨b,_,o2,rfl,by decide,by decide,e2,b2,fun x2 N2 z0 z1 q2=>?_⟩
  have g3:=g2.step hpb q2
  obtain⟨o3,e3,b3⟩:=g3.bx
  walk_at "st"
  refine⟨b,_,o3,rfl,by decide,by decide,e3,b3,fun x3 N3 w0 w1 q3=>?_⟩
  have g4:=g3.step hpb q3
  obtain⟨o4,e4,b4⟩:=g4.bx
  walk_at "st"
  refine Xg (qb (by show 3<=1000;decide)) ?_
  walk_at "st"
  refine⟨b,_,o4,rfl,by decide,by decide,e4,b4,fun x4 N4 u0 u1 q4=>?_⟩
  have g5:=g4.step hpb q4
  obtain⟨v,hat,hv⟩:=at3 (a:=0) (b:=x2) (c:=x3) u0 u1
  refine vq rfl hat ?_
  walk_at "st"
  refine jr (ke g5.ls) ?_
  walk_at "st"
  refine WJ (fun _=>?_) (fun _=>?_)
  ·obtain⟨o5,e5,b5⟩:=g5.bx
   walk_at "st"
   refine Xg (qb (by show 2<=1000;decide)) ?_
   walk_at "st"
   refine kaJ ?_
   refine Wbq fun n hn=>?_
   walk_at "st"
   refine⟨b,_,o5,rfl,by lia,by lia,e5,b5,fun x5 N5 t0 t1 q5=>?_⟩
   refine kae ?_
   refine jj ?_
   exact fin (first+x1) (first+x1+x5) N5 _ _ (by lia) (by lia) (by lia) (by lia) (g5.step hpb q5) _ fun _ _ z=>z
  ·refine Zo ?_
   exact fin (first+x1) (first+x1+v) N4 _ _ (by lia) (by lia) (by lia) (by lia) g5 _ fun _ _ z=>z
 ·rintro σ M' ⟨ss,v5,v6,v7,v8,v9,g,hnm,hsp,rfl⟩
  rw[uA,ug]at hnm
  obtain⟨o5,e5,b5⟩:=g.bx
  have hsl:ss.length<=8:=by
   have:=congrArg xV hnm
   rw[uA]at this
   lia
  walk_at "st"
  refine⟨b,o5,.ref p,true,ss.map qf,rfl,e5,b5,vw g.ls,fun q e=>by cases e;exact hpb,by rw[uA];lia,fun es M6 hd f6=>.inl ?_⟩
  obtain⟨ss',rfl,per⟩:=kaI hd
  refine h ss' M6 ⟨by rw[per.length_eq];exact hsl,(per.map _).nodup_iff.mpr (by rw[hnm];exact nnd),fun s hs=>(hsp s (per.mem_iff.mp hs)).dy,fun s hs=>(hsp s (per.mem_iff.mp hs)).sz,fun s hs=>(hsp s (per.mem_iff.mp hs)).th⟩ (fun s hs=>(hsp s (per.mem_iff.mp hs)).ns) ⟨f6.1,fun a o6 z e=>?_⟩
  have ap:a≠p:=fun y=>by
   rw[y]at e
   have:=fr1.2 p hpb
   rw[hp,e]at this;cases this
  rw[f6.2 a z,g.fr a z ap];exact e
structure LvD(b p:Addr)(M M1:HpD)(lv:Lvs):Prop where
 bx:∃o,M1 b=some o/\Ys o
 dc:M1 p=some (.dct (kg lv))
 old:∀a o,a≠b->M a=some o->M1 a=some o
theorem LvD.step{b p:Addr}{M M1 M2:HpD}{lv:Lvs}(t:LvD b p M M1 lv)(hn:p≠b)(f:Fr b M1 M2):LvD b p M M2 lv:=
 ⟨f.1,(f.2 p hn).trans t.dc,fun a o z1 z2=>(f.2 a z1).trans (t.old a o z1 z2)⟩
structure LvR(b p q:Addr)(M M1:HpD)(lv:Lvs)(rs:List (Int×Int)):Prop extends LvD b p M M1 lv where
 ls:M1 q=some (.lst (rs.map jM))
theorem LvR.step'{b p q:Addr}{M M1 M2:HpD}{lv:Lvs}{rs:List (Int×Int)}(t:LvR b p q M M1 lv rs)(hn:p≠b)(hq:q≠b)(f:Fr b M1 M2):LvR b p q M M2 lv rs:=
 ⟨t.toLvD.step hn f,(f.2 q hq).trans t.ls⟩
structure GLw(ns:List Str)(lv:Lvs):Prop where
 sh:∀p∈lv,p.2.length<=2
 ks:∀p∈lv,p.1∈ns
 nd:(lv.map (·.1)).Nodup
theorem GLw.snoc{ns:List Str}{i:Nat}{n:Str}{lv:Lvs}{rs:List (Int×Int)}(nd:ns.Nodup)(en:ns[i]?=some n)(g:GLw (ns.take i) lv)(hr:rs.length<=2):GLw (ns.take (i+1)) (lv++[(n,rs)])/\ju (kg lv) (.inr n) (.lst (rs.map jM))=kg (lv++[(n,rs)]):=by
 have nn:=ja7 nd en
 have hnew:n∉lv.map (·.1):=fun z=>by
  obtain⟨p,hp,rfl⟩:=uS.mp z
  exact nn (g.ks p hp)
 refine⟨⟨fun p hp=>?_,fun p hp=>?_,?_⟩,?_⟩
 ·rcases uQ.mp hp with z | z
  ·exact g.sh p z
  ·rw[uL.mp z];exact hr
 ·rw[ud,en]
  rcases uQ.mp hp with z | z
  ·exact uQ.mpr (.inl (g.ks p z))
  ·rw[uL.mp z];exact uQ.mpr (.inr (by simp))
 ·rw[uN,xM]
  exact⟨g.nd,by simp,fun x hx y hy z=>by rw[uH,xl,uL]at hy;subst hy;exact hnew (z▸hx)⟩
 ·unfold kg
  rw[qN fun kv hkv=>?_,uN]
  ·rfl
  ·obtain⟨p,hp,rfl⟩:=uS.mp hkv
   intro z
   injection z with z
   exact hnew (uS.mpr ⟨p,hp,z⟩)
theorem GLw.more{ns:List Str}{i:Nat}{lv:Lvs}(g:GLw (ns.take i) lv):GLw (ns.take (i+1)) lv:=
 ⟨g.sh,fun p hp=>by rw[ud];exact uQ.mpr (.inl (g.ks p hp)),g.nd⟩
theorem GLw.len{ns:List Str}{lv:Lvs}(g:GLw ns lv):lv.length<=ns.length:=by
 have:=wn (m:=ns) g.nd fun x hx=>by
  obtain⟨p,hp,rfl⟩:=uS.mp hx
  exact g.ks p hp
 rw[uA]at this
 exact this
def Wv:SpD:=fun ds M Q=>∃(b:Addr) (o:OD) (ns:List Str) (ss:List Sho),ds=[.ref b,.lst (ns.map D.str),.lst (ss.map qf)]/\M b=some o/\Ys o/\ns.Nodup/\ns.length<=12/\GSh ss/\∀lv M',qaj lv->Fx b M M'->Q (Xz lv) M'
def qad:TSD:=(Zc (jc (jg Xa) (Zb 6))
 (Zc (XH (kB (Za (Wb vP (Wa ja (Za (Ya 0) (Za (tCD (.int 3)) Xa))) (Wa ZV (Za (Wb (Wi false) (Wa ja (Za (Ya 0) (Za (tCD (.int 2)) Xa))) (tCD (.int 0))) Xa))) Xa)) (Zb 7) (Zc (jc (Wa X6 (Za (tCD (.int 0)) (Za (Wb jP (Wb vh (Wb Zh (Ya 4) (Wa ja (Za (Ya 0) (Za (Wa Zl (Za (Ya 4) Xa)) Xa)))) (Wa ja (Za (Ya 0) (Za (tCD (.int 6)) Xa)))) (tCD (.int 2))) Xa))) (Zb 8))
 (Zc (jc (Wb vh (Ya 8) (Wb Zh (jg (Za (tCD (.int 0)) (Za (tCD (.int 1)) (Za (Wa ja (Za (Ya 0) (Za (tCD (.int 4)) Xa))) (Za (Wb jT (tCD (.int 10)) (tCD (.int 6))) Xa))))) (Wa ja (Za (Ya 0) (Za (tCD (.int 4)) Xa))))) (Zb 9))
 (kh (ww (Ya 6) (jf (Za (Ya 8) (Za (Wa X3 (Za (Wb jT (tCD (.int 10)) (tCD (.int 9))) (Za (Ya 9) Xa))) Xa))))))))
 (we (kD (Xd (Wb wF (Wa Zl (Za (Ya 6) Xa)) (tCD (.int 0)))) (Xd (Wb (Wi false) (Wa ja (Za (Ya 0) (Za (tCD (.int 2)) Xa))) (tCD (.int 0))))) (qv (Ya 3) (Ya 5) (wT (Ya 6))) vd)))
def Wbu(b p:Addr)(ns:List Str)(ss:List Sho)(fs:List Int)(M:HpD)(i:Nat)(σ:SD)(M':HpD):Prop:=∃(lv:Lvs) (v5 v6 v7 v8 v9:Option D),LvD b p M M' lv/\GLw (ns.take i) lv/\σ=[some (.ref b),some (.lst (ns.map D.str)),some (.lst (ss.map qf)),some (.ref p),some (.lst (fs.map D.int)),v5,v6,v7,v8,v9]
theorem YaI{b p:Addr}{ns:List Str}{ss:List Sho}{fs:List Int}{M M':HpD}{i:Nat}{n:Str}{lv:Lvs}{v6 v7 v8 v9:Option D}{DD:jn}(hpb:p≠b)(hpM:M p=none)(nd:ns.Nodup)(nl:ns.length<=12)(f0:0<fs.length)(f1:fs.length<=9)(en:ns[i]?=some n)(g:LvD b p M M' lv)(gw:GLw (ns.take i) lv)(h:∀σ M2,Wbu b p ns ss fs M (i+1) σ M2->DD.nx σ M2) :
  qad DD [some (.ref b),some (.lst (ns.map D.str)),some (.lst (ss.map qf)),some (.ref p),some (.lst (fs.map D.int)),some (.str n),v6,v7,v8,v9] M':=by
 unfold qad
 walk_at "st"
 refine newM (qb (ua _)) fun q hq=>?_
 obtain⟨o1,e1,b1⟩:=g.bx
 have hqb:q≠b:=fun z=>by rw[z,e1]at hq;cases hq
 have hqp:q≠p:=fun z=>by rw[z,g.dc]at hq;cases hq
 have hqM:M q=none:=by
  cases z:M q with
  | none=>rfl
  | some o=>rw[g.old q o hqb z]at hq;cases hq
 have r0:LvR b p q M (wc M' q (.lst [])) lv []:=⟨⟨⟨o1,by rw[Xb (Ne.symm hqb)];exact e1,b1⟩,by rw[Xb (Ne.symm hqp)];exact g.dc,fun a o z1 z2=>by rw[Xb (fun z=>by rw[z,hqM]at z2;cases z2)];exact g.old a o z1 z2⟩,Xc⟩
 walk_at "st"
 obtain⟨o2,e2,b2⟩:=r0.bx
 refine⟨b,_,o2,rfl,by decide,by decide,e2,b2,fun x1 N1 y0 y1 q1=>?_⟩
 have r1:=r0.step' hpb hqb q1
 walk_at "st"
 obtain⟨o3,e3,b3⟩:=r1.bx
 refine⟨b,_,o3,rfl,by decide,by decide,e3,b3,fun x2 N2 z0 z1 q2=>?_⟩
 have r2:=r1.step' hpb hqb q2
 walk_at "st"
 refine kaJ ?_
 obtain⟨j,hj,j0,j2⟩:∃j:Int,j=x1*(if (false ^^ decide (x2=0))=true then 1 else 0)/\0<=j/\j<=2:=by
  refine⟨_,rfl,?_,?_⟩<;>split<;>lia
 refine kag (.inl ⟨?_,?_⟩) ?_
 ·lia
 ·lia
 refine WZ ?_
 refine⟨j,by rw[hj],by lia,by lia,fun k σ N=>∃(rs:List (Int×Int)) (v7 v8 v9:Option D),LvR b p q M N lv rs/\rs.length<=k/\σ=[some (.ref b),some (.lst (ns.map D.str)),some (.lst (ss.map qf)),some (.ref p),some (.lst (fs.map D.int)),some (.str n),some (.ref q),v7,v8,v9],⟨[],_,_,_,r2,uJ _,rfl⟩,?_,?_⟩
 ·rintro k d σ N e ⟨rs,v7,v8,v9,r,hk,rfl⟩
  obtain⟨hi,rfl⟩:=wO e
  obtain⟨o4,e4,b4⟩:=r.bx
  walk_at "st"
  refine⟨b,_,o4,rfl,by rw[uA];lia,by rw[uA];lia,e4,b4,fun x3 N3 w0 w1 q3=>?_⟩
  rw[uA]at w1
  have r3:=r.step' hpb hqb q3
  obtain⟨o5,e5,b5⟩:=r3.bx
  refine XG rfl w0 w1 fun v _=>?_
  walk_at "st"
  refine⟨b,_,o5,rfl,by decide,by decide,e5,b5,fun x4 N4 _ _ q4=>?_⟩
  have r4:=r3.step' hpb hqb q4
  obtain⟨o6,e6,b6⟩:=r4.bx
  walk_at "st"
  refine⟨b,_,o6,rfl,by decide,by decide,e6,b6,fun x5 N5 _ _ q5=>?_⟩
  have r5:=r4.step' hpb hqb q5
  obtain⟨o7,e7,b7⟩:=r5.bx
  walk_at "st"
  refine Xg (qb (by show 4<=1000;decide)) ?_
  walk_at "st"
  refine⟨b,_,o7,rfl,by decide,by decide,e7,b7,fun x6 N6 u0 u1 q6=>?_⟩
  have r6:=r5.step' hpb hqb q6
  refine XG (l:=[0,1,x5,10^6]) (f:=D.int) rfl u0 u1 fun w _=>?_
  walk_at "st"
  refine⟨⟨_,r6.ls⟩,?_⟩
  walk_at "st"
  refine⟨_,r6.ls,uP (by rw[uA];lia) (qb (n:=100) (by decide)),?_⟩
  refine⟨rs++[(max 0 (v+x4 - 2),min (10^9) (max 0 (v+x4 - 2)+w))],_,_,_,⟨⟨?_,?_,fun a o z1 z2=>?_⟩,?_⟩,by rw[uE];show rs.length+1<=k+1;lia,rfl⟩
  ·rw[Xb (Ne.symm hqb)];exact r6.bx
  ·rw[Xb (Ne.symm hqp)];exact r6.dc
  ·rw[Xb (fun z=>by rw[z,hqM]at z2;cases z2)];exact r6.old a o z1 z2
  ·rw[Xc,uN];rfl
 ·rintro σ N ⟨rs,v7,v8,v9,r,hk,rfl⟩
  rw[Yu]at hk
  have hrs:rs.length<=2:=by lia
  have put:∀N1,LvR b p q M N1 lv rs->∀w7 w8 w9,qv (Ya 3) (Ya 5) (wT (Ya 6)) DD [some (.ref b),some (.lst (ns.map D.str)),some (.lst (ss.map qf)),some (.ref p),some (.lst (fs.map D.int)),some (.str n),some (.ref q),w7,w8,w9] N1:=by
   intro N1 r1 w7 w8 w9
   walk_at "st"
   refine⟨q,_,rfl,r1.ls,?_⟩
   walk_at "st"
   refine⟨p,_,.inr n,rfl,by rw[Ym (Ne.symm hqp)];exact r1.dc,rfl,uP (by unfold kg;rw[uA];have:=gw.len;rw[uX]at this;lia) (qb (n:=100) (by decide)),?_⟩
   obtain⟨gw2,ep⟩:=gw.snoc nd en hrs
   rw[ep]
   refine h _ _ ⟨lv++[(n,rs)],_,_,_,_,_,⟨?_,Xc,fun a o z1 z2=>?_⟩,gw2,rfl⟩
   ·rw[Xb (Ne.symm hpb),Ym (Ne.symm hqb)];exact r1.bx
   ·have ap:a≠p:=fun z=>by rw[z,hpM]at z2;cases z2
    rw[Xb ap,Ym (fun z=>by rw[z,hqM]at z2;cases z2)];exact r1.old a o z1 z2
  walk_at "st"
  refine jr (ke r.ls) ?_
  walk_at "st"
  refine ZA (fun _=>?_) (fun _=>?_)
  ·exact put _ r _ _ _
  obtain⟨o4,e4,b4⟩:=r.bx
  walk_at "st"
  refine⟨b,_,o4,rfl,by decide,by decide,e4,b4,fun x3 N3 w0 w1 q3=>?_⟩
  have r3:=r.step' hpb hqb q3
  walk_at "st"
  refine WJ (fun _=>?_) (fun _=>?_)
  ·exact put _ r3 _ _ _
  ·refine Zo ?_
   exact h _ _ ⟨lv,_,_,_,_,_,r3.toLvD,gw.more,rfl⟩
theorem waj(ds:List D)(M:HpD)(Q:KD)(h:Wv ds M Q):YW ja {nx:=fun _ M'=>Q .non M',rt:=Q} (Zg ["_law_box_here","_law_names_here","_law_shows_here","_law_found","_law_firsts","_law_name","_law_rows","_law_k","_law_first","_law_last"] ds) M:=by
 obtain⟨b,o,ns,ss,rfl,eM,hb,nd,nl,gs,h⟩:=h
 have g8:=gs.ln
 unfold YW
 walk_at "st"
 intro p hp
 have hpb:p≠b:=fun z=>by rw[z,eM]at hp;cases hp
 have g0:LvD b p M (wc M p (.dct (kg []))) []:=⟨⟨o,by rw[Xb (Ne.symm hpb)];exact eM,hb⟩,Xc,fun a o _ z=>by rw[Xb (fun y=>by rw[y,hp]at z;cases z)];exact z⟩
 walk_at "st"
 refine⟨qb (by rw[uA];lia),fun i ys σ M'=>∃v0:Option D,wc M p (.dct (kg []))=M'/\σ=[v0,some (.ref b),some (.lst (ns.map D.str)),some (.lst (ss.map qf)),some (.ref p),none,none,none,none,none,none]/\ys=((ss.take i).map Sho.b).map D.int,⟨_,rfl,rfl,rfl⟩,fun _ _ _ _ _=>rfl,?_,?_⟩
 ·rintro i y ys σ M' e ⟨v0,rfl,rfl,rfl⟩
  rw[uG]at e
  obtain⟨s,es,rfl⟩:=uV.mp e
  unfold qf
  walk_at "st"
  exact⟨_,rfl,rfl,by rw[ud,es];simp⟩
 rintro ys σ M' ⟨v0,rfl,rfl,rfl⟩
 rw[uA,ug]
 refine Xg (qb (by rw[uA,uA];lia)) ?_
 walk_at "st"
 refine Xg (qb (by show 1<=1000;decide)) ?_
 refine kah rfl rfl (Xg (qb (by rw[uE,uA,uA];show ss.length+1<=1000;lia)) ?_)
 have ef:(ss.map Sho.b).map D.int++[.int 5]=(ss.map Sho.b++[5]).map D.int:=by rw[uN];rfl
 rw[ef]
 walk_at "st"
 refine⟨Wbu b p ns ss (ss.map Sho.b++[5]) M,⟨[],_,_,_,_,_,g0,⟨by simp,by simp,xR⟩,rfl⟩,fun _ _ _ _=>rfl,?_,?_⟩
 ·rintro i y σ M' e ⟨lv,v5,v6,v7,v8,v9,g,gw,rfl⟩
  rw[uG]at e
  obtain⟨n,en,rfl⟩:=uV.mp e
  refine jj ?_
  exact YaI hpb hp nd nl (by rw[uE];show 0<_+1;lia) (by rw[uE,uA];show _+1<=9;lia) en g gw fun _ _ z=>z
 rintro σ M' ⟨lv,v5,v6,v7,v8,v9,g,gw,rfl⟩
 rw[uA,ug]at gw
 have fin:∀(lw:Lvs) (N:HpD) (w5 w6 w7 w8 w9:Option D),LvD b p M N lw->qaj lw->Zf (YV (Ya 3)) {nx:=fun _ M'=>Q .non M',rt:=Q} [some (.ref b),some (.lst (ns.map D.str)),some (.lst (ss.map qf)),some (.ref p),some (.lst ((ss.map Sho.b++[5]).map D.int)),w5,w6,w7,w8,w9] N:=by
  intro lw N w5 w6 w7 w8 w9 g1 ok
  walk_at "st"
  refine⟨p,_,rfl,g1.dc,.inl (h lw _ ok ⟨?_,fun a o z1 z2=>?_⟩)⟩
  ·rw[Ym (Ne.symm hpb)];exact g1.bx
  ·rw[Ym (fun z=>by rw[z,hp]at z2;cases z2)];exact g1.old a o z1 z2
 have gl:=gw.len
 have ok0:qaj lv:=⟨by lia,fun x hx=>by have:=gw.sh x hx;lia,gw.nd⟩
 walk_at "st"
 refine Xav rfl rfl kO ?_
 rw[vR,if_pos rfl]
 walk_at "st"
 by_cases hm:("zzzzzzzz":Str)∈ns
 ·rw[decide_eq_true hm,if_neg (by decide)]
  refine Zo ?_
  exact fin lv _ _ _ _ _ _ g ok0
 rw[decide_eq_false hm,if_pos (by decide)]
 obtain⟨o4,e4,b4⟩:=g.bx
 walk_at "st"
 refine⟨b,_,o4,rfl,by decide,by decide,e4,b4,fun x3 N3 w0 w1 q3=>?_⟩
 have g3:=g.step hpb q3
 walk_at "st"
 refine WJ (fun _=>?_) (fun _=>?_)
 ·walk_at "st"
  refine Xg (qb (by show 1<=1000;decide)) ?_
  walk_at "st"
  have hnew:("zzzzzzzz":Str)∉lv.map (·.1):=fun z=>by
   obtain⟨x,hx,e⟩:=uS.mp z
   exact hm (e▸gw.ks x hx)
  refine⟨p,_,.inr "zzzzzzzz",rfl,g3.dc,rfl,uP (by unfold kg;rw[uA];lia) (qb (n:=100) (by decide)),?_⟩
  have ep:ju (kg lv) (.inr "zzzzzzzz") (.lst [.tup [.int 0,.int (10^Int.toNat 9)]])=kg (lv++[(("zzzzzzzz":Str),[((0:Int),(10^Int.toNat 9:Int))])]):=by
   unfold kg
   rw[qN fun kv hkv=>?_,uN]
   ·rfl
   ·obtain⟨x,hx,rfl⟩:=uS.mp hkv
    intro z
    injection z with z
    exact hnew (uS.mpr ⟨x,hx,z⟩)
  rw[ep]
  refine fin (lv++[(("zzzzzzzz":Str),[((0:Int),(10^Int.toNat 9:Int))])]) _ _ _ _ _ _ ⟨?_,Xc,fun a o z1 z2=>?_⟩ ⟨by rw[uE];show lv.length+1<=13;lia,fun x hx=>?_,?_⟩
  ·rw[Xb (Ne.symm hpb)];exact g3.bx
  ·rw[Xb (fun z=>by rw[z,hp]at z2;cases z2)];exact g3.old a o z1 z2
  ·rcases uQ.mp hx with z | z
   ·exact ok0.sh x z
   ·rw[uL.mp z];show 1<=100;decide
  ·rw[uN,xM]
   exact⟨gw.nd,by simp,fun x hx y hy z=>by rw[uH,xl,uL]at hy;subst hy;exact hnew (by rw[z]at hx;exact hx)⟩
 ·refine Zo ?_
  exact fin lv _ _ _ _ _ _ g3 ok0
def kr:SpD:=fun ds M Q=>∃(b:Addr) (o:OD),ds=[.ref b]/\M b=some o/\Ys o/\∀ss lg lv p M',Hall b p M' ss lg lv->Fx b M M'->Q (.tup [.lst (ss.map qf),.ref p,Xz lv]) M'
theorem waA(ds:List D)(M:HpD)(Q:KD)(h:kr ds M Q):X7 Wn ja Zy Wv Yw {nx:=fun _ M'=>Q .non M',rt:=Q} (Zg ["_law_box_here","_law_names_here","_law_shows_here"] ds) M:=by
 obtain⟨b,o,rfl,eM,hb,h⟩:=h
 unfold X7
 walk_at "st"
 refine Xg (qb (by show 8<=1000;decide)) ?_
 walk_at "st"
 refine⟨b,_,o,rfl,by decide,by decide,eM,hb,fun r M1 r0 r1 f1=>?_⟩
 obtain⟨o1,e1,b1⟩:=f1.1
 refine XG (l:=[2,3,4,5,6,3,4,12]) (f:=D.int) rfl r0 r1 fun k hk=>?_
 have hk2:0<=k/\k<=12:=by
  have:=uF hk
  simp only[uZ,u6,or_false]at this
  lia
 walk_at "st"
 refine⟨b,o1,k,rfl,hk2.1,hk2.2,e1,b1,fun ns M2 gn f2=>?_⟩
 obtain⟨nl,nd,_⟩:=gn
 have nl2:ns.length<=12:=by lia
 obtain⟨o2,e2,b2⟩:=f2.1
 walk_at "st"
 refine⟨b,o2,ns,rfl,e2,b2,nl2,fun ss M3 gs ht f3=>?_⟩
 obtain⟨o3,e3,b3⟩:=f3.bx
 walk_at "st"
 refine⟨b,o3,ns,rfl,e3,b3,nd,nl2,fun lg p M4 hk hp L=>?_⟩
 obtain⟨o4,e4,b4⟩:=L.bx
 have hpb:p≠b:=fun z=>by rw[z,e3]at hp;cases hp
 have f4:Fx b M3 M4:=⟨L.bx,fun a o z1 z2=>by rw[L.fr a z1 (fun z=>by rw[z,hp]at z2;cases z2)];exact z2⟩
 walk_at "st"
 refine⟨b,o4,ns,ss,rfl,e4,b4,nd,nl2,gs,fun lv M5 ok f5=>?_⟩
 walk_at "st"
 refine .inl (h ss lg lv p M5 ⟨gs,fun s hs x hx=>by rw[hk];exact ht s hs x hx,by rw[hk];exact nd,by rw[←uA (f:=(·.1)),hk];exact nl2,ok,f5.old p _ hpb L.dc,hpb⟩ ?_)
 exact((((Fx.of f1).step f2).trans f3).trans f4).trans f5
structure jau(b ql qr qh:Addr)(M:HpD):Prop where
 lb:ql≠b
 rb:qr≠b
 hb:qh≠b
 lr:ql≠qr
 lh:ql≠qh
 rh:qr≠qh
 nl:M ql=none
 nr:M qr=none
 nh:M qh=none
structure Dlt(b ql qr qh:Addr)(lg:Lgs)(M M':HpD)(P:List (Str×Int))(rows:List Row):Prop where
 bx:∃o,M' b=some o/\Ys o
 l:M' ql=some (.dct (Zi (lgd lg P)))
 r:M' qr=some (.lst (rows.map Wj))
 h:M' qh=some (.dtt (ZC P))
 old:∀a o,a≠b->M a=some o->M' a=some o
theorem Dlt.step{b ql qr qh:Addr}{lg:Lgs}{M M1 M2:HpD}{P:List (Str×Int)}{rows:List Row}(A:jau b ql qr qh M)(d:Dlt b ql qr qh lg M M1 P rows)(f:Fr b M1 M2):Dlt b ql qr qh lg M M2 P rows:=
 ⟨f.1,(f.2 ql A.lb).trans d.l,(f.2 qr A.rb).trans d.r,(f.2 qh A.hb).trans d.h,fun a o z1 z2=>(f.2 a z1).trans (d.old a o z1 z2)⟩
structure Wa5(b ql qr qh q:Addr)(M:HpD):Prop where
 b:q≠b
 l:q≠ql
 r:q≠qr
 h:q≠qh
 n:M q=none
theorem Dlt.new{b ql qr qh q:Addr}{lg:Lgs}{M M1:HpD}{P:List (Str×Int)}{rows:List Row}(d:Dlt b ql qr qh lg M M1 P rows)(hq:M1 q=none):Wa5 b ql qr qh q M:=by
 obtain⟨o,e,_⟩:=d.bx
 have h0:q≠b:=fun z=>by rw[z,e]at hq;cases hq
 refine⟨h0,(fun z=>by rw[z,d.l]at hq;cases hq),(fun z=>by rw[z,d.r]at hq;cases hq),(fun z=>by rw[z,d.h]at hq;cases hq),?_⟩
 cases z:M q with
 | none=>rfl
 | some o=>rw[d.old q o h0 z]at hq;cases hq
theorem Dlt.side{b ql qr qh q:Addr}{lg:Lgs}{M M1:HpD}{P:List (Str×Int)}{rows:List Row}{o:OD}(d:Dlt b ql qr qh lg M M1 P rows)(N:Wa5 b ql qr qh q M):Dlt b ql qr qh lg M (wc M1 q o) P rows:=
 ⟨by rw[Xb (Ne.symm N.b)];exact d.bx,by rw[Xb (Ne.symm N.l)];exact d.l,by rw[Xb (Ne.symm N.r)];exact d.r,by rw[Xb (Ne.symm N.h)];exact d.h,
  fun a o z1 z2=>by rw[Xb (fun z=>by rw[z,N.n]at z2;cases z2)];exact d.old a o z1 z2⟩
theorem qaG{c:Bool}{M:HpD}:ZQ (.bl c) M c:=by unfold ZQ;rfl
def jW:TSD:=(Zc (jc (jy (Wb wF (Xy (Ya 4) (Ya 12)) (tCD (.int 0))) (jy (WA true (jf (Za (Ya 12) (Za (Ya 7) Xa))) (Ya 6)) (Wb qav (Wa Zl (Za (Ya 11) Xa)) (Ya 9)))) (Zb 13))
 (we (Wz (jx (Ya 13)) (Wz (vG (jx (Wa Xl (Za (Ya 3) (Za (Ya 12) (Za (Ya 7) Xa)))))) (Xd (Wb wF (Wa ja (Za (Ya 0) (Za (tCD (.int 5)) Xa))) (tCD (.int 0)))))) (Zc (kh (ww (Ya 11) (Ya 12)))
 (Zc (qv (Ya 4) (Ya 12) (Wb jP (Xy (Ya 4) (Ya 12)) (tCD (.int 1))))
 (ZD (Ya 6) (jf (Za (Ya 12) (Za (Ya 7) Xa))) (tCD (.bl true))))) vd))
theorem waN{b ql qr qh q:Addr}{lg:Lgs}{lv:Lvs}{M M1:HpD}{P:List (Str×Int)}{rows:List Row}{nms:List Str}{d1 d2 d10:D}{v13:Option D}{day size:Int}{sh n:Str}{DD:jn}
  (A:jau b ql qr qh M) (N:Wa5 b ql qr qh q M) (lnd:(lg.map (·.1)).Nodup) (hll:lg.length<=12) (gv:qaj lv) (hn:n∈lg.map (·.1)) (g:Dlt b ql qr qh lg M M1 P rows) (gn:M1 q=some (.lst (nms.map D.str))) (hP:P.length<=9000) (hl:nms.length<=100)
  (h:∀(P':List (Str×Int)) (nms':List Str) (M2:HpD) (w13:Option D),Dlt b ql qr qh lg M M2 P' rows->M2 q=some (.lst (nms'.map D.str))->P'.length<=P.length+1->nms'.length<=nms.length+1->DD.nx [some (.ref b),some d1,some d2,some (Xz lv),some (.ref ql),some (.ref qr),some (.ref qh),some (.int day),some (.str sh),some (.int size),some d10,some (.ref q),some (.str n),w13] M2) :
  jW DD [some (.ref b),some d1,some d2,some (Xz lv),some (.ref ql),some (.ref qr),some (.ref qh),some (.int day),some (.str sh),some (.int size),some d10,some (.ref q),some (.str n),v13] M1:=by
 have hn':∀P,n∈(lgd lg P).map (·.1):=fun P=>by rw[wav];exact hn
 unfold jW
 have no:we (Wz (jx (Ya 13)) (Wz (vG (jx (Wa Xl (Za (Ya 3) (Za (Ya 12) (Za (Ya 7) Xa)))))) (Xd (Wb wF (Wa ja (Za (Ya 0) (Za (tCD (.int 5)) Xa))) (tCD (.int 0)))))) (Zc (kh (ww (Ya 11) (Ya 12)))
 (Zc (qv (Ya 4) (Ya 12) (Wb jP (Xy (Ya 4) (Ya 12)) (tCD (.int 1))))
 (ZD (Ya 6) (jf (Za (Ya 12) (Za (Ya 7) Xa))) (tCD (.bl true))))) vd DD [some (.ref b),some d1,some d2,some (Xz lv),some (.ref ql),some (.ref qr),some (.ref qh),some (.int day),some (.str sh),some (.int size),some d10,some (.ref q),some (.str n),some (.bl false)] M1:=by
  refine WH (Z1 (qae (YC rfl ⟨false,qaG,?_⟩)))
  rw[if_neg (by decide),if_neg (by decide)]
  exact Zo (h P nms M1 _ g gn (by lia) (by lia))
 walk_at "st"
 refine⟨_,.inr n,_,vC g.l,rfl,YY (hn' P),?_⟩
 walk_at "st"
 refine ZA (fun c1=>?_) (fun _=>?_)
 case refine_2=>exact jj no
 walk_at "st"
 refine⟨qh,_,jI (n,day),rfl,g.h,rfl,?_⟩
 rw[va0]
 walk_at "st"
 by_cases c2:(n,day)∈P
 ·rw[decide_eq_true c2,if_neg (by decide)]
  exact jj no
 rw[decide_eq_false c2,if_pos (by decide)]
 walk_at "st"
 refine jr (ke gn) ?_
 refine YC rfl (kae ?_)
 refine jj ?_
 refine WH (Z1 (qae (YC rfl ⟨_,qaG,?_⟩)))
 refine ZA (fun c3=>?_) (fun _=>?_)
 case refine_2=>
  rw[if_neg (by decide)]
  exact Zo (h P nms M1 _ g gn (by lia) (by lia))
 walk_at "st"
 refine⟨_,lv,n,day,rfl,j5 lv M1,gv.sh,?_⟩
 refine⟨_,qaG,?_⟩
 cases aw lv n day with
 | true=>
  rw[if_neg (by decide),if_neg (by decide)]
  exact Zo (h P nms M1 _ g gn (by lia) (by lia))
 | false=>
 rw[if_pos (by decide)]
 obtain⟨o1,e1,b1⟩:=g.bx
 walk_at "st"
 refine⟨b,_,o1,rfl,by decide,by decide,e1,b1,fun x1 N1 y0 y1 q1=>?_⟩
 have g1:=g.step A q1
 have gn1:N1 q=some (.lst (nms.map D.str)):=(q1.2 q N.b).trans gn
 walk_at "st"
 refine ZA (fun c4=>?_) (fun _=>?_)
 case refine_2=>exact Zo (h P nms N1 _ g1 gn1 (by lia) (by lia))
 walk_at "st"
 refine⟨⟨_,gn1⟩,?_⟩
 walk_at "st"
 refine⟨_,gn1,uP (by rw[uA];lia) (qb (n:=200) (by decide)),?_⟩
 have g2:Dlt b ql qr qh lg M (wc N1 q (.lst (nms.map D.str++[.str n]))) P rows:=g1.side N
 walk_at "st"
 refine⟨_,.inr n,_,vC g2.l,rfl,YY (hn' P),?_⟩
 rw[qaB hn]
 walk_at "st"
 refine⟨ql,_,.inr n,rfl,g2.l,rfl,uP (by unfold Zi lgd;rw[uA,uA];lia) (qb (n:=100) (by decide)),?_⟩
 rw[WaL (d:=day) lnd hn]
 walk_at "st"
 refine⟨qh,_,jI (n,day),rfl,by rw[Xb (Ne.symm A.lh)];exact g2.h,rfl,by unfold ZC;rw[uA,sizeLine_eq];lia,?_⟩
 rw[waK c2]
 refine h (P++[(n,day)]) (nms++[n]) _ _ ⟨?_,?_,?_,Xc,fun a o z1 z2=>?_⟩ ?_ (by simp) (by simp)
 ·rw[Xb (Ne.symm A.hb),Xb (Ne.symm A.lb)];exact g2.bx
 ·rw[Xb A.lh,Xc]
 ·rw[Xb A.rh,Xb (Ne.symm A.lr)];exact g2.r
 ·rw[Xb (fun z=>by rw[z,A.nh]at z2;cases z2),Xb (fun z=>by rw[z,A.nl]at z2;cases z2)];exact g2.old a o z1 z2
 ·rw[Xb N.h,Xb N.l,Xc,uN];rfl
def Zao:TSD:=(Zc (jc (jg Xa) (Zb 11))
 (Zc (Yv (qj (Wa Zk (Za (Ya 0) (Za (Wa qz (Za (Ya 10) Xa)) (Za (tCD (.bl true)) Xa))))) (Zb 12) jW)
 (kh (ww (Ya 5) (jf (Za (Ya 7) (Za (Ya 8) (Za (Wa Wu (Za (Ya 11) Xa)) Xa))))))))
theorem YaR{b ql qr qh:Addr}{lg:Lgs}{lv:Lvs}{M M1:HpD}{P:List (Str×Int)}{rows:List Row}{d1 d2:D}{th:List Str}{v11 v12 v13:Option D}{day size:Int}{sh:Str}{DD:jn}
  (A:jau b ql qr qh M) (lnd:(lg.map (·.1)).Nodup) (hll:lg.length<=12) (gv:qaj lv) (tl:th.length<=12) (ht:∀x∈th,x∈lg.map (·.1)) (g:Dlt b ql qr qh lg M M1 P rows) (hP:P.length<=8000) (hr:rows.length<=300)
  (h:∀(P':List (Str×Int)) (r:Row) (M2:HpD) (w11 w12 w13:Option D),Dlt b ql qr qh lg M M2 P' (rows++[r])->P'.length<=P.length+12->r.2.2.length<=12->DD.nx [some (.ref b),some d1,some d2,some (Xz lv),some (.ref ql),some (.ref qr),some (.ref qh),some (.int day),some (.str sh),some (.int size),some (.tup (th.map D.str)),w11,w12,w13] M2) :
  Zao DD [some (.ref b),some d1,some d2,some (Xz lv),some (.ref ql),some (.ref qr),some (.ref qh),some (.int day),some (.str sh),some (.int size),some (.tup (th.map D.str)),v11,v12,v13] M1:=by
 unfold Zao
 walk_at "st"
 refine newM (qb (ua _)) fun q hq=>?_
 have N:=g.new hq
 have g1:Dlt b ql qr qh lg M (wc M1 q (.lst [])) P rows:=g.side N
 obtain⟨o1,e1,b1⟩:=g1.bx
 walk_at "st"
 refine ZL rfl (Xg (qb (by rw[uA];lia)) ?_)
 walk_at "st"
 refine⟨b,o1,.lst (th.map D.str),true,th.map D.str,rfl,e1,b1,rfl,(fun q e=>nomatch e),by rw[uA];lia,fun es M2 hd f2=>?_⟩
 have g2:=g1.step A f2
 have gn2:M2 q=some (.lst []):=(f2.2 q N.b).trans Xc
 obtain⟨tt,rfl,tl2,tm⟩:=vaf hd
 walk_at "st"
 refine⟨fun j σ M2=>∃(P':List (Str×Int)) (nms:List Str) (v12 v13:Option D),Dlt b ql qr qh lg M M2 P' rows/\M2 q=some (.lst (nms.map D.str))/\P'.length<=P.length+j/\nms.length<=j/\σ=[some (.ref b),some d1,some d2,some (Xz lv),some (.ref ql),some (.ref qr),some (.ref qh),some (.int day),some (.str sh),some (.int size),some (.tup (th.map D.str)),some (.ref q),v12,v13],⟨P,[],_,_,g2,gn2,uJ _,uJ _,rfl⟩,fun _ _ _ _=>rfl,?_,?_⟩
 ·rintro j y σ M3 e ⟨P',nms,v12,v13,g3,gn3,hP3,hn3,rfl⟩
  rw[uG]at e
  obtain⟨n,en,rfl⟩:=uV.mp e
  have hj:j<tt.length:=(uO.mp en).1
  refine jj ?_
  exact waN A N lnd hll gv (ht n (tm n (uF en))) g3 gn3 (by lia) (by lia) fun P4 nms4 M4 w13 g4 gn4 hP4 hn4=>⟨P4,nms4,_,_,g4,gn4,by lia,by lia,rfl⟩
 ·rintro σ M3 ⟨P',nms,v12,v13,g3,gn3,hP3,hn3,rfl⟩
  rw[uA]at hP3 hn3
  walk_at "st"
  refine⟨⟨_,g3.r⟩,?_⟩
  walk_at "st"
  refine YJ (enc:=D.str) (lt:=sLt) (as:=nms) (vw gn3) (by lia) jv (.kS fun d hd=>by obtain⟨x,_,rfl⟩:=uS.mp hd;exact⟨x,rfl⟩) (fun _ _ _ _=>rfl) fun bs' hp' hs'=>Xg (qb (by rw[uA,hp'.length_eq];lia)) ?_
  walk_at "st"
  refine⟨_,g3.r,uP (by rw[uA];lia) (qb (n:=400) (by decide)),?_⟩
  refine h P' (day,sh,bs') _ _ _ _ ⟨?_,?_,?_,?_,fun a o z1 z2=>?_⟩ (by lia) (by show bs'.length<=12;rw[hp'.length_eq];lia)
  ·rw[Xb (Ne.symm A.rb)];exact g3.bx
  ·rw[Xb A.lr];exact g3.l
  ·rw[Xc,uN];rfl
  ·rw[Xb (Ne.symm A.rh)];exact g3.h
  ·rw[Xb (fun z=>by rw[z,A.nr]at z2;cases z2)];exact g3.old a o z1 z2
theorem Dlt.mo{b ql qr qh:Addr}{lg:Lgs}{M M1 M2:HpD}{P:List (Str×Int)}{rows:List Row}(d:Dlt b ql qr qh lg M M1 P rows)(f:Mo M1 M2):Dlt b ql qr qh lg M M2 P rows:=
 ⟨let ⟨o,e,x⟩:=d.bx;⟨o,f _ _ e,x⟩,f _ _ d.l,f _ _ d.r,f _ _ d.h,fun a o z1 z2=>f _ _ (d.old a o z1 z2)⟩
theorem qbj(lg:Lgs):lgd lg []=lg:=by
 unfold lgd dl
 rw[xZ (g:=id) (fun p _=>by simp)]
 simp
theorem jbf{ss:List Sho}(n:Str):qB ss n=[]\/∃s∈ss,qB ss n=s.th:=by
 unfold qB
 cases q:ss.find? fun t=>decide (t.nm=n) with
 | none=>exact .inl rfl
 | some t=>exact .inr ⟨t,yB q,rfl⟩
def Xq:SpD:=fun ds M Q=>∃(b p:Addr) (o:OD) (ss:List Sho) (lg:Lgs) (lv:Lvs),ds=[.ref b,.lst (ss.map qf),.ref p,Xz lv]/\M b=some o/\Ys o/\Hall b p M ss lg lv/\∀(rows:List Row) (M':HpD),rows.length<=240->(∀r∈rows,r.2.2.length<=12)->Fx b M M'->Q (.lst (rows.map Wj)) M'
theorem Yas(ds:List D)(M:HpD)(Q:KD)(h:Xq ds M Q):wX Xn Zk Xl ja {nx:=fun _ M'=>Q .non M',rt:=Q} (Zg ["_law_box_here","_law_shows_here","_law_lights_here","_law_leaves_here","_law_left","_law_rows","_law_had","_law_day_here","_law_show","_law_size","_law_things","_law_names_here","_law_name","_law_free"] ds) M:=by
 obtain⟨b,p,o,ss,lg,lv,rfl,eM,hb,H,h⟩:=h
 unfold wX
 walk_at "st"
 refine vab (qH H.d) fun ql hql=>?_
 have qlb:ql≠b:=fun z=>by rw[z,eM]at hql;cases hql
 walk_at "st"
 refine newM (qb (ua _)) fun qr hqr=>?_
 have qrl:ql≠qr:=fun z=>by rw[←z,Xc]at hqr;cases hqr
 have qrM:M qr=none:=by rw[Xb (Ne.symm qrl)]at hqr;exact hqr
 have qrb:qr≠b:=fun z=>by rw[z,eM]at qrM;cases qrM
 walk_at "st"
 intro qh hqh
 have qhr:qr≠qh:=fun z=>by rw[←z,Xc]at hqh;cases hqh
 have qhl:ql≠qh:=fun z=>by rw[←z,Xb qrl,Xc]at hqh;cases hqh
 have qhM:M qh=none:=by rw[Xb (Ne.symm qhr),Xb (Ne.symm qhl)]at hqh;exact hqh
 have qhb:qh≠b:=fun z=>by rw[z,eM]at qhM;cases qhM
 have A:jau b ql qr qh M:=⟨qlb,qrb,qhb,qrl,qhl,qhr,hql,qrM,qhM⟩
 have g0:Dlt b ql qr qh lg M (wc (wc (wc M ql (.dct (Zi lg))) qr (.lst [])) qh (.dtt [])) [] []:=by
  refine⟨⟨o,?_,hb⟩,?_,?_,Xc,fun a o z1 z2=>?_⟩
  ·rw[Xb (Ne.symm qhb),Xb (Ne.symm qrb),Xb (Ne.symm qlb)];exact eM
  ·rw[Xb qhl,Xb qrl,Xc,qbj]
  ·rw[Xb qhr,Xc];rfl
  ·rw[Xb (fun z=>by rw[z,qhM]at z2;cases z2),Xb (fun z=>by rw[z,qrM]at z2;cases z2),Xb (fun z=>by rw[z,hql]at z2;cases z2)];exact z2
 walk_at "st"
 refine⟨H.s,fun bs M1 hp hs mo=>?_⟩
 have g1:=g0.mo mo
 have hbl:bs.length<=240:=by
  have h1:=qA (ss:=ss) fun x hx=>wy H.s hx
  have h2:=H.s.ln
  rw[hp.length_eq,uA];lia
 walk_at "st"
 refine⟨fun i σ M'=>∃(P:List (Str×Int)) (rows:List Row) (v7 v8 v9 v10 v11 v12 v13:Option D),Dlt b ql qr qh lg M M' P rows/\P.length<=12*i/\rows.length=i/\(∀r∈rows,r.2.2.length<=12)/\σ=[some (.ref b),some (.lst (ss.map qf)),some (.ref p),some (Xz lv),some (.ref ql),some (.ref qr),some (.ref qh),v7,v8,v9,v10,v11,v12,v13],⟨[],[],_,_,_,_,_,_,_,g1,uJ _,rfl,by simp,rfl⟩,fun _ _ _ _=>rfl,?_,?_⟩
 ·rintro i y σ M' e ⟨P,rows,v7,v8,v9,v10,v11,v12,v13,g,hP,hr,hn,rfl⟩
  rw[uG]at e
  obtain⟨a,ea,rfl⟩:=uV.mp e
  have hi:i<bs.length:=(uO.mp ea).1
  have t1:(qB ss a.2).length<=12/\∀x∈qB ss a.2,x∈lg.map (·.1):=by
   rcases jbf (ss:=ss) a.2 with z | ⟨s,hs,z⟩
   ·rw[z];exact⟨ua _,by simp⟩
   ·rw[z];exact⟨H.s.th s hs,H.t s hs⟩
  unfold wu rmL
  refine qak rfl (kE (jj (kE (jj (kE (jj (kE (jj (Xal ?_)))))))))
  exact YaR A H.nd H.ln H.v t1.1 t1.2 g (by lia) (by lia) fun P' r M2 w11 w12 w13 g2 hP2 hr2=>⟨P',rows++[r],_,_,_,_,_,_,_,g2,by lia,by rw[uE,hr];rfl,fun x hx=>(uQ.mp hx).elim (hn x) fun z=>by rw[uL.mp z];exact hr2,rfl⟩
 ·rintro σ M' ⟨P,rows,v7,v8,v9,v10,v11,v12,v13,g,hP,hr,hn,rfl⟩
  rw[uA]at hr
  walk_at "st"
  refine .inr ⟨qr,_,rfl,g.r,h rows _ (by lia) hn ⟨?_,fun a o z1 z2=>?_⟩⟩
  ·rw[Ym (Ne.symm A.rb)];exact g.bx
  ·rw[Ym (fun z=>by rw[z,A.nr]at z2;cases z2)];exact g.old a o z1 z2
noncomputable abbrev Ent:=Row×Option Addr
noncomputable def jbd(x:Ent):D:=(x.2.map D.ref).getD (.lst (x.1.2.2.map D.str))
noncomputable def Wo(x:Ent):D:=.tup [.int x.1.1,.str x.1.2.1,jbd x]
structure Bn0(b:Addr)(M M1:HpD)(T:List Ent):Prop where
 bx:∃o,M1 b=some o/\Ys o
 it:∀x∈T,∀a,x.2=some a->M1 a=some (.lst (x.1.2.2.map D.str))
 nw:∀x∈T,∀a,x.2=some a->M a=none/\a≠b
 old:∀a o,a≠b->M a=some o->M1 a=some o
structure Bnt(b p:Addr)(M M1:HpD)(T:List Ent):Prop extends Bn0 b M M1 T where
 ls:M1 p=some (.lst (T.map Wo))
 np:M p=none
 pb:p≠b
 pt:∀x∈T,x.2≠some p
theorem Bnt.step{b p:Addr}{M M1 M2:HpD}{T:List Ent}(g:Bnt b p M M1 T)(f:Fr b M1 M2):Bnt b p M M2 T:=
 ⟨⟨f.1,fun x hx a e=>(f.2 a (g.nw x hx a e).2).trans (g.it x hx a e),g.nw,fun a o z1 z2=>(f.2 a z1).trans (g.old a o z1 z2)⟩,(f.2 p g.pb).trans g.ls,g.np,g.pb,g.pt⟩
theorem Bnt.rows{b p:Addr}{M M1:HpD}{T T':List Ent}(g:Bnt b p M M1 T)(h:∀x∈T',x.2=none\/∃y∈T,y.2=x.2/\y.1.2.2=x.1.2.2):Bnt b p M (wc M1 p (.lst (T'.map Wo))) T':=by
 have hy:∀x∈T',∀a,x.2=some a->∃y∈T,y.2=some a/\y.1.2.2=x.1.2.2:=fun x hx a e=>by
  rcases h x hx with z | ⟨y,hy,z1,z2⟩
  ·rw[z]at e;cases e
  ·exact⟨y,hy,z1.trans e,z2⟩
 refine⟨⟨by rw[Xb (Ne.symm g.pb)];exact g.bx,fun x hx a e=>?_,fun x hx a e=>?_,fun a o z1 z2=>by rw[Xb (fun z=>by rw[z,g.np]at z2;cases z2)];exact g.old a o z1 z2⟩,Xc,g.np,g.pb,fun x hx e=>?_⟩
 ·obtain⟨y,hy,z1,z2⟩:=hy x hx a e
  rw[Xb (fun z=>g.pt y hy (by rw[z1,z])),←z2]
  exact g.it y hy a z1
 ·obtain⟨y,hy,z1,z2⟩:=hy x hx a e
  exact g.nw y hy a z1
 ·obtain⟨y,hy,z1,z2⟩:=hy x hx p e
  exact g.pt y hy z1
def Uq(T:List Ent):Prop:=∀(i j:Nat) x y a,T[i]?=some x->T[j]?=some y->x.2=some a->y.2=some a->i=j
theorem YX{α β:Type}{f:α->β}:∀{l:List α} {k:Nat} {x y:α},l[k]?=some x->f y=f x->(l.set k y).map f=l.map f
 | [],k,x,y,e,_=>by simp at e
 | z::l,0,x,y,e,h=>by
  have:z=x:=by simpa using e
  rw[List.set_cons_zero,uH,uH,h,this]
 | z::l,k+1,x,y,e,h=>by
  rw[List.set_cons_succ,uH,uH,YX (l:=l) (by simpa using e) h]
theorem Bnt.held{b p a:Addr}{M M1:HpD}{T:List Ent}{k:Nat}{r:Row}(g:Bnt b p M M1 T)(u:Uq T)(e:T[k]?=some (r,some a))(ns:List Str):Bnt b p M (wc M1 a (.lst (ns.map D.str))) (T.set k ((r.1,r.2.1,ns),some a)):=by
 have hm:(r,some a)∈T:=uF e
 obtain⟨na,nb⟩:=g.nw _ hm a rfl
 have np:a≠p:=fun z=>g.pt _ hm (by rw[z])
 have hx:∀x∈T.set k ((r.1,r.2.1,ns),some a),x=((r.1,r.2.1,ns),some a)\/(x∈T/\x.2≠some a):=fun x hx=>by
  obtain⟨j,hj,ej⟩:=uu hx
  have ej':(T.set k ((r.1,r.2.1,ns),some a))[j]?=some x:=by rw[uB hj,ej]
  rw[List.getElem?_set]at ej'
  by_cases z:k=j
  ·rw[if_pos z]at ej'
   split at ej'
   ·exact .inl (Option.some.inj ej').symm
   ·cases ej'
  ·rw[if_neg z]at ej'
   exact .inr ⟨uF ej',fun y=>z (u k j _ x a e ej' rfl y)⟩
 refine⟨⟨by rw[Xb (Ne.symm nb)];exact g.bx,fun x h a' e'=>?_,fun x h a' e'=>?_,fun a' o z1 z2=>by rw[Xb (fun z=>by rw[z,na]at z2;cases z2)];exact g.old a' o z1 z2⟩,?_,g.np,g.pb,fun x h e'=>?_⟩
 ·rcases hx x h with rfl | ⟨h1,h2⟩
  ·cases e'
   exact Xc
  ·rw[Xb (fun z=>h2 (by rw[e',z]))]
   exact g.it x h1 a' e'
 ·rcases hx x h with rfl | ⟨h1,h2⟩
  ·cases e';exact⟨na,nb⟩
  ·exact g.nw x h1 a' e'
 ·rw[Xb (Ne.symm np),g.ls,YX e (by rfl)]
 ·rcases hx x h with rfl | ⟨h1,h2⟩
  ·exact np (Option.some.inj e')
  ·exact g.pt x h1 e'
theorem qaR{M:HpD}{ls:List Addr}(ns:List Str):WC M ls (ns.map D.str)=ns.map D.str:=by
 rw[qZ,uh]
 apply xZ
 intro x _
 simp only[Function.comp,wq]
theorem kbi{b p:Addr}{M M1:HpD}{T:List Ent}(g:Bnt b p M M1 T){x:Ent}(hx:x∈T):wq M1 (T.filterMap (·.2)) (Wo x)=Wj x.1:=by
 obtain⟨r,o⟩:=x
 unfold Wo Wj jbd
 cases o with
 | none=>
  simp only[Option.map_none,Option.getD_none,wq,WC]
  rw[qaR]
 | some a=>
  have ha:a∈T.filterMap (·.2):=yJ.mpr ⟨_,hx,rfl⟩
  have e:=g.it _ hx a rfl
  simp only[xk,Option.getD_some,wq,WC]
  rw[if_pos ha,Ye,e]
theorem YaE{b p:Addr}{M M1:HpD}{T:List Ent}{Q:KD}(g:Bnt b p M M1 T)(h:∀M',Fx b M M'->Q (.lst ((T.map (·.1)).map Wj)) M') :
  ∃q ds ls,D.ref p=.ref q/\M1 q=some (.lst ds)/\q∉ls/\(Q (.ref q) (wc (frzA M1 ls) q (.lst (ds.map (wq M1 ls))))\/∃a es,D.ref q=.ref a/\(wc (frzA M1 ls) q (.lst (ds.map (wq M1 ls)))) a=some (.lst es)/\Q (.lst es) (js (wc (frzA M1 ls) q (.lst (ds.map (wq M1 ls)))) a)):=by
 refine⟨p,_,T.filterMap (·.2),rfl,g.ls,fun z=>?_,.inr ⟨p,_,rfl,Xc,?_⟩⟩
 ·obtain⟨x,hx,e⟩:=yJ.mp z
  exact g.pt x hx e
 ·have:(T.map Wo).map (wq M1 (T.filterMap (·.2)))=(T.map (·.1)).map Wj:=by
   rw[uh,uh]
   apply xZ
   intro x hx
   exact kbi g hx
  rw[this]
  have out:∀a,M a≠none\/a=b->a∉T.filterMap (·.2):=fun a ha z=>by
   obtain⟨x,hx,e⟩:=yJ.mp z
   obtain⟨h1,h2⟩:=g.nw x hx a e
   exact ha.elim (fun y=>y h1) h2
  refine h _ ⟨?_,fun a o z1 z2=>?_⟩
  ·rw[Ym (Ne.symm g.pb),Xb (Ne.symm g.pb),vF (out b (.inr rfl))];exact g.bx
  ·have ap:a≠p:=fun z=>by rw[z,g.np]at z2;cases z2
   rw[Ym ap,Xb ap,vF (out a (.inl (by rw[z2];exact fun z=>nomatch z)))]
   exact g.old a o z1 z2
theorem jam{n k:Nat}(h:k<n):ixN n (k:Int)=some k:=by
 unfold ixN
 rw[if_pos (by lia),if_pos (by lia)];simp
theorem vaD{α β:Type}(f:α->β)(l:List α)(k:Nat)(y:α):Yq (l.map f) k (f y)=(Yq l k y).map f:=by
 unfold Yq
 rw[uN,uH,List.map_take,List.map_drop]
theorem YU{α:Type}(l:List α)(k:Nat)(y:α):(Yq l k y).length=l.length+1:=by
 unfold Yq
 rw[uE,uj,uX,xD];lia
theorem kaA{α:Type}{l:List α}{k:Nat}{y x:α}(h:x∈Yq l k y):x=y\/x∈l:=by
 unfold Yq at h
 rcases uQ.mp h with z | z
 ·exact .inr (xF z)
 ·rcases uZ.mp z with z | z
  ·exact .inl z
  ·exact .inr (List.mem_of_mem_drop z)
theorem Y0{α β:Type}(f:α->β):∀(l:List α) (k:Nat),(l.map f).eraseIdx k=(l.eraseIdx k).map f
 | [],_=>rfl
 | _::_,0=>rfl
 | x::l,k+1=>by rw[uH,xo,xo,uH,Y0 f l k]
theorem YG{α:Type}{l:List α}{k:Nat}{y x:α}(h:x∈l.set k y):x=y\/x∈l:=(List.mem_or_eq_of_mem_set h).symm
abbrev vA(k:Int):TDT:=Xd (Wb (Wi false) (Ya 6) (tCD (.int k)))
def bx1:TSD:=(kh (kG (Ya 5) (Wa ja (Za (Ya 0) (Za (Wb vh (Wa Zl (Za (Ya 5) Xa)) (tCD (.int 1))) Xa))) (Ya 8)))
def bx2:TSD:=(jc (jf (Za (Ya 3) (Za (Ya 4) (Za (kA (Wb wD (Ya 5) (jg (Za (Ya 8) Xa)))) Xa)))) (kz (Ya 1) (Ya 7)))
def bx3:TSD:=(kh (kP (Ya 5) (Wa ja (Za (Ya 0) (Za (Wa Zl (Za (Ya 5) Xa)) Xa)))))
def bx4:TSD:=(kh (W3 (Ya 5)))
def bx5:TSD:=(kh (kP (Ya 1) (Ya 7)))
def bx6:TSD:=(kh (kG (Ya 1) (Ya 7) (jf (Za (Ya 3) (Za (Ya 4) (Za (jg Xa) Xa))))))
def bx7:TSD:=(jc (jf (Za (Wb vh (Ya 3) (tCD (.int 1))) (Za (Ya 4) (Za (Ya 5) Xa)))) (kz (Ya 1) (Ya 7)))
def bx8:TSD:=(jc (Wb Zh (Ya 1) (Wa ja (Za (Ya 0) (Za (Wa Zl (Za (Ya 1) Xa)) Xa)))) (kz (Ya 1) (Ya 7)))
def br9:TSD:=Zf (kH (Ya 1))
def br8:TSD:=Zc (we (vA 8) bx8 vd) br9
def br7:TSD:=Zc (we (vA 7) bx7 vd) br8
def br6:TSD:=Zc (we (vA 6) bx6 vd) br7
def br5:TSD:=Zc (we (vA 5) bx5 vd) br6
def br4:TSD:=Zc (we (vA 4) bx4 vd) br5
def br3:TSD:=Zc (we (Wz (vA 3) (Xd (Wb wF (Wa Zl (Za (Ya 5) Xa)) (tCD (.int 0))))) bx3 vd) br4
def br2:TSD:=Zc (we (vA 2) bx2 vd) br3
def br1:TSD:=Zc (we (vA 1) bx1 vd) br2
theorem vf{X rest:TSD}{k t:Int}{DD:jn}{σ:SD}{M:HpD}(e:σ[6]?=some (some (.int t)))(ne:t≠k)(h:rest DD σ M):Zc (we (vA k) X vd) rest DD σ M:=by
 refine vS (WH (WL (W5 (YC e (X9 (WT ⟨_,rfl,?_⟩))))))
 rw[decide_eq_false ne,if_neg (by decide)]
 exact Zo h
theorem jC{X rest:TSD}{k:Int}{DD:jn}{σ:SD}{M:HpD}(e:σ[6]?=some (some (.int k)))(h:X {DD with nx:=rest DD} σ M):Zc (we (vA k) X vd) rest DD σ M:=by
 refine vS (WH (WL (W5 (YC e (X9 (WT ⟨_,rfl,?_⟩))))))
 rw[decide_eq_true rfl,if_pos (by decide)]
 exact h
theorem WF{c:TDT}{X rest:TSD}{k t:Int}{DD:jn}{σ:SD}{M:HpD}(e:σ[6]?=some (some (.int t)))(ne:t≠k)(h:rest DD σ M):Zc (we (Wz (vA k) c) X vd) rest DD σ M:=by
 refine vS (WH (Z1 (WL (W5 (YC e (X9 (WT ⟨_,rfl,?_⟩)))))))
 rw[decide_eq_false ne,if_neg (by decide),if_neg (by decide)]
 exact Zo h
structure BC(b:Addr)(M:HpD)(K n:Nat)(Q:KD):Prop where
 h:∀(rows:List Row) (M':HpD),rows.length<=K+1->(∀r∈rows,r.2.2.length<=n+1)->Fx b M M'->Q (.lst (rows.map Wj)) M'
 k:K<=300
 n:n<=60
noncomputable abbrev Yz(Q:KD):jn:={nx:=fun _ M'=>Q .non M',rt:=Q}
section
variable {b p:Addr} {M M1:HpD} {K n:Nat} {Q:KD} {T:List Ent} {σ:SD} {t:Int}
structure Fin(b p:Addr)(M M1:HpD)(K n:Nat)(σ:SD)(t:Int)(T:List Ent):Prop where
 g:Bnt b p M M1 T
 l:T.length<=K+1
 m:∀x∈T,x.1.2.2.length<=n+1
 e1:σ[1]?=some (some (.ref p))
 e6:σ[6]?=some (some (.int t))
theorem Wbp(C:BC b M K n Q)(F:Fin b p M M1 K n σ t T):br9 (Yz Q) σ M1:=by
 unfold br9
 refine Yae (qax (YC F.e1 ?_))
 exact YaE F.g fun M' f=>C.h _ M' (by rw[uA];exact F.l) (fun r hr=>by obtain⟨x,hx,rfl⟩:=uS.mp hr;exact F.m x hx) f
theorem Xbr(C:BC b M K n Q)(F:Fin b p M M1 K n σ t T)(h:t<8):br8 (Yz Q) σ M1:=vf F.e6 (by lia) (Wbp C F)
theorem wbn(C:BC b M K n Q)(F:Fin b p M M1 K n σ t T)(h:t<7):br7 (Yz Q) σ M1:=vf F.e6 (by lia) (Xbr C F (by lia))
theorem wbp(C:BC b M K n Q)(F:Fin b p M M1 K n σ t T)(h:t<6):br6 (Yz Q) σ M1:=vf F.e6 (by lia) (wbn C F (by lia))
theorem qbq(C:BC b M K n Q)(F:Fin b p M M1 K n σ t T)(h:t<5):br5 (Yz Q) σ M1:=vf F.e6 (by lia) (wbp C F (by lia))
theorem Ybb(C:BC b M K n Q)(F:Fin b p M M1 K n σ t T)(h:t<4):br4 (Yz Q) σ M1:=vf F.e6 (by lia) (qbq C F (by lia))
theorem qbn(C:BC b M K n Q)(F:Fin b p M M1 K n σ t T)(h:t<3):br3 (Yz Q) σ M1:=WF F.e6 (by lia) (Ybb C F (by lia))
theorem XbC(C:BC b M K n Q)(F:Fin b p M M1 K n σ t T)(h:t<2):br2 (Yz Q) σ M1:=vf F.e6 (by lia) (qbn C F (by lia))
structure Sta(b p a:Addr)(M M1:HpD)(K n k:Nat)(T:List Ent)(r:Row):Prop where
 g:Bnt b p M M1 T
 u:Uq T
 l:T.length<=K
 m:∀x∈T,x.1.2.2.length<=n
 e:T[k]?=some (r,some a)
noncomputable def bσ(b p a:Addr)(d2:D)(r:Row)(t:Int)(k:Nat)(nm:Str):SD:=[some (.ref b),some (.ref p),some d2,some (.int r.1),some (.str r.2.1),some (.ref a),some (.int t),some (.int (k:Int)),some (.str nm)]
variable {a:Addr} {k:Nat} {r:Row} {d2:D} {nm:Str}
theorem Sta.la(S:Sta b p a M M1 K n k T r):M1 a=some (.lst (r.2.2.map D.str)):=S.g.it _ (uF S.e) a rfl
theorem Sta.ra(S:Sta b p a M M1 K n k T r):r.2.2.length<=n:=S.m _ (uF S.e)
theorem Sta.kl(S:Sta b p a M M1 K n k T r):k<T.length:=(uO.mp S.e).1
theorem Sta.step{M2:HpD}(S:Sta b p a M M1 K n k T r)(f:Fr b M1 M2):Sta b p a M M2 K n k T r:=⟨S.g.step f,S.u,S.l,S.m,S.e⟩
theorem Sta.held(S:Sta b p a M M1 K n k T r)(ns:List Str)(h:ns.length<=n+1):Fin b p M (wc M1 a (.lst (ns.map D.str))) K n (bσ b p a d2 r t k nm) t (T.set k ((r.1,r.2.1,ns),some a)):=
 ⟨S.g.held S.u S.e ns,by rw[yN];have:=S.l;lia,fun x hx=>by
  rcases YG hx with rfl | z
  ·exact h
  ·have:=S.m x z;lia,rfl,rfl⟩
theorem Sta.rows{T':List Ent}(S:Sta b p a M M1 K n k T r)(h:∀x∈T',x.2=none\/∃y∈T,y.2=x.2/\y.1.2.2=x.1.2.2)(l:T'.length<=K+1)(m:∀x∈T',x.1.2.2.length<=n+1):Fin b p M (wc M1 p (.lst (T'.map Wo))) K n (bσ b p a d2 r t k nm) t T':=
 ⟨S.g.rows h,l,m,rfl,rfl⟩
theorem Sta.same(S:Sta b p a M M1 K n k T r):Fin b p M M1 K n (bσ b p a d2 r t k nm) t T:=
 ⟨S.g,by have:=S.l;lia,fun x hx=>by have:=S.m x hx;lia,rfl,rfl⟩
theorem go1(C:BC b M K n Q)(S:Sta b p a M M1 K n k T r):br1 (Yz Q) (bσ b p a d2 r 1 k nm) M1:=by
 refine jC rfl ?_
 have:=C.n
 have hr:=S.ra
 obtain⟨o,e,hb⟩:=S.g.bx
 unfold bx1 bσ
 walk_at "st"
 refine⟨⟨_,S.la⟩,?_⟩
 walk_at "st"
 refine jr (ke S.la) ?_
 walk_at "st"
 refine⟨b,_,o,rfl,by rw[uA];lia,by rw[uA];lia,e,hb,fun x N x0 x1 f=>?_⟩
 rw[uA]at x1
 obtain⟨j,rfl⟩:=yH x0
 have S2:=S.step f
 walk_at "st"
 refine⟨j,_,rfl,S2.la,uP (by rw[uA];lia) (qb (n:=100) (by decide)),by rw[uA];lia,?_⟩
 rw[vaD]
 exact XbC C (S2.held _ (by rw[YU];lia)) (by decide)
theorem go2(C:BC b M K n Q)(S:Sta b p a M M1 K n k T r):br2 (Yz Q) (bσ b p a d2 r 2 k nm) M1:=by
 refine jC rfl ?_
 have:=C.n
 have hr:=S.ra
 have kl:=S.kl
 unfold bx2 bσ
 walk_at "st"
 refine Xg (qb (by show 1<=1000;decide)) ?_
 refine kah (vw S.la) rfl (Xg (qb (by rw[uE,uA];show _+1<=1000;lia)) ?_)
 refine⟨r.2.2++[nm],by rw[uN];rfl,by rw[uE];show _+1<=1000;lia,fun ms nd me _=>?_⟩
 have ml:ms.length<=n+1:=by
  have:=wn (m:=r.2.2++[nm]) nd fun x hx=>(me x).mp hx
  rw[uE]at this
  have:ms.length<=r.2.2.length+1:=this
  lia
 refine Xg (qb (by rw[uA];lia)) ?_
 walk_at "st"
 refine⟨p,_,_,k,rfl,rfl,S.g.ls,jam (by rw[uA];exact kl),?_⟩
 have e:(T.map Wo).set k (.tup [.int r.1,.str r.2.1,.lst (ms.map D.str)])=(T.set k ((r.1,r.2.1,ms),none)).map Wo:=by rw[List.map_set];rfl
 rw[e]
 refine qbn C (S.rows (fun x hx=>?_) (by rw[yN];have:=S.l;lia) fun x hx=>?_) (by decide)
 ·rcases YG hx with rfl | z
  ·exact .inl rfl
  ·exact .inr ⟨x,z,rfl,rfl⟩
 ·rcases YG hx with rfl | z
  ·exact ml
  ·have:=S.m x z;lia
theorem go3(C:BC b M K n Q)(S:Sta b p a M M1 K n k T r):br3 (Yz Q) (bσ b p a d2 r 3 k nm) M1:=by
 have:=C.n
 have hr:=S.ra
 obtain⟨o,e,hb⟩:=S.g.bx
 unfold br3 bσ
 walk_at "st"
 refine jr (ke S.la) ?_
 walk_at "st"
 refine ZA (fun c=>?_) (fun _=>Zo (Ybb C S.same (by decide)))
 rw[uA]at c
 unfold bx3
 walk_at "st"
 refine⟨⟨_,S.la⟩,?_⟩
 walk_at "st"
 refine jr (ke S.la) ?_
 walk_at "st"
 refine⟨b,_,o,rfl,by rw[uA];lia,by rw[uA];lia,e,hb,fun x N x0 x1 f=>?_⟩
 rw[uA]at x1
 obtain⟨j,rfl⟩:=yH x0
 have S2:=S.step f
 have hj:j<r.2.2.length:=by lia
 refine⟨_,j,.str r.2.2[j],rfl,S2.la,by rw[uG,uB hj];rfl,by lia,?_⟩
 have e:(r.2.2.map D.str).eraseIdx j=(r.2.2.eraseIdx j).map D.str:=Y0 _ _ _
 rw[e]
 exact Ybb C (S2.held _ (by rw[List.length_eraseIdx];split<;>lia)) (by decide)
theorem go4(C:BC b M K n Q)(S:Sta b p a M M1 K n k T r):br4 (Yz Q) (bσ b p a d2 r 4 k nm) M1:=by
 refine jC rfl ?_
 have hr:=S.ra
 unfold bx4 bσ
 walk_at "st"
 refine⟨a,_,rfl,S.la,?_⟩
 rw[←List.map_reverse]
 exact qbq C (S.held _ (by rw[List.length_reverse];lia)) (by decide)
theorem go5(C:BC b M K n Q)(S:Sta b p a M M1 K n k T r):br5 (Yz Q) (bσ b p a d2 r 5 k nm) M1:=by
 refine jC rfl ?_
 have:=C.k
 have kl:=S.kl
 have hl:=S.l
 unfold bx5 bσ
 walk_at "st"
 refine⟨⟨_,S.g.ls⟩,?_⟩
 walk_at "st"
 refine⟨_,k,Wo (r,some a),rfl,S.g.ls,by rw[uG,S.e];rfl,by lia,?_⟩
 have e:(T.map Wo).eraseIdx k=(T.eraseIdx k).map Wo:=Y0 _ _ _
 rw[e]
 refine wbp C (S.rows (fun x hx=>.inr ⟨x,List.mem_of_mem_eraseIdx hx,rfl,rfl⟩) (by rw[List.length_eraseIdx];split<;>lia) fun x hx=>?_) (by decide)
 have:=S.m x (List.mem_of_mem_eraseIdx hx);lia
theorem go6(C:BC b M K n Q)(S:Sta b p a M M1 K n k T r):br6 (Yz Q) (bσ b p a d2 r 6 k nm) M1:=by
 refine jC rfl ?_
 have:=C.k
 have kl:=S.kl
 have hl:=S.l
 unfold bx6 bσ
 walk_at "st"
 refine⟨⟨_,S.g.ls⟩,?_⟩
 walk_at "st"
 refine Xg (qb (ua _)) ?_
 walk_at "st"
 refine⟨k,_,rfl,S.g.ls,uP (by rw[uA];lia) (qb (n:=400) (by decide)),by rw[uA];lia,?_⟩
 have e:Yq (T.map Wo) k (.tup [.int r.1,.str r.2.1,.lst []])=(Yq T k ((r.1,r.2.1,[]),none)).map Wo:=vaD Wo T k ((r.1,r.2.1,[]),none)
 rw[e]
 refine wbn C (S.rows (fun x hx=>?_) (by rw[YU];lia) fun x hx=>?_) (by decide)
 ·rcases kaA hx with rfl | z
  ·exact .inl rfl
  ·exact .inr ⟨x,z,rfl,rfl⟩
 ·rcases kaA hx with rfl | z
  ·exact ua _
  ·have:=S.m x z;lia
theorem go7(C:BC b M K n Q)(S:Sta b p a M M1 K n k T r):br7 (Yz Q) (bσ b p a d2 r 7 k nm) M1:=by
 refine jC rfl ?_
 have kl:=S.kl
 have hr:=S.ra
 unfold bx7 bσ
 walk_at "st"
 refine⟨p,_,_,k,rfl,rfl,S.g.ls,jam (by rw[uA];exact kl),?_⟩
 have e:(T.map Wo).set k (.tup [.int (r.1+1),.str r.2.1,.ref a])=(T.set k ((r.1+1,r.2.1,r.2.2),some a)).map Wo:=by rw[List.map_set];rfl
 rw[e]
 refine Xbr C (S.rows (fun x hx=>?_) (by rw[yN];have:=S.l;lia) fun x hx=>?_) (by decide)
 ·rcases YG hx with rfl | z
  ·exact .inr ⟨(r,some a),uF S.e,rfl,rfl⟩
  ·exact .inr ⟨x,z,rfl,rfl⟩
 ·rcases YG hx with rfl | z
  ·show r.2.2.length<=n+1;lia
  ·have:=S.m x z;lia
theorem go8(C:BC b M K n Q)(S:Sta b p a M M1 K n k T r):br8 (Yz Q) (bσ b p a d2 r 8 k nm) M1:=by
 refine jC rfl ?_
 have:=C.k
 have kl:=S.kl
 have hl:=S.l
 obtain⟨o,e,hb⟩:=S.g.bx
 unfold bx8 bσ
 walk_at "st"
 refine jr (ke S.g.ls) ?_
 walk_at "st"
 refine⟨b,_,o,rfl,by rw[uA];lia,by rw[uA];lia,e,hb,fun x N x0 x1 f=>?_⟩
 rw[uA]at x1
 have S2:=S.step f
 refine XG (ke S2.g.ls) x0 x1 fun y hy=>?_
 have hym:=uF hy
 walk_at "st"
 refine⟨p,_,_,k,rfl,rfl,S2.g.ls,jam (by rw[uA];exact kl),?_⟩
 rw[←List.map_set]
 refine Wbp C (S2.rows (fun x hx=>?_) (by rw[yN];lia) fun x hx=>?_)
 ·rcases YG hx with rfl | z
  ·exact .inr ⟨x,hym,rfl,rfl⟩
  ·exact .inr ⟨x,z,rfl,rfl⟩
 ·rcases YG hx with rfl | z
  ·have:=S.m x hym;lia
  ·have:=S.m x z;lia
theorem go(C:BC b M K n Q)(S:Sta b p a M M1 K n k T r)(h0:0<t)(h8:t<9):br1 (Yz Q) (bσ b p a d2 r t k nm) M1:=by
 have:t=1\/t=2\/t=3\/t=4\/t=5\/t=6\/t=7\/t=8:=by lia
 rcases this with rfl | rfl | rfl | rfl | rfl | rfl | rfl | rfl
 ·exact go1 C S
 ·exact vf rfl (by decide) (go2 C S)
 ·exact vf rfl (by decide) (vf rfl (by decide) (go3 C S))
 ·exact vf rfl (by decide) (vf rfl (by decide) (WF rfl (by decide) (go4 C S)))
 ·exact vf rfl (by decide) (vf rfl (by decide) (WF rfl (by decide) (vf rfl (by decide) (go5 C S))))
 ·exact vf rfl (by decide) (vf rfl (by decide) (WF rfl (by decide) (vf rfl (by decide) (vf rfl (by decide) (go6 C S)))))
 ·exact vf rfl (by decide) (vf rfl (by decide) (WF rfl (by decide) (vf rfl (by decide) (vf rfl (by decide) (vf rfl (by decide) (go7 C S))))))
 ·exact vf rfl (by decide) (vf rfl (by decide) (WF rfl (by decide) (vf rfl (by decide) (vf rfl (by decide) (vf rfl (by decide) (vf rfl (by decide) (go8 C S)))))))
end
theorem jbE(e:Ent)(t:Int):∃r:List Ent,L2.ZU [Wo e] none (some t)=r.map Wo/\r.length<=1/\∀x∈r,x=e:=by
 unfold L2.ZU
 refine⟨([e].drop (HT.sIx [Wo e].length 0 none)).take (HT.sIx [Wo e].length [Wo e].length (some t) - HT.sIx [Wo e].length 0 none),?_,?_,fun x hx=>?_⟩
 ·rw[List.map_take,List.map_drop];rfl
 ·rw[uX,xD];show min _ (1 - _)<=1;lia
 ·have:=List.mem_of_mem_drop (xF hx)
  exact uL.mp this
theorem Bn0.fresh{b q:Addr}{M M1:HpD}{T:List Ent}(g:Bn0 b M M1 T)(hq:M1 q=none):q≠b/\M q=none/\∀x∈T,x.2≠some q:=by
 obtain⟨o,e,_⟩:=g.bx
 have h0:q≠b:=fun z=>by rw[z,e]at hq;cases hq
 refine⟨h0,?_,fun x hx z=>by rw[g.it x hx q z]at hq;cases hq⟩
 cases z:M q with
 | none=>rfl
 | some o=>rw[g.old q o h0 z]at hq;cases hq
theorem Bn0.side{b q:Addr}{M M1:HpD}{T:List Ent}{o:OD}(g:Bn0 b M M1 T)(hq:M1 q=none):Bn0 b M (wc M1 q o) T:=by
 obtain⟨h0,h1,h2⟩:=g.fresh hq
 exact⟨by rw[Xb (Ne.symm h0)];exact g.bx,fun x hx a e=>by rw[Xb (fun z=>h2 x hx (by rw[e,z]))];exact g.it x hx a e,g.nw,
  fun a o z1 z2=>by rw[Xb (fun z=>by rw[z,h1]at z2;cases z2)];exact g.old a o z1 z2⟩
theorem Bn0.top{b q:Addr}{M M1:HpD}{T:List Ent}(g:Bn0 b M M1 T)(hq:M1 q=none):Bnt b q M (wc M1 q (.lst (T.map Wo))) T:=by
 obtain⟨h0,h1,h2⟩:=g.fresh hq
 exact⟨g.side hq,Xc,h1,h0,h2⟩
theorem Bn0.app{b:Addr}{M M1:HpD}{T R:List Ent}(g:Bn0 b M M1 T)(h:∀x∈R,x.2=none):Bn0 b M M1 (T++R):=by
 have hx:∀x∈T++R,∀a,x.2=some a->x∈T:=fun x hx a e=>(uQ.mp hx).elim id fun z=>by rw[h x z]at e;cases e
 exact⟨g.bx,fun x y a e=>g.it x (hx x y a e) a e,fun x y a e=>g.nw x (hx x y a e) a e,g.old⟩
theorem Bn0.more{b q:Addr}{M M1:HpD}{T:List Ent}(g:Bn0 b M M1 T)(hq:M1 q=none)(r:Row):Bn0 b M (wc M1 q (.lst (r.2.2.map D.str))) (T++[(r,some q)]):=by
 obtain⟨h0,h1,h2⟩:=g.fresh hq
 have g1:Bn0 b M (wc M1 q (.lst (r.2.2.map D.str))) T:=g.side hq
 refine⟨g1.bx,fun x hx a e=>?_,fun x hx a e=>?_,g1.old⟩
 ·rcases uQ.mp hx with z | z
  ·exact g1.it x z a e
  ·rw[uL]at z;subst z;cases e;exact Xc
 ·rcases uQ.mp hx with z | z
  ·exact g1.nw x z a e
  ·rw[uL]at z;subst z;cases e;exact⟨h1,h0⟩
theorem Uq.more{T:List Ent}{q:Addr}{r:Row}(u:Uq T)(h:∀x∈T,x.2≠some q):Uq (T++[(r,some q)]):=by
 have key:∀(i:Nat) x,(T++[(r,some q)])[i]?=some x->(i=T.length/\x=(r,some q))\/(i<T.length/\T[i]?=some x):=fun i x e=>by
  by_cases hi:i<T.length
  ·rw[u8 hi]at e
   exact .inr ⟨hi,e⟩
  ·rw[up (by lia)]at e
   have h1:i - T.length<[(r,some q)].length:=(uO.mp e).1
   have h2:i - T.length=0:=by simpa using h1
   rw[h2]at e
   exact .inl ⟨by lia,(Option.some.inj e).symm⟩
 intro i j x y a ei ej ex ey
 rcases key i x ei with ⟨i1,rfl⟩ | ⟨i1,i2⟩<;>rcases key j y ej with ⟨j1,rfl⟩ | ⟨j1,j2⟩
 ·lia
 ·cases ex;exact absurd ey (h y (uF j2))
 ·cases ey;exact absurd ex (h x (uF i2))
 ·exact u i j x y a i2 j2 ex ey
def vaF:TSD:=(Zc (jc (Wb Zh (Ya 1) (Ya 7)) (jl 3 (qc (Zb 3) (qc (Zb 4) (qc (Zb 5) Xj)))))
 (Zc (jc (Wb Zh (Wb wD (Ya 2) (jg (Za (tCD (.str "zz")) Xa))) (Wa ja (Za (Ya 0) (Za (Wb vh (Wa Zl (Za (Ya 2) Xa)) (tCD (.int 1))) Xa)))) (Zb 8))
 br1))
theorem kaV{b p:Addr}{M M1:HpD}{K n:Nat}{Q:KD}{T:List Ent}{t r:Int}{ns:List Str}{v3 v4 v5 v8:Option D}(C:BC b M K n Q)(g:Bnt b p M M1 T)(u:Uq T)(hs:∀x∈T,∃a,x.2=some a)(hl:T.length<=K)(hm:∀x∈T,x.1.2.2.length<=n)(nl:ns.length<=100)(t0:0<t)(t9:t<9)(r0:0<=r)(r1:r<(T.length:Int)) :
  vaF (Yz Q) [some (.ref b),some (.ref p),some (.lst (ns.map D.str)),v3,v4,v5,some (.int t),some (.int r),v8] M1:=by
 unfold vaF
 walk_at "st"
 obtain⟨k,rfl⟩:=yH r0
 refine XG (ke g.ls) r0 r1 fun x hx=>?_
 obtain⟨a,ea⟩:=hs x (uF hx)
 obtain⟨row,o⟩:=x
 obtain rfl:o=some a:=ea
 have S:Sta b p a M M1 K n k T row:=⟨g,u,hl,hm,hx⟩
 have e:Wo (row,some a)=.tup [.int row.1,.str row.2.1,.ref a]:=rfl
 rw[e]
 walk_at "st"
 refine Xg (qb (by show 1<=1000;decide)) ?_
 refine kah rfl rfl (Xg (qb (by rw[uE,uA];show _+1<=1000;lia)) ?_)
 obtain⟨o,eo,hb⟩:=S.g.bx
 walk_at "st"
 refine⟨b,_,o,rfl,by rw[uA];lia,by rw[uA];lia,eo,hb,fun y N y0 y1 f=>?_⟩
 rw[uA]at y1
 refine XG (l:=ns++[("zz":Str)]) (f:=D.str) (by rw[uN];rfl) y0 (by rw[uE];exact y1) fun nm _=>?_
 refine jj ?_
 exact go C (S.step f) t0 t9
def qi:SpD:=fun ds M Q=>∃(b:Addr) (o:OD) (rows:List Row) (ns:List Str) (K n:Nat),ds=[.ref b,.lst (rows.map Wj),.lst (ns.map D.str)]/\M b=some o/\Ys o/\ns.length<=100/\rows.length<=K/\(∀r∈rows,r.2.2.length<=n)/\BC b M K n Q
theorem WU(ds:List D)(M:HpD)(Q:KD)(h:qi ds M Q):qE ja {nx:=fun _ M'=>Q .non M',rt:=Q} (Zg ["_law_box_here","_law_rows","_law_names_here","_law_day_here","_law_show","_law_held","_law_turn","_law_at","_law_name"] ds) M:=by
 obtain⟨b,o,rows,ns,K,n,rfl,eM,hb,nl,rl,rn,C⟩:=h
 have hK:=C.k
 have hn:=C.n
 unfold qE
 walk_at "st"
 refine⟨qb (by rw[uA];lia),fun i ys σ M'=>∃(T:List Ent) (v0 v1 v2:Option D),Bn0 b M M' T/\Uq T/\(∀x∈T,∃a,x.2=some a)/\T.map (·.1)=rows.take i/\ys=T.map Wo/\σ=[v0,v1,v2,some (.ref b),some (.lst (rows.map Wj)),some (.lst (ns.map D.str)),none,none,none,none,none,none],⟨[],_,_,_,⟨⟨o,eM,hb⟩,by simp,by simp,fun _ _ _ e=>e⟩,(fun i j x y a e=>by simp at e),by simp,by simp,rfl,rfl⟩,fun _ _ _ _ _=>rfl,?_,?_⟩
 ·rintro i y ys σ M' e ⟨T,v0,v1,v2,g,u,hs,ht,rfl,rfl⟩
  rw[uG]at e
  obtain⟨r,er,rfl⟩:=uV.mp e
  have hr:=rn r (uF er)
  unfold Wj
  walk_at "st"
  refine ZL rfl (newM (qb (by rw[uA];lia)) fun q hq=>?_)
  walk_at "st"
  obtain⟨h0,h1,h2⟩:=g.fresh hq
  refine⟨T++[(r,some q)],_,_,_,g.more hq r,u.more h2,fun x hx=>(uQ.mp hx).elim (hs x) fun z=>by rw[uL.mp z];exact⟨q,rfl⟩,by rw[uN,ht,ud,er];rfl,by rw[uN];rfl,rfl⟩
 rintro ys σ M' ⟨T,v0,v1,v2,g,u,hs,ht,rfl,rfl⟩
 rw[uA,ug]at ht
 have tl:T.length=rows.length:=by rw[←ht,uA]
 have tm:∀x∈T,x.1.2.2.length<=n:=fun x hx=>rn x.1 (by rw[←ht];exact uS.mpr ⟨x,hx,rfl⟩)
 refine newM (qb (by rw[uA];lia)) fun p hp=>?_
 have g1:=g.top hp
 obtain⟨o1,e1,b1⟩:=g1.bx
 walk_at "st"
 refine⟨b,_,o1,rfl,by decide,by decide,e1,b1,fun t M2 t0 t9 f2=>?_⟩
 have g2:=g1.step f2
 have out:∀(DD:jn) (w3 w4 w5 w7 w8:Option D),DD.rt=Q->Zf (kH (Wb wD (Ya 1) (Y1 (jg (Za (jf (Za (tCD (.int 3)) (Za (tCD (.str "a")) (Za (jg Xa) Xa)))) Xa)) jA (wH (Ya 6))))) DD [some (.ref b),some (.ref p),some (.lst (ns.map D.str)),w3,w4,w5,some (.int t),w7,w8] M2:=by
  intro DD w3 w4 w5 w7 w8 hD
  subst hD
  walk_at "st"
  refine Xg (qb (ua _)) ?_
  walk_at "st"
  refine Xg (qb (by show 1<=1000;decide)) ?_
  walk_at "st"
  obtain⟨R,eR,rl1,rm⟩:=jbE ((3,"a",[]),none) t
  have eR':L2.ZU [.tup [.int 3,.str "a",.lst []]] none (some t)=R.map Wo:=eR
  rw[eR']
  refine Xg (qb (by rw[uA];lia)) ?_
  refine kah (vw g2.ls) rfl ?_
  rw[←uN]
  refine newM (qb (by rw[uA,uE];lia)) fun p2 hp2=>?_
  have g3:Bn0 b M M2 (T++R):=g2.toBn0.app fun x hx=>by rw[rm x hx]
  refine YaE (g3.top hp2) fun M' f=>C.h _ M' (by rw[uA,uE];lia) (fun r hr=>?_) f
  obtain⟨x,hx,rfl⟩:=uS.mp hr
  rcases uQ.mp hx with z | z
  ·have:=tm x z;lia
  ·rw[rm x z];exact ua _
 walk_at "st"
 refine jr (ke g2.ls) ?_
 walk_at "st"
 refine WJ (fun _=>?_) (fun c1=>?_)
 ·exact out _ _ _ _ _ _ rfl
 rw[uA]at c1
 walk_at "st"
 refine WJ (fun _=>?_) (fun c2=>?_)
 ·exact out _ _ _ _ _ _ rfl
 obtain⟨o3,e3,b3⟩:=g2.bx
 walk_at "st"
 refine jr (ke g2.ls) ?_
 walk_at "st"
 refine⟨b,_,o3,rfl,by rw[uA];lia,by rw[uA];lia,e3,b3,fun r M3 r0 r1 f3=>?_⟩
 rw[uA]at r1
 refine jj ?_
 exact kaV C (g2.step f3) u hs (by lia) tm nl (by lia) t9 r0 r1
theorem Zbj{neg a b:Bool}{M:HpD}{Q:KD}(q:Q (.bl (neg ^^ (a==b))) M):Wi neg (.bl a) (.bl b) M Q:=by
 refine XaG rfl (ua _) ?_
 have e:eqD (Ye (.bl a) M) (Ye (.bl b) M)=(a==b):=by
  show eqD (.bl a) (.bl b)=_
  cases a<;>cases b<;>rfl
 rw[e];exact q
theorem Xbe:∀{ds:List D},(∀d∈ds,okD d d=true/\eqD d d=true/\Zn d<=20)->Xs ds ds=true/\kj ds ds=true/\Xh ds<=20
 | [],_=>⟨by simp[Xs],by simp[kj],by simp[Xh]⟩
 | d::ds,h=>by
  obtain⟨a1,a2,a3⟩:=h d uc
  obtain⟨b1,b2,b3⟩:=Xbe (ds:=ds) fun x hx=>h x (uW _ hx)
  refine⟨by simp[Xs,a1,b1],by simp[kj,a2,b2],?_⟩
  simp only[Xh];lia
theorem va8(s:Sho):okD (qf s) (qf s)=true/\eqD (qf s) (qf s)=true/\Zn (qf s)<=20:=by
 obtain⟨a1,a2⟩:=jO s.th
 have a3:=WR WG s.th
 refine⟨by simp[qf,okD,Xs,a1],by simp[qf,eqD,kj,a2],?_⟩
 simp only[qf,Zn,Xh];lia
theorem vaW{M:HpD}(ss:List Sho):qU M (.lst (ss.map qf)) (.lst (ss.map qf)):=by
 obtain⟨a,b,c⟩:=Xbe (ds:=ss.map qf) fun d hd=>by obtain⟨s,_,rfl⟩:=uS.mp hd;exact va8 s
 refine .inl ⟨_,_,rfl,rfl,?_,?_,?_⟩
 ·unfold okD;exact a
 ·unfold eqD;exact b
 ·unfold Zn;lia
theorem vaw:∀(kvs acc:List (Key×D)),((acc++kvs).map (·.1)).Nodup->kvs.foldl (fun acc kv=>ju acc kv.1 kv.2) acc=acc++kvs
 | [],acc,_=>by simp
 | kv::kvs,acc,nd=>by
  rw[List.foldl_cons,qN,vaw kvs (acc++[kv]) (by simpa using nd)]
  ·simp
  ·intro x hx z
   rw[uN,xM]at nd
   exact nd.2.2 x.1 (uS.mpr ⟨x,hx,rfl⟩) kv.1 (by simp) z
noncomputable def kaQ(x:Str×List (Int×Int)):D:=.tup [.str x.1,.lst (x.2.map jM)]
theorem Wa6(lv:Lvs):YB ((kg lv).map (·.1)) ((kg lv).map (·.2))=lv.map kaQ:=by
 have:=j5 lv (fun _=>none)
 have e:((kg lv).map (·.1)).zip ((kg lv).map (·.2))=kg lv:=Option.some.inj this
 unfold YB
 rw[e]
 unfold kg
 rw[uh];rfl
theorem jaL(lv:Lvs)(h:(lv.map (·.1)).Nodup):((kg lv).map (·.1)).Nodup:=by
 unfold kg
 rw[uh]
 unfold yY at h ⊢
 rw[xX]at h ⊢
 exact h.imp fun h e=>h (by simpa using e)
theorem jbi(lg:Lgs)(h:(lg.map (·.1)).Nodup):((Zi lg).map (·.1)).Nodup:=by
 unfold Zi
 rw[uh]
 unfold yY at h ⊢
 rw[xX]at h ⊢
 exact h.imp fun h e=>h (by simpa using e)
theorem Wbc{M:HpD}{x y:D}{lg:Lgs}(nd:(lg.map (·.1)).Nodup)(hx:dcD x M=some (Zi lg))(hy:dcD y M=some (Zi lg)):qU M x y:=
 Xac (jbi lg nd) (fun kv h=>by
  obtain⟨p,_,rfl⟩:=uS.mp h
  exact⟨by simp[okD],by simp[eqD],by simp[Zn]⟩) hx hy
theorem Wbb{M:HpD}{x y:D}{lv:Lvs}(nd:(lv.map (·.1)).Nodup)(hx:dcD x M=some (kg lv))(hy:dcD y M=some (kg lv)):qU M x y:=
 Xac (jaL lv nd) (fun kv h=>by
  obtain⟨p,_,rfl⟩:=uS.mp h
  obtain⟨a,b⟩:=WK waV p.2 p.2
  have c:=WR waV p.2
  refine⟨?_,?_,?_⟩
  ·show okD (.lst _) (.lst _)=true
   unfold okD;exact a
  ·show eqD (.lst _) (.lst _)=true
   unfold eqD;rw[b];simp
  ·show Zn (.lst _)<=50
   unfold Zn;lia) hx hy
structure jay(rows:List Row)(i:Nat):Prop where
 l:rows.length<=240+i
 m:∀r∈rows,r.2.2.length<=12+i
def qaM(rest:TSD):TSD:=(Zc (jc (Wa qu (Za (Ya 0) Xa)) (Zb 1))
 (Zc (jc (Wa kr (Za (Ya 1) Xa)) (jl 3 (qc (Zb 2) (qc (Zb 3) (qc (Zb 4) Xj)))))
 (Zc (jc (Wa Xq (Za (Ya 1) (Za (Ya 2) (Za (Ya 3) (Za (Ya 4) Xa))))) (Zb 5))
 (Zc (XH (kB (Za (Wa ja (Za (Ya 1) (Za (tCD (.int 3)) Xa))) Xa)) (Zb 6) (jc (Wa qi (Za (Ya 1) (Za (Ya 5) (Za (Wa Wu (Za (Wa wS (Za (Ya 3) Xa)) Xa)) Xa)))) (Zb 5)))
 rest))))
theorem qbx{ns:List Int}{M:HpD}{rest:TSD}{DD:jn}(hl:ns.length<=63)
  (k:∀(b p:Addr) (ss:List Sho) (lg:Lgs) (lv:Lvs) (rows:List Row) (v6:Option D) (M':HpD),Hall b p M' ss lg lv->jay rows 2->rest DD [some (.lst (ns.map D.int)),some (.ref b),some (.lst (ss.map qf)),some (.ref p),some (Xz lv),some (.lst (rows.map Wj)),v6,none,none,none] M') :
  qaM rest DD [some (.lst (ns.map D.int)),none,none,none,none,none,none,none,none,none] M:=by
 unfold qaM
 walk_at "st"
 refine⟨hl,fun b M1 _ f1=>?_⟩
 obtain⟨o1,e1,b1⟩:=f1.1
 walk_at "st"
 refine⟨b,o1,rfl,e1,b1,fun ss lg lv p M2 H2 f2=>?_⟩
 obtain⟨o2,e2,b2⟩:=f2.bx
 walk_at "st"
 refine⟨b,p,o2,ss,lg,lv,rfl,e2,b2,H2,fun rows M3 rl rn f3=>?_⟩
 obtain⟨o3,e3,b3⟩:=f3.bx
 have H3:=H2.fx f3
 walk_at "st"
 refine⟨b,_,o3,rfl,by decide,by decide,e3,b3,fun j M4 j0 j3 f4=>?_⟩
 have H4:=H3.fx (Fx.of f4)
 walk_at "st"
 refine⟨by lia,by lia,fun i σ M'=>∃(rows:List Row) (v6:Option D),Hall b p M' ss lg lv/\(∃o,M' b=some o/\Ys o)/\jay rows i/\σ=[some (.lst (ns.map D.int)),some (.ref b),some (.lst (ss.map qf)),some (.ref p),some (Xz lv),some (.lst (rows.map Wj)),v6,none,none,none],⟨rows,_,H4,f4.1,⟨by lia,fun r hr=>by have:=rn r hr;lia⟩,rfl⟩,?_,?_⟩
 ·rintro i d σ M' e ⟨rows,v6,H,⟨o,eo,hb⟩,R,rfl⟩
  obtain⟨hi,rfl⟩:=wO e
  have ll:=H.ln
  have rl:=R.l
  walk_at "st"
  refine Xa5 (qH H.d) (by unfold Zi;rw[uA];lia) (Xg (qb (by unfold Zi;rw[uA,uA];lia)) ?_)
  have ek:((Zi lg).map fun kv=>wl kv.1)=(lg.map (·.1)).map D.str:=by unfold Zi;rw[uh,uh];rfl
  rw[ek]
  walk_at "st"
  refine YJ (enc:=D.str) (lt:=sLt) (as:=lg.map (·.1)) rfl (by rw[uA];lia) jv (.kS fun d hd=>by obtain⟨x,_,rfl⟩:=uS.mp hd;exact⟨x,rfl⟩) (fun _ _ _ _=>rfl) fun bs' hp' hs'=>Xg (qb (by rw[uA,hp'.length_eq,uA];lia)) ?_
  walk_at "st"
  refine⟨b,o,rows,bs',240+i,12+i,rfl,eo,hb,by rw[hp'.length_eq,uA];lia,rl,R.m,⟨fun rows' M2 h1 h2 f=>?_,by lia,by lia⟩⟩
  refine jj ?_
  exact⟨rows',_,H.fx f,f.bx,⟨by lia,fun r hr=>by have:=h2 r hr;lia⟩,rfl⟩
 ·rintro σ M' ⟨rows,v6,H,_,R,rfl⟩
  rw[Yu]at R
  have rl:=R.l
  exact k b p ss lg lv rows v6 M' H ⟨by lia,fun r hr=>by have:=R.m r hr;lia⟩
def YaW(rest:TSD):TSD:=(Zc (jc (Xm 3 (qj (Ya 5)) (jl 3 (qc (Zb 0) (qc (Zb 1) (qc (Zb 2) Xj)))) Xp (jf (Za (Ya 0) (Za (Ya 1) (Za (Wa qz (Za (Ya 2) Xa)) Xa))))) (Zb 7))
 (Zc (jc (jf (Za (Wa qz (Za (Ya 2) Xa)) (Za (Wa ZI (Za (Ya 3) Xa)) (Za (Wa YR (Za (Xm 2 (jF (Ya 4)) (jl 2 (qc (Zb 0) (qc (Zb 1) Xj))) Xp (jf (Za (Ya 0) (Za (Wa qz (Za (Ya 1) Xa)) Xa)))) Xa)) Xa)))) (Zb 8))
 rest))
theorem Zby{b p:Addr}{ss:List Sho}{lg:Lgs}{lv:Lvs}{rows:List Row}{d0:D}{v6:Option D}{M:HpD}{rest:TSD}{DD:jn}(H:Hall b p M ss lg lv)(R:jay rows 2)
  (k:∀(q r:Addr) (M':HpD),M' p=some (.dct (Zi lg))->M' q=some (.dct (Zi lg))->M' r=some (.dct (kg lv))->rest DD [some d0,some (.ref b),some (.lst (ss.map qf)),some (.ref p),some (Xz lv),some (.lst (rows.map Wj)),v6,some (.lst (rows.map Wj)),some (.tup [.lst (ss.map qf),.ref q,.ref r]),none] M') :
  YaW rest DD [some d0,some (.ref b),some (.lst (ss.map qf)),some (.ref p),some (Xz lv),some (.lst (rows.map Wj)),v6,none,none,none] M:=by
 have rl:=R.l
 have s8:=H.s.ln
 have vl:=H.v.ln
 unfold YaW
 walk_at "st"
 refine⟨qb (by rw[uA];lia),fun i ys σ M'=>∃v0 v1 v2:Option D,M=M'/\σ=[v0,v1,v2,some d0,some (.ref b),some (.lst (ss.map qf)),some (.ref p),some (Xz lv),some (.lst (rows.map Wj)),v6,none,none,none]/\ys=(rows.take i).map Wj,⟨_,_,_,rfl,rfl,rfl⟩,fun _ _ _ _ _=>rfl,?_,?_⟩
 ·rintro i y ys σ M' e ⟨v0,v1,v2,rfl,rfl,rfl⟩
  rw[uG]at e
  obtain⟨r,er,rfl⟩:=uV.mp e
  have hr:=R.m r (uF er)
  have tk:rows.take (i+1)=rows.take i++[r]:=by rw[ud,er];rfl
  unfold Wj
  walk_at "st"
  refine ZL rfl (Xg (qb (by rw[uA];lia)) ?_)
  walk_at "st"
  exact⟨_,_,_,rfl,rfl,by rw[tk,uN];rfl⟩
 rintro ys σ M' ⟨v0,v1,v2,rfl,rfl,rfl⟩
 rw[uA,ug]
 refine Xg (qb (by rw[uA];lia)) ?_
 walk_at "st"
 refine ZL rfl (Xg (qb (by rw[uA];lia)) ?_)
 walk_at "st"
 refine vab (qH H.d) fun q hq=>?_
 have hqp:p≠q:=fun z=>by rw[←z,H.d]at hq;cases hq
 walk_at "st"
 refine⟨_,_,rfl,?_⟩
 rw[Wa6]
 refine⟨qb (by rw[uA];lia),fun i ys σ M'=>∃v0 v1:Option D,wc M q (.dct (Zi lg))=M'/\σ=[v0,v1,some d0,some (.ref b),some (.lst (ss.map qf)),some (.ref p),some (Xz lv),some (.lst (rows.map Wj)),v6,some (.lst (rows.map Wj)),none,none]/\ys=(lv.take i).map kaQ,⟨_,_,rfl,rfl,rfl⟩,fun _ _ _ _ _=>True.intro,?_,?_⟩
 ·rintro i y ys σ M' e ⟨v0,v1,rfl,rfl,rfl⟩
  rw[uG]at e
  obtain⟨r,er,rfl⟩:=uV.mp e
  have hr:=H.v.sh r (uF er)
  have tk:lv.take (i+1)=lv.take i++[r]:=by rw[ud,er];rfl
  unfold kaQ
  walk_at "st"
  refine ZL rfl (Xg (qb (by rw[uA];lia)) ?_)
  walk_at "st"
  exact⟨_,_,rfl,rfl,by rw[tk,uN];rfl⟩
 rintro ys σ M' ⟨v0,v1,rfl,rfl,rfl⟩
 rw[uA,ug]
 refine Xg (qb (by rw[uA];lia)) ?_
 walk_at "st"
 refine wbc (kvs:=kg lv) (by unfold kg;rw[uh];rfl) (by unfold kg;rw[uA];lia) fun r hr=>?_
 rw[vaw (kg lv) [] (jaL lv H.v.nd),List.nil_append]
 have hrq:q≠r:=fun z=>by rw[←z,Xc]at hr;cases hr
 have hrp:p≠r:=fun z=>by rw[←z,Xb hqp,H.d]at hr;cases hr
 refine WZ ?_
 refine⟨qb (by show 3<=1000;decide),?_⟩
 refine jj ?_
 exact k q r _ (by rw[Xb hrp,Xb hqp];exact H.d) (by rw[Xb hrq,Xc]) Xc
theorem jbr(ds:List D)(M:HpD)(Q:KD)(h:Y5 ds M Q):XaT qu kr Xq ja qi vo jm {nx:=fun _ M'=>Q .non M',rt:=Q} (Zg ["_law_script","_law_box_here","_law_shows_here","_law_lights_here","_law_leaves_here","_law_rows","_law_turn","_law_handed","_law_lent","_law_found"] ds) M:=by
 obtain⟨ns,rfl,hl,rfl,h⟩:=h
 unfold XaT
 refine qbx hl fun b p ss lg lv rows v6 M1 H R=>?_
 refine Zby H R fun q r M2 hp hq hr=>?_
 have rl:=R.l
 have ll:=H.ln
 walk_at "st"
 refine⟨.lst (ss.map qf),.ref q,.ref r,.lst (rows.map Wj),ss,lg,lv,rows,rfl,⟨rfl,H.s,vC hq,H.t,qH hr,H.v.sh,rfl,by lia,fun x hx=>by have:=R.m x hx;lia,by lia⟩,fun c1 M3 hc1 mo3=>?_⟩
 walk_at "st"
 refine Ybm (t:="bool") rfl (by decide) ?_
 refine⟨true,by unfold ZQ;rfl,?_⟩
 rw[if_neg (by decide)]
 walk_at "st"
 refine ZZ vbj rfl rfl ?_
 walk_at "st"
 rw[decide_eq_true rfl,if_neg (by decide)]
 walk_at "st"
 refine waP rfl (fun i x y hx hy=>?_) ?_
 ·match i,hx,hy with
  | 0,hx,hy=>cases hx;cases hy;exact vaW ss
  | 1,hx,hy=>cases hx;cases hy;exact Wbc H.nd (qH (mo3 _ _ hq)) (qH (mo3 _ _ hp))
  | 2,hx,hy=>cases hx;cases hy;exact Wbb H.v.nd (qH (mo3 _ _ hr)) (j5 lv M3)
  | i+3,hx,hy=>simp at hx
 walk_at "st"
 refine⟨.ref p,Xz lv,.lst (rows.map Wj),ss,lg,lv,rows,rfl,⟨rfl,H.s,vC (mo3 _ _ hp),H.t,j5 lv M3,H.v.sh,rfl,by lia,fun x hx=>by have:=R.m x hx;lia,by lia⟩,H.nd,fun c2 M4 hc2 mo4=>?_⟩
 have e:c1=c2:=xj.mpr (hc1.trans hc2.symm)
 refine Zbj (.inl ?_)
 subst e
 rw[beq_self_eq_true]
 exact h _
theorem us0{P:List Value->Prop}(h:P [])(us:List Value)(hl:us.length=0):P us:=by
 cases us with
 | nil=>exact h
 | cons=>cases hl
theorem us1{P:List Value->Prop}(h:∀a0,P [a0])(us:List Value)(hl:us.length=1):P us:=by
 obtain⟨a0,e⟩:∃a0,us=[a0]:=by
  match us,hl with
  | [a0],_=>exact⟨_,rfl⟩
 subst e;exact h _
theorem us2{P:List Value->Prop}(h:∀a0 xa1,P [a0,xa1])(us:List Value)(hl:us.length=2):P us:=by
 obtain⟨a0,xa1,e⟩:∃a0 xa1,us=[a0,xa1]:=by
  match us,hl with
  | [a0,xa1],_=>exact⟨_,_,rfl⟩
 subst e;exact h _ _
theorem us3{P:List Value->Prop}(h:∀a0 xa1 xa2,P [a0,xa1,xa2])(us:List Value)(hl:us.length=3):P us:=by
 obtain⟨a0,xa1,xa2,e⟩:∃a0 xa1 xa2,us=[a0,xa1,xa2]:=by
  match us,hl with
  | [a0,xa1,xa2],_=>exact⟨_,_,_,rfl⟩
 subst e;exact h _ _ _
theorem us4{P:List Value->Prop}(h:∀a0 xa1 xa2 xa3,P [a0,xa1,xa2,xa3])(us:List Value)(hl:us.length=4):P us:=by
 obtain⟨a0,xa1,xa2,xa3,e⟩:∃a0 xa1 xa2 xa3,us=[a0,xa1,xa2,xa3]:=by
  match us,hl with
  | [a0,xa1,xa2,xa3],_=>exact⟨_,_,_,_,rfl⟩
 subst e;exact h _ _ _ _
local macro_rules | `(tactic| walk_at "c") => `(tactic| exact ⟨rfl, rfl, rfl, by decide +kernel, rfl, by decide +kernel, by decide +kernel⟩)
section
variable {X:Cx} {e e1 e2 e3 e4 e5:Expr} {t t1 t2 t3 t4 t5:TDE} {u1 u2 u3 u4 u5:TDG} {x:Str} {pos pos':Pos} {sp:SpD} {es:List Expr} {ta:TDA} {k k':Nat}
theorem xev(i:Nat)(h:X.N[i]?=some x:=by rfl)(h2:Vis X.env.scope x:=by first | exact .inl rfl | exact .inr (.inl rfl) | exact .inr (.inr rfl))(hd:(x==("__debug__":Str))=false:=by decide)(hc:(x==("__classdict__":Str))=false:=by decide):ED X (.Name x pos) (Ya i):=kbt i h h2 hd hc
theorem xgn(i:Nat)(hN:X.N.Nodup)(h:X.N[i]?=some x:=by rfl)(h2:Loc X.env.scope x:=by first | exact .inl rfl | exact .inr rfl)(hf:X.fn x=true\/X.env.scope.names.lookup x=some .local:=by first | exact .inl rfl | exact .inr rfl):GD X (.Name x pos) (Zb i):=Wbh i hN h h2 hf
theorem xst(i:Nat)(hN:X.N.Nodup)(he:ED X e t)(h:X.N[i]?=some x:=by rfl)(h2:Loc X.env.scope x:=by first | exact .inl rfl | exact .inr rfl)(hs:swapsWith e (some (.Name x pos')) pos.line X.env=pure false:=by rfl)(hf:X.fn x=true\/X.env.scope.names.lookup x=some .local:=by first | exact .inl rfl | exact .inr rfl):StD X (.Assign [.Name x pos'] e pos) (jc t (Zb i)):=qbv i hN h h2 he hs hf
theorem xcl(hc:Cal X.prog X.w X.K X.mg X.base x k sp)(hr:Room k' X.A)(ha:AD X (e::es) ta)(hk:k<=k':=by decide)(hg:Gl X x:=by rfl)(hdb:(x==("__debug__":Str))=false:=by decide)
 (he:starEach (e::es) X.env=(false,eval e X.env)::starEach es X.env:=by rfl) (hpl:(backTo pos (starEach es X.env)).any (·.1)=false:=by rfl):ED X (.Call (.Name x pos') (e::es) [] pos) (Wa sp ta):=kbj hc (hr.mono hk) hg ha hdb he hpl
theorem xcs{scope:Scope}{ts rest:List Str}(s:Stmt)(N:List Str)(h:k5 scope (vc s) N ts rest=true:=by decide +kernel)(hs:X.env.scope.names=(vc s).names:=by rfl)(hN:X.N=N:=by rfl):qm X scope ts rest:=kaf h hs hN
theorem xa1(h:ED X e t)(hs:starEach [e] X.env=[(false,eval e X.env)]:=by rfl):AD X [e] (Za t Xa):=vk h Xo hs
theorem xa2(h1:ED X e1 t1)(h2:ED X e2 t2)(xs1:starEach [e1,e2] X.env=(false,eval e1 X.env)::starEach [e2] X.env:=by rfl)(xs2:starEach [e2] X.env=(false,eval e2 X.env)::starEach [] X.env:=by rfl):AD X [e1,e2] (Za t1 (Za t2 Xa)):=(vk h1 (vk h2 Xo xs2) xs1)
theorem xa3(h1:ED X e1 t1)(h2:ED X e2 t2)(h3:ED X e3 t3)(xs1:starEach [e1,e2,e3] X.env=(false,eval e1 X.env)::starEach [e2,e3] X.env:=by rfl)(xs2:starEach [e2,e3] X.env=(false,eval e2 X.env)::starEach [e3] X.env:=by rfl)(xs3:starEach [e3] X.env=(false,eval e3 X.env)::starEach [] X.env:=by rfl):AD X [e1,e2,e3] (Za t1 (Za t2 (Za t3 Xa))):=(vk h1 (vk h2 (vk h3 Xo xs3) xs2) xs1)
theorem xa4(h1:ED X e1 t1)(h2:ED X e2 t2)(h3:ED X e3 t3)(h4:ED X e4 t4)(xs1:starEach [e1,e2,e3,e4] X.env=(false,eval e1 X.env)::starEach [e2,e3,e4] X.env:=by rfl)(xs2:starEach [e2,e3,e4] X.env=(false,eval e2 X.env)::starEach [e3,e4] X.env:=by rfl)(xs3:starEach [e3,e4] X.env=(false,eval e3 X.env)::starEach [e4] X.env:=by rfl)(xs4:starEach [e4] X.env=(false,eval e4 X.env)::starEach [] X.env:=by rfl):AD X [e1,e2,e3,e4] (Za t1 (Za t2 (Za t3 (Za t4 Xa)))):=(vk h1 (vk h2 (vk h3 (vk h4 Xo xs4) xs3) xs2) xs1)
theorem xa5(h1:ED X e1 t1)(h2:ED X e2 t2)(h3:ED X e3 t3)(h4:ED X e4 t4)(h5:ED X e5 t5)(xs1:starEach [e1,e2,e3,e4,e5] X.env=(false,eval e1 X.env)::starEach [e2,e3,e4,e5] X.env:=by rfl)(xs2:starEach [e2,e3,e4,e5] X.env=(false,eval e2 X.env)::starEach [e3,e4,e5] X.env:=by rfl)(xs3:starEach [e3,e4,e5] X.env=(false,eval e3 X.env)::starEach [e4,e5] X.env:=by rfl)(xs4:starEach [e4,e5] X.env=(false,eval e4 X.env)::starEach [e5] X.env:=by rfl)(xs5:starEach [e5] X.env=(false,eval e5 X.env)::starEach [] X.env:=by rfl):AD X [e1,e2,e3,e4,e5] (Za t1 (Za t2 (Za t3 (Za t4 (Za t5 Xa))))):=(vk h1 (vk h2 (vk h3 (vk h4 (vk h5 Xo xs5) xs4) xs3) xs2) xs1)
theorem xg2(h1:GD X e1 u1)(h2:GD X e2 u2)(xs1:(assignEach [e1,e2] X.env).map (·.2)=assign e1 X.env::(assignEach [e2] X.env).map (·.2):=by rfl)(xs2:(assignEach [e2] X.env).map (·.2)=assign e2 X.env::(assignEach [] X.env).map (·.2):=by rfl):GsD X [e1,e2] (qc u1 (qc u2 Xj)):=(Yp h1 (Yp h2 Wad xs2) xs1)
theorem xg3(h1:GD X e1 u1)(h2:GD X e2 u2)(h3:GD X e3 u3)(xs1:(assignEach [e1,e2,e3] X.env).map (·.2)=assign e1 X.env::(assignEach [e2,e3] X.env).map (·.2):=by rfl)(xs2:(assignEach [e2,e3] X.env).map (·.2)=assign e2 X.env::(assignEach [e3] X.env).map (·.2):=by rfl)(xs3:(assignEach [e3] X.env).map (·.2)=assign e3 X.env::(assignEach [] X.env).map (·.2):=by rfl):GsD X [e1,e2,e3] (qc u1 (qc u2 (qc u3 Xj))):=(Yp h1 (Yp h2 (Yp h3 Wad xs3) xs2) xs1)
theorem xg4(h1:GD X e1 u1)(h2:GD X e2 u2)(h3:GD X e3 u3)(h4:GD X e4 u4)(xs1:(assignEach [e1,e2,e3,e4] X.env).map (·.2)=assign e1 X.env::(assignEach [e2,e3,e4] X.env).map (·.2):=by rfl)(xs2:(assignEach [e2,e3,e4] X.env).map (·.2)=assign e2 X.env::(assignEach [e3,e4] X.env).map (·.2):=by rfl)(xs3:(assignEach [e3,e4] X.env).map (·.2)=assign e3 X.env::(assignEach [e4] X.env).map (·.2):=by rfl)(xs4:(assignEach [e4] X.env).map (·.2)=assign e4 X.env::(assignEach [] X.env).map (·.2):=by rfl):GsD X [e1,e2,e3,e4] (qc u1 (qc u2 (qc u3 (qc u4 Xj)))):=(Yp h1 (Yp h2 (Yp h3 (Yp h4 Wad xs4) xs3) xs2) xs1)
theorem xg5(h1:GD X e1 u1)(h2:GD X e2 u2)(h3:GD X e3 u3)(h4:GD X e4 u4)(h5:GD X e5 u5)(xs1:(assignEach [e1,e2,e3,e4,e5] X.env).map (·.2)=assign e1 X.env::(assignEach [e2,e3,e4,e5] X.env).map (·.2):=by rfl)(xs2:(assignEach [e2,e3,e4,e5] X.env).map (·.2)=assign e2 X.env::(assignEach [e3,e4,e5] X.env).map (·.2):=by rfl)(xs3:(assignEach [e3,e4,e5] X.env).map (·.2)=assign e3 X.env::(assignEach [e4,e5] X.env).map (·.2):=by rfl)(xs4:(assignEach [e4,e5] X.env).map (·.2)=assign e4 X.env::(assignEach [e5] X.env).map (·.2):=by rfl)(xs5:(assignEach [e5] X.env).map (·.2)=assign e5 X.env::(assignEach [] X.env).map (·.2):=by rfl):GsD X [e1,e2,e3,e4,e5] (qc u1 (qc u2 (qc u3 (qc u4 (qc u5 Xj))))):=(Yp h1 (Yp h2 (Yp h3 (Yp h4 (Yp h5 Wad xs5) xs4) xs3) xs2) xs1)
end
noncomputable abbrev xND(a b:List Str):=(a++b).Nodup
noncomputable abbrev Zq(i:Nat):Stmt:=PySem.Challenge.pw_vitrine_k18_dealings_judged.main.body.getD i (.Pass ⟨0,0,0,0⟩)
noncomputable abbrev xs0:=Zq 8
noncomputable abbrev xN0:List Str:=["_law_script","_law_seed","_law_cell"]
theorem xc0:Wf xN0 (xN0.take 1) (vc xs0):=by walk_at "c"
noncomputable abbrev xs1:=Zq 10
noncomputable abbrev xN1:List Str:=["_law_number","_law_turn","_law_one","_law_two"]
theorem xc1:Wf xN1 (xN1.take 2) (vc xs1):=by walk_at "c"
noncomputable abbrev xs2:=Zq 9
noncomputable abbrev xN2:List Str:=["_law_box_here","_law_size","_law_left","_law_cell"]
theorem xc2:Wf xN2 (xN2.take 2) (vc xs2):=by walk_at "c"
noncomputable abbrev xs3:=Zq 11
noncomputable abbrev xN3:List Str:=[]
theorem xc3:Wf xN3 (xN3.take 0) (vc xs3):=by walk_at "c"
noncomputable abbrev xs4:=Zq 12
noncomputable abbrev xN4:List Str:=["_law_box_here","_law_size"]
theorem xc4:Wf xN4 (xN4.take 1) (vc xs4):=by walk_at "c"
noncomputable abbrev xs5:=Zq 16
noncomputable abbrev xN5:List Str:=["_law_box_here","_law_size","_law_found","_law_k","_law_name"]
theorem xc5:Wf xN5 (xN5.take 2) (vc xs5):=by walk_at "c"
noncomputable abbrev xs6:=Zq 14
noncomputable abbrev xN6:List Str:=["_law_box_here","_law_turn"]
theorem xc6:Wf xN6 (xN6.take 1) (vc xs6):=by walk_at "c"
noncomputable abbrev xs7:=Zq 15
noncomputable abbrev xN7:List Str:=["_law_box_here","_law_few","_law_most"]
theorem xc7:Wf xN7 (xN7.take 3) (vc xs7):=by walk_at "c"
noncomputable abbrev xs8:=Zq 13
noncomputable abbrev xN8:List Str:=["_law_box_here","_law_some","_law_all_of","_law_found","_law_one"]
theorem xc8:Wf xN8 (xN8.take 3) (vc xs8):=by walk_at "c"
noncomputable abbrev xs9:=Zq 17
noncomputable abbrev xN9:List Str:=["_law_box_here","_law_names_here","_law_first","_law_found","_law_long","_law_name","_law_begin","_law_last","_law_size","_law_things"]
theorem xc9:Wf xN9 (xN9.take 2) (vc xs9):=by walk_at "c"
noncomputable abbrev waQ:=Zq 19
noncomputable abbrev xN10:List Str:=["_law_box_here","_law_names_here","_law_shows_here","_law_found","_law_firsts","_law_name","_law_rows","_law_k","_law_first","_law_last"]
theorem xc10:Wf xN10 (xN10.take 3) (vc waQ):=by walk_at "c"
noncomputable abbrev qba:=Zq 18
noncomputable abbrev xN11:List Str:=["_law_box_here","_law_names_here","_law_found","_law_name"]
theorem xc11:Wf xN11 (xN11.take 2) (vc qba):=by walk_at "c"
noncomputable abbrev wa7:=Zq 20
noncomputable abbrev xN12:List Str:=["_law_box_here","_law_names_here","_law_shows_here"]
theorem xc12:Wf xN12 (xN12.take 1) (vc wa7):=by walk_at "c"
noncomputable abbrev YaO:=Zq 22
noncomputable abbrev xN13:List Str:=["_law_shows_here","_law_found","_law_name","_law_first","_law_last","_law_size","_law_things"]
theorem xc13:Wf xN13 (xN13.take 1) (vc YaO):=by walk_at "c"
noncomputable abbrev kaU:=Zq 21
noncomputable abbrev xN14:List Str:=["_law_leaves_here","_law_name","_law_day_here"]
theorem vbE:Wf xN14 (xN14.take 3) (vc kaU):=by walk_at "c"
noncomputable abbrev jbb:=Zq 23
noncomputable abbrev xN15:List Str:=["_law_box_here","_law_shows_here","_law_lights_here","_law_leaves_here","_law_left","_law_rows","_law_had","_law_day_here","_law_show","_law_size","_law_things","_law_names_here","_law_name","_law_free"]
theorem xc15:Wf xN15 (xN15.take 4) (vc jbb):=by walk_at "c"
noncomputable abbrev ZaO:=Zq 25
noncomputable abbrev xN16:List Str:=["_law_box_here","_law_rows","_law_names_here","_law_day_here","_law_show","_law_held","_law_turn","_law_at","_law_name"]
theorem xc16:Wf xN16 (xN16.take 3) (vc ZaO):=by walk_at "c"
noncomputable abbrev jaT:=Zq 2
noncomputable abbrev xN17:List Str:=["shows"]
theorem YbB:Wf xN17 (xN17.take 1) (vc jaT):=by walk_at "c"
noncomputable abbrev kaS:=Zq 1
noncomputable abbrev xN18:List Str:=["leaves","thing","day"]
theorem XbE:Wf xN18 (xN18.take 3) (vc kaS):=by walk_at "c"
noncomputable abbrev Wal:=Zq 3
noncomputable abbrev xN19:List Str:=["shows","leaves"]
theorem wbz:Wf xN19 (xN19.take 2) (vc Wal):=by walk_at "c"
noncomputable abbrev waO:=Zq 4
noncomputable abbrev xN20:List Str:=["names","room","able"]
theorem YbA:Wf xN20 (xN20.take 3) (vc waO):=by walk_at "c"
noncomputable abbrev kba:=Zq 5
noncomputable abbrev xN21:List Str:=["rows","days","day","show","names","name"]
theorem xc21:Wf xN21 (xN21.take 1) (vc kba):=by walk_at "c"
noncomputable abbrev jai:=Zq 6
noncomputable abbrev xN22:List Str:=["shows","lights","leaves","rows","room","able"]
theorem xc22:Wf xN22 (xN22.take 4) (vc jai):=by walk_at "c"
noncomputable abbrev YaD:=Zq 24
noncomputable abbrev xN23:List Str:=["_law_shows_here","_law_lights_here","_law_leaves_here","_law_rows","_law_rooms_here","_law_room","_law_left","_law_had","_law_day_here","_law_show","_law_names_here","_law_name"]
theorem xc23:Wf xN23 (xN23.take 4) (vc YaD):=by walk_at "c"
noncomputable abbrev kX:=Zq 26
noncomputable abbrev xN24:List Str:=["_law_script","_law_box_here","_law_shows_here","_law_lights_here","_law_leaves_here","_law_rows","_law_turn","_law_handed","_law_lent","_law_found"]
theorem xc24:Wf xN24 (xN24.take 1) (vc kX):=by walk_at "c"
theorem Yby:xND ["_law_k"] xN4:=by decide +kernel
theorem kbp:xND ["_law_show"] xN10:=by decide +kernel
theorem Xbs:xND ["_law_day_here"] xN13:=by decide +kernel
theorem Xa1:xND ["_law_first","_law_last"] xN14:=by decide +kernel
theorem jaF:xND ["_law_day_here","_law_show","_law_held"] ["_law_box_here","_law_rows","_law_names_here","._law_day_here","._law_show","._law_held","_law_turn","_law_at","_law_name"]:=by decide +kernel
theorem wQ:xND ["name","first","last","size","things","day"] xN17:=by decide +kernel
theorem Ya2:xND ["first","last"] xN18:=by decide +kernel
theorem XT:xND ["name","first","last","size","things","day"] xN19:=by decide +kernel
theorem wbu:xND ["thing"] ["name","first","last","size","things","day","shows","leaves"]:=by decide +kernel
theorem qbt:xND ["name"] xN20:=by decide +kernel
theorem kaE:xND ["day","show","names"] xN22:=by decide +kernel
theorem jaD:xND ["day","show","names"] xN22:=by decide +kernel
theorem YaX:xND ["thing","days"] xN22:=by decide +kernel
theorem Zbp:xND ["_law_row"] xN23:=by decide +kernel
theorem vbr:xND ["_law_room"] ["_law_shows_here","_law_lights_here","_law_leaves_here","_law_rows","_law_rooms_here","._law_room","_law_left","_law_had","_law_day_here","_law_show","_law_names_here","_law_name"]:=by decide +kernel
theorem Waw:xND ["_law_day_here","_law_show","_law_names_here"] xN24:=by decide +kernel
theorem Ya0:xND ["_law_name","_law_days"] xN24:=by decide +kernel
theorem ZX:k5 ({kind:=.function,names:=[((".0":Str),NameKind.«local»),(("thing":Str),NameKind.«local»),(("on_leave":Str),NameKind.globalImplicit),(("day":Str),NameKind.free),(("leaves":Str),NameKind.free)],isGenerator:=false,isCoroutine:=false,more:=[]}:Scope) (waB ({kind:=.function,names:=[((".0":Str),NameKind.«local»),(("name":Str),NameKind.«local»),(("first":Str),NameKind.«local»),(("last":Str),NameKind.«local»),(("size":Str),NameKind.«local»),(("things":Str),NameKind.«local»),(("day":Str),NameKind.cell),(("range":Str),NameKind.globalImplicit),(("leaves":Str),NameKind.free)],isGenerator:=false,isCoroutine:=false,more:=[]}:Scope) (vc Wal)) ["name","first","last","size","things","day","shows","leaves"] ["thing"] ["name","first","last","size","things","day","shows","leaves"]=true:=by decide +kernel
theorem kav:bootBuiltins "all"=some (.builtin "all"):=by decide +kernel
theorem Za0:bootBuiltins "any"=some (.builtin "any"):=by decide +kernel
theorem Ybi:bootBuiltins "bool"=some (.type "bool"):=by decide +kernel
theorem Z6:bootBuiltins "dict"=some (.type "dict"):=by decide +kernel
theorem Za3:bootBuiltins "int"=some (.type "int"):=by decide +kernel
theorem kas:bootBuiltins "isinstance"=some (.builtin "isinstance"):=by decide +kernel
theorem wm:bootBuiltins "len"=some (.builtin "len"):=by decide +kernel
theorem qF:bootBuiltins "list"=some (.type "list"):=by decide +kernel
theorem Wbt:bootBuiltins "max"=some (.builtin "max"):=by decide +kernel
theorem jbu:bootBuiltins "min"=some (.builtin "min"):=by decide +kernel
theorem XI:bootBuiltins "sorted"=some (.builtin "sorted"):=by decide +kernel
theorem Za9:bootBuiltins "tuple"=some (.type "tuple"):=by decide +kernel
structure xBi(mg:Str->Option Value):Prop where
 all:mg "all"=none
 any:mg "any"=none
 bool:mg "bool"=none
 dict:mg "dict"=none
 int:mg "int"=none
 isinstance:mg "isinstance"=none
 len:mg "len"=none
 list:mg "list"=none
 max:mg "max"=none
 min:mg "min"=none
 range:mg "range"=none
 set:mg "set"=none
 sorted:mg "sorted"=none
 tuple:mg "tuple"=none
 zip:mg "zip"=none
structure xZi(K:uD):Prop where
 all:xA K mainGlobals "all"=some none
 any:xA K mainGlobals "any"=some none
 bool:xA K mainGlobals "bool"=some none
 dict:xA K mainGlobals "dict"=some none
 int:xA K mainGlobals "int"=some none
 isinstance:xA K mainGlobals "isinstance"=some none
 len:xA K mainGlobals "len"=some none
 list:xA K mainGlobals "list"=some none
 max:xA K mainGlobals "max"=some none
 min:xA K mainGlobals "min"=some none
 range:xA K mainGlobals "range"=some none
 set:xA K mainGlobals "set"=some none
 sorted:xA K mainGlobals "sorted"=some none
 tuple:xA K mainGlobals "tuple"=some none
 zip:xA K mainGlobals "zip"=some none
structure xDf(K:uD)(x:Str)(xst:Stmt)(f:Addr):Prop where
 ns:xA K mainGlobals x=some (some (.ref f))
 ex:∃(oc kV dc pm cd ct:Value) (od an:Option Addr) (sl:Array (Option Value)),K.lookup f=some ⟨oc,od,.func (xU x x (ky xst) (Zp xst) (vc xst) .none kV dc pm an cd ct),sl⟩/\yQ K cd x=true
 kp:yD K (.ref f)=true
section
variable {P:Program} {w:World} {K:uD} {mg:Str->Option Value} {base h:Heap} {x:Str} {xst:Stmt} {f:Addr}
theorem xDf.mk0{oc kV dc pm cd ct:Value}{od an:Option Addr}{sl:Array (Option Value)}(a:xA K mainGlobals x=some (some (.ref f)))(l:K.lookup f=some ⟨oc,od,.func (xU x x (ky xst) (Zp xst) (vc xst) .none kV dc pm an cd ct),sl⟩)(c:yQ K cd x=true)(k:yD K (.ref f)=true):xDf K x xst f:=
 ⟨a,⟨oc,kV,dc,pm,cd,ct,od,an,sl,l,c⟩,k⟩
theorem xDf.cal{N ps:List Str}{k:Nat}{sp:SpD}{t:TSD}(D:xDf K x xst f)(X:K.In h)(G:h.Ns mainGlobals mg)(S:Wf N ps (vc xst))(len:∀ds M Q,sp ds M Q->ds.length=ps.length)
  (hread:∀ds M Q,sp ds M Q->t {nx:=fun _ M'=>Q .non M',rt:=Q} (Zg N ds) M)
  (hb:∀(kV doc pm:Value) (an:Option Addr) (cdv ct:Value) (us:List Value),us.length=ps.length->bindArgs (xU x x (ky xst) (Zp xst) (vc xst) .none kV doc pm an cdv ct) ⟨us,[]⟩=pure (ps.zip us))
  (hterm:∀(cdv:Value) (A:Around) (outer:List Env) (s:Shared) (H:Hp) (E:XK),Room k (A.deeper (envOfC x (vc xst) s.heap.objs.size f cdv))->SsD (qV CX0 P w K mg base N x (vc xst) f cdv A outer s H E).nox (Zp xst) t):Cal P w K mg base x (k+1) sp:=by
 obtain⟨a,⟨oc,kV,dc,pm,cd,ct,od,an,sl,l,c⟩,kp⟩:=D
 have F:=Ya4 l c kp
 exact F.cal (F.okD S len hterm hread) (PySem.W.mg_of X G a) (F.binds hb)
end
section
variable (P:Program) (w:World) (K:uD) (mg:Str->Option Value) (base:Heap)
noncomputable abbrev waT:=Cal P w K mg base "_law_box" 1 qu
noncomputable abbrev kaR:=Cal P w K mg base "_law_mixed" 1 Xt
noncomputable abbrev ZB:=Cal P w K mg base "_law_take" 2 ja
noncomputable abbrev XaS:=Cal P w K mg base "_law_letters" 1 jt
noncomputable abbrev vaU:=Cal P w K mg base "_law_named" 3 wx
noncomputable abbrev qau:=Cal P w K mg base "_law_names" 4 Wn
noncomputable abbrev YaT:=Cal P w K mg base "_law_day" 3 wB
noncomputable abbrev qaQ:=Cal P w K mg base "_law_count" 3 Yy
noncomputable abbrev qat:=Cal P w K mg base "_law_deal" 3 Zk
noncomputable abbrev vaO:=Cal P w K mg base "_law_shows" 5 Zy
noncomputable abbrev XaC:=Cal P w K mg base "_law_leaves" 3 Wv
noncomputable abbrev ZaD:=Cal P w K mg base "_law_lights" 3 Yw
noncomputable abbrev kaB:=Cal P w K mg base "_law_hall" 6 kr
noncomputable abbrev vad:=Cal P w K mg base "_law_rooms" 1 Xn
noncomputable abbrev kac:=Cal P w K mg base "_law_away" 1 Xl
noncomputable abbrev Zax:=Cal P w K mg base "_law_dealt" 4 Xq
noncomputable abbrev ZaB:=Cal P w K mg base "_law_bent_dealing" 3 qi
noncomputable abbrev Xaw:=Cal P w K mg base "room_by_spot" 1 qt
noncomputable abbrev jaB:=Cal P w K mg base "on_leave" 1 Zz
noncomputable abbrev jaG:=Cal P w K mg base "able_by_spot" 2 Zu
noncomputable abbrev XaD:=Cal P w K mg base "rightly_named" 1 Zs
noncomputable abbrev vaB:=Cal P w K mg base "shown_days" 1 Wy
noncomputable abbrev ZaE:=Cal P w K mg base "good_dealing" 3 vo
noncomputable abbrev vaC:=Cal P w K mg base "_law_is_dealing" 2 jm
end
section
variable {P:Program} {w:World} {K:uD} {mg:Str->Option Value} {base h:Heap} {f:Addr} (X:K.In h) (G:h.Ns mainGlobals mg) (g:xBi mg)
include X G g
theorem xk0(D:xDf K "_law_box" xs0 f) :waT P w K mg base:=D.cal X G xc0 (fun _ _ _ h=>by obtain⟨_,rfl,_⟩:=h;rfl) kaH (fun _ _ _ _ _ _=>us1 fun _=>rfl) fun cdv A outer s H E hr=>(jb (xst 1 xc0.nd Yb)
 (jb (kad (Ybl (j8 (xev 0) kaa (qaa Yb))) (xgn 2 xc0.nd) (kc (xst 1 xc0.nd (Wd qD (Wd ji (Wd ji (Wd YN (xev 1) Yb) (xev 2)) Yb) Yb))))
 (kc (ve (Yj (xa5 (jk YL rfl g.list qF (xa1 (j8 (xev 0) kaa (qaa Yb)))) Yb Yb Yb (xev 1)))))))
theorem xk1(D:xDf K "_law_mixed" xs1 f) :kaR P w K mg base:=D.cal X G xc1 (fun _ _ _ h=>by obtain⟨_,_,rfl,_⟩:=h;rfl) Xas (fun _ _ _ _ _ _=>us2 fun _ _=>rfl) fun cdv A outer s H E hr=>(jb (xst 2 xc1.nd (Wd qD (Wd ji (Wd ji (Wd YN (xev 0) Yb) (Wd YN (xev 1) Yb)) Yb) Yb))
 (jb (xst 3 xc1.nd (Wd qD (Wd ji (Wd ji (Wd YN (xev 2) (Wd ji (Wd qD (xev 2) Yb) Yb)) (Wd YN (xev 1) Yb)) (Wd qD (xev 0) Yb)) Yb))
 (kc (ve (Wd Zaj (xev 3) Yb)))))
theorem xk2(D:xDf K "_law_take" xs2 f)(h1:kaR P w K mg base):ZB P w K mg base:=D.cal X G xc2 (fun _ _ _ h=>by obtain⟨_,_,_,rfl,_⟩:=h;rfl) qaF (fun _ _ _ _ _ _=>us2 fun _ _=>rfl) fun cdv A outer s H E hr=>(jb (WE (Wd ji (Yi (xev 0) Yb) Yb) (ZM (xev 0) Yb))
 (jb (Zj (kf WP (Yi (xev 0) Yb) Yb) (jb (xst 2 xc2.nd (Yi (xev 0) Yb))
 (jb (WE (Wd Zaj (xev 2) (xev 1)) (ZM (xev 0) Yb))
 (kc (ve (Wd qD (xev 2) (xev 1)))))) Wh)
 (jb (Zj (kf wbv (Yi (xev 0) Yb) (je Yn rfl g.len wm (xa1 (Yi (xev 0) Yb)))) (kc (ve (Wd qD (xcl h1 hr (xa2 (Yi (xev 0) Yb) (Yi (xev 0) Yb))) (xev 1)))) Wh)
 (jb (xst 3 xc2.nd (Yi (Yi (xev 0) Yb) (Yi (xev 0) Yb)))
 (jb (WE (Wd ji (Yi (xev 0) Yb) Yb) (ZM (xev 0) Yb))
 (jb (Zj (kf jat (xev 3) (Wd XZ Yb Yb)) (kc (ve (Wd qD (xcl h1 hr (xa2 (xev 3) (Yi (xev 0) Yb))) (xev 1)))) Wh)
 (jb (WE (Wd Zaj (xev 3) (xev 1)) (ZM (xev 0) Yb))
 (kc (ve (Wd qD (xev 3) (xev 1)))))))))))
theorem xk3(D:xDf K "_law_letters" xs3 f) :XaS P w K mg base:=D.cal X G xc3 (fun _ _ _ h=>by obtain⟨rfl,_⟩:=h;rfl) Waf (fun _ _ _ _ _ _=>us0 rfl) fun cdv A outer s H E hr=>(kc (ve kR))
theorem xk4(D:xDf K "_law_named" xs4 f)(h2:ZB P w K mg base)(h3:XaS P w K mg base):vaU P w K mg base:=D.cal X G xc4 (fun _ _ _ h=>by obtain⟨_,_,rfl,_⟩:=h;rfl) vas (fun _ _ _ _ _ _=>us1 fun _=>rfl) fun cdv A outer s H E hr=>(jb (xst 1 xc4.nd (Wd ji Yb (xcl h2 hr (xa2 (xev 0) Yb))))
 (kc (ve (wbi kR (Waj (ts:=["_law_k"]) (rest:=xN4) (xcs xs4 xN4) (W4 rfl g.range (xa1 (xev 1))) (fun _ _ _=>(xgn 0 Yby)) (fun _ _ _=>Wt) (fun _ _ _=>(Zbr (Wa7 h3 (hr.mono (by decide)) rfl ) (xcl h2 hr (xa2 (xev 1) Yb)))))))))
theorem xk5(D:xDf K "_law_names" xs5 f)(h4:vaU P w K mg base):qau P w K mg base:=D.cal X G xc5 (fun _ _ _ h=>by obtain⟨_,_,_,rfl,_⟩:=h;rfl) qas (fun _ _ _ _ _ _=>us2 fun _ _=>rfl) fun cdv A outer s H E hr=>(jb (xst 2 xc5.nd (Yj Xo))
 (jb (kad (W4 rfl g.range (xa1 (xev 1))) (xgn 3 xc5.nd) (jb (xst 4 xc5.nd (xcl h4 hr (xa1 (xev 0))))
 (kc (Zj (kf waa (xev 4) (xev 2)) (kc (Xr (jQ (xev 2) (xev 4)))) Wh))))
 (kc (ve (xev 2)))))
theorem xk6(D:xDf K "_law_day" xs6 f)(h2:ZB P w K mg base):YaT P w K mg base:=D.cal X G xc6 (fun _ _ _ h=>by obtain⟨_,_,rfl,_⟩:=h;rfl) waH (fun _ _ _ _ _ _=>us1 fun _=>rfl) fun cdv A outer s H E hr=>(jb (xst 1 xc6.nd (xcl h2 hr (xa2 (xev 0) Yb)))
 (jb (Zj (kf (Xk hr) (xev 1) Yb) (kc (ve Yb)) Wh)
 (jb (Zj (kf (Xk hr) (xev 1) Yb) (kc (ve (Wd WY (Wd WY (Wd XZ Yb Yb) Yb) (xcl h2 hr (xa2 (xev 0) Yb))))) Wh)
 (jb (Zj (kf (Xk hr) (xev 1) Yb) (kc (ve (Wd YN (xcl h2 hr (xa2 (xev 0) Yb)) Yb))) Wh)
 (kc (ve (xcl h2 hr (xa2 (xev 0) Yb))))))))
theorem xk7(D:xDf K "_law_count" xs7 f)(h2:ZB P w K mg base):qaQ P w K mg base:=D.cal X G xc7 (fun _ _ _ h=>by obtain⟨_,_,_,_,rfl,_⟩:=h;rfl) Zat (fun _ _ _ _ _ _=>us3 fun _ _ _=>rfl) fun cdv A outer s H E hr=>(jb (Zj (kf (Xk hr) (xcl h2 hr (xa2 (xev 0) Yb)) Yb) (kc (ve (xcl h2 hr (xa2 (xev 0) (Wd ji (xev 2) Yb))))) Wh)
 (kc (ve (xcl h2 hr (xa2 (xev 0) (Wd ji (xev 1) Yb))))))
theorem xk8(D:xDf K "_law_deal" xs8 f)(h2:ZB P w K mg base):qat P w K mg base:=D.cal X G xc8 (fun _ _ _ h=>by obtain⟨_,_,_,_,_,rfl,_⟩:=h;rfl) kax (fun _ _ _ _ _ _=>us3 fun _ _ _=>rfl) fun cdv A outer s H E hr=>(jb (xst 3 xc8.nd (Yj Xo))
 (jb (Zw (Yh (xev 1)) (xgn 4 xc8.nd) (kc (Zj (XQ (vJ (vN (xev 2)) (qM (kf WP (xcl h2 hr (xa2 (xev 0) Yb)) Yb)))) (kc (Xr (YaC (xev 3) (xcl h2 hr (xa2 (xev 0) (Wd ji (je Yn rfl g.len wm (xa1 (xev 3))) Yb))) (xev 4)))) Wh)))
 (kc (ve (xev 3)))))
theorem xk9(D:xDf K "_law_shows" xs9 f)(h6:YaT P w K mg base)(h2:ZB P w K mg base)(h5:qau P w K mg base)(h7:qaQ P w K mg base)(h8:qat P w K mg base):vaO P w K mg base:=D.cal X G xc9 (fun _ _ _ h=>by obtain⟨_,_,_,rfl,_⟩:=h;rfl) Wat (fun _ _ _ _ _ _=>us2 fun _ _=>rfl) fun cdv A outer s H E hr=>(jb (xst 2 xc9.nd (xcl h6 hr (xa1 (xev 0))))
 (jb (xst 3 xc9.nd (Yj Xo))
 (jb (xst 4 xc9.nd (xcl h2 hr (xa2 (xev 0) Yb)))
 (jb (Zw (Yh (xcl h5 hr (xa2 (xev 0) (xcl h7 hr (xa3 (xev 0) Yb Yb))))) (xgn 5 xc9.nd) (jb (xst 6 xc9.nd (Wd ji (xev 2) (xcl h2 hr (xa2 (xev 0) Yb))))
 (jb (xst 7 xc9.nd (Wd ji (xev 6) (Yi (Yj (xa3 Yb (xcl h2 hr (xa2 (xev 0) Yb)) (xcl h2 hr (xa2 (xev 0) Yb)))) (xcl h2 hr (xa2 (xev 0) Yb)))))
 (jb (Zj (kf (Xk hr) (je Yn rfl g.len wm (xa1 (xev 3))) (xev 4)) (kc (xst 7 xc9.nd (Wd ji (xev 6) (xcl h2 hr (xa2 (xev 0) (Yi (Yj (xa2 Yb Yb)) (jk YaM rfl g.int Za3 (xa1 (Xw WP (je Yn rfl g.len wm (xa1 (xev 1))) Yb))))))))) Wh)
 (jb (xst 8 xc9.nd (Wd ji Yb (Yi (Yj (xa3 (xcl h2 hr (xa2 (xev 0) Yb)) (xcl h2 hr (xa2 (xev 0) Yb)) (xcl h2 hr (xa2 (xev 0) Yb)))) (xcl h2 hr (xa2 (xev 0) Yb)))))
 (jb (xst 9 xc9.nd (xcl h8 hr (xa3 (xev 0) (xev 1) (Xw (Xk hr) (xcl h2 hr (xa2 (xev 0) Yb)) Yb))))
 (kc (Xr (jQ (xev 3) (Xi (xa5 (xev 5) (xev 6) (xev 7) (xev 8) (jk jbj rfl g.tuple Za9 (xa1 (xev 9))))))))))))))
 (kc (ve (xcl h8 hr (xa3 (xev 0) (xev 3) qC))))))))
theorem vbB(D:xDf K "_law_leaves" waQ f)(h2:ZB P w K mg base):XaC P w K mg base:=D.cal X G xc10 (fun _ _ _ h=>by obtain⟨_,_,_,_,rfl,_⟩:=h;rfl) waj (fun _ _ _ _ _ _=>us3 fun _ _ _=>rfl) fun cdv A outer s H E hr=>(jb (xst 3 xc10.nd wai)
 (jb (xst 4 xc10.nd (Wd qac (ku (ts:=["_law_show"]) (rest:=xN10) (xcs waQ xN10) (Yh (xev 2)) (fun _ _ _=>(xgn 0 kbp)) (fun _ _ _=>Wt) (fun _ _ _=>(Yi (xev 0) Yb))) (Yj (xa1 Yb))))
 (jb (Zw (Yh (xev 1)) (xgn 5 xc10.nd) (jb (xst 6 xc10.nd (Yj Xo))
 (jb (kad (W4 rfl g.range (xa1 (Wd YN (xcl h2 hr (xa2 (xev 0) Yb)) (jk YaM rfl g.int Za3 (xa1 (Xw (Xk hr) (xcl h2 hr (xa2 (xev 0) Yb)) Yb)))))) (xgn 7 xc10.nd) (jb (xst 8 xc10.nd (je Wbf rfl g.max Wbt (xa2 Yb (Wd WY (Wd ji (Yi (xev 4) (xcl h2 hr (xa2 (xev 0) (je Yn rfl g.len wm (xa1 (xev 4)))))) (xcl h2 hr (xa2 (xev 0) Yb))) Yb))))
 (jb (xst 9 xc10.nd (Wd ji (xev 8) (Yi (Yj (xa4 Yb Yb (xcl h2 hr (xa2 (xev 0) Yb)) (Wd XZ Yb Yb))) (xcl h2 hr (xa2 (xev 0) Yb)))))
 (kc (Xr (jQ (xev 6) (Xi (xa2 (xev 8) (je kbf rfl g.min jbu (xa2 (Wd XZ Yb Yb) (xev 9)))))))))))
 (kc (Zj (XQ (vJ (kf WP (je Yn rfl g.len wm (xa1 (xev 6))) Yb) (qM (kf (Xk hr) (xcl h2 hr (xa2 (xev 0) Yb)) Yb)))) (kc (XR hr (xev 3) (xev 5) (jbk (xev 6)))) Wh)))))
 (jb (Zj (XQ (qaf (kf waa kR (xev 1)) (Zal (kf (Xk hr) (xcl h2 hr (xa2 (xev 0) Yb)) Yb)))) (kc (XR hr (xev 3) kR (Yj (xa1 (Xi (xa2 Yb (Wd XZ Yb Yb))))))) Wh)
 (kc (ve (ZaN (xev 3))))))))
theorem kbD(D:xDf K "_law_lights" qba f)(h2:ZB P w K mg base):ZaD P w K mg base:=D.cal X G xc11 (fun _ _ _ h=>by obtain⟨_,_,_,rfl,_⟩:=h;rfl) qal (fun _ _ _ _ _ _=>us2 fun _ _=>rfl) fun cdv A outer s H E hr=>(jb (xst 2 xc11.nd wai)
 (jb (Zw (Yh (xev 1)) (xgn 3 xc11.nd) (kc (XR hr (xev 2) (xev 3) (Yi (Yj (xa4 (xcl h2 hr (xa2 (xev 0) Yb)) (xcl h2 hr (xa2 (xev 0) Yb)) (xcl h2 hr (xa2 (xev 0) Yb)) Yb)) (xcl h2 hr (xa2 (xev 0) Yb))))))
 (kc (ve (xev 2)))))
theorem vbD(D:xDf K "_law_hall" wa7 f)(h5:qau P w K mg base)(h2:ZB P w K mg base)(h9:vaO P w K mg base)(h10:XaC P w K mg base)(h11:ZaD P w K mg base):kaB P w K mg base:=D.cal X G xc12 (fun _ _ _ h=>by obtain⟨_,_,rfl,_⟩:=h;rfl) waA (fun _ _ _ _ _ _=>us1 fun _=>rfl) fun cdv A outer s H E hr=>(jb (xst 1 xc12.nd (xcl h5 hr (xa2 (xev 0) (Yi (Yj (vk Yb (vk Yb (vk Yb (xa5 Yb Yb Yb Yb Yb))))) (xcl h2 hr (xa2 (xev 0) Yb))))))
 (jb (xst 2 xc12.nd (xcl h9 hr (xa2 (xev 0) (xev 1))))
 (kc (ve (Xi (xa3 (xev 2) (xcl h11 hr (xa2 (xev 0) (xev 1))) (xcl h10 hr (xa3 (xev 0) (xev 1) (xev 2)))))))))
theorem jbB(D:xDf K "_law_rooms" YaO f) :vad P w K mg base:=D.cal X G xc13 (fun _ _ _ h=>by obtain⟨_,rfl,_⟩:=h;rfl) jas (fun _ _ _ _ _ _=>us1 fun _=>rfl) fun cdv A outer s H E hr=>(jb (xst 1 xc13.nd (Yj Xo))
 (jb (Zw (Yh (xev 0)) (qo (xg5 (xgn 2 xc13.nd) (xgn 3 xc13.nd) (xgn 4 xc13.nd) (xgn 5 xc13.nd) (xgn 6 xc13.nd))) (kc (Xr (vbo (xev 1) (Waj (ts:=["_law_day_here"]) (rest:=xN13) (xcs YaO xN13) (wbg rfl g.range (xa2 (xev 3) (Wd ji (xev 4) Yb))) (fun _ _ _=>(xgn 0 Xbs)) (fun _ _ _=>Wt) (fun _ _ _=>(Xi (xa4 (xev 0) (xev 3) (xev 6) (xev 7)))))))))
 (kc (ve (je (kJ hr) rfl g.sorted XI (xa1 (xev 1)))))))
theorem WbC(D:xDf K "_law_away" kaU f) :kac P w K mg base:=D.cal X G vbE (fun _ _ _ h=>by obtain⟨_,_,_,_,rfl,_⟩:=h;rfl) YaA (fun _ _ _ _ _ _=>us3 fun _ _ _=>rfl) fun cdv A outer s H E hr=>(kc (ve (je qaY rfl g.any Za0 (xa1 (ku (ts:=["_law_first","_law_last"]) (rest:=xN14) (xcs kaU xN14) (Yh (vap hr (xev 0) (xev 1) (Yj Xo))) (fun _ _ _=>(qo (xg2 (xgn 0 Xa1) (xgn 1 Xa1)))) (fun _ _ _=>Wt) (fun _ _ _=>(WS (Xw X4 (xev 0) (xev 4)) (jac (Xw X4 (xev 4) (xev 1))))))))))
theorem WbD(D:xDf K "_law_dealt" jbb f)(h13:vad P w K mg base)(h8:qat P w K mg base)(h14:kac P w K mg base)(h2:ZB P w K mg base):Zax P w K mg base:=D.cal X G xc15 (fun _ _ _ h=>by obtain⟨_,_,_,_,_,_,rfl,_⟩:=h;rfl) Yas (fun _ _ _ _ _ _=>us4 fun _ _ _ _=>rfl) fun cdv A outer s H E hr=>(jb (xst 4 xc15.nd (jk Waa rfl g.dict Z6 (xa1 (xev 2))))
 (jb (xst 5 xc15.nd (Yj Xo))
 (jb (xst 6 xc15.nd Yax)
 (jb (Zw (Yh (xcl h13 hr (xa1 (xev 1)))) (qo (xg4 (xgn 7 xc15.nd) (xgn 8 xc15.nd) (xgn 9 xc15.nd) (xgn 10 xc15.nd))) (jb (xst 11 xc15.nd (Yj Xo))
 (jb (Zw (Yh (xcl h8 hr (xa3 (xev 0) (jk YL rfl g.list qF (xa1 (xev 10))) qC))) (xgn 12 xc15.nd) (jb (xst 13 xc15.nd (WS (Xw WP (wR hr (xev 4) (xev 12)) Yb) (WS (vaS hr (Xi (xa2 (xev 12) (xev 7))) (xev 6)) (jac (Xw jat (je Yn rfl g.len wm (xa1 (xev 11))) (xev 9))))))
 (kc (Zj (XQ (qaf (vN (xev 13)) (qaf (Xad (vN (xcl h14 hr (xa3 (xev 3) (xev 12) (xev 7))))) (Zal (kf WP (xcl h2 hr (xa2 (xev 0) Yb)) Yb))))) (jb (Xr (jQ (xev 11) (xev 12)))
 (jb (XR hr (xev 4) (xev 12) (Wd WY (wR hr (xev 4) (xev 12)) Yb))
 (kc (Zay hr (xev 6) (Xi (xa2 (xev 12) (xev 7))) qC)))) Wh))))
 (kc (Xr (jQ (xev 5) (Xi (xa3 (xev 7) (xev 8) (je (kJ hr) rfl g.sorted XI (xa1 (xev 11)))))))))))
 (kc (ve (xev 5)))))))
theorem qbD(D:xDf K "_law_bent_dealing" ZaO f)(h2:ZB P w K mg base):ZaB P w K mg base:=D.cal X G xc16 (fun _ _ _ h=>by obtain⟨_,_,_,_,_,_,rfl,_⟩:=h;rfl) WU (fun _ _ _ _ _ _=>us3 fun _ _ _=>rfl) fun cdv A outer s H E hr=>(jb (WaB 1 (ts:=["_law_day_here","_law_show","_law_held"]) (rest:=["_law_box_here","_law_rows","_law_names_here","._law_day_here","._law_show","._law_held","_law_turn","_law_at","_law_name"]) (xcs ZaO xN16) (Yh (xev 1)) (fun _ _ _=>(qo (xg3 (xgn 0 jaF) (xgn 1 jaF) (xgn 2 jaF)))) (fun _ _ _=>Wt) (fun _ _ _=>(Xi (xa3 (xev 0) (xev 1) (jk YL rfl g.list qF (xa1 (xev 2)))))) xc16.nd rfl (Or.inl rfl))
 (jb (xst 6 xc16.nd (xcl h2 hr (xa2 (xev 0) Yb)))
 (jb (Zj (XQ (vJ (kf (Xk hr) (je Yn rfl g.len wm (xa1 (xev 1))) Yb) (qM (kf (Xk hr) (xev 6) Yb)))) (kc (ve (vay (Wd qac (xev 1) (j8 (Yj (xa1 (Xi (xa3 Yb kR (Yj Xo))))) kaa (qaa (xev 6))))))) Wh)
 (jb (xst 7 xc16.nd (xcl h2 hr (xa2 (xev 0) (je Yn rfl g.len wm (xa1 (xev 1))))))
 (jb (WE (Yi (xev 1) (xev 7)) (qo (xg3 (xgn 3 xc16.nd) (xgn 4 xc16.nd) (xgn 5 xc16.nd))))
 (jb (xst 8 xc16.nd (Yi (Wd qac (xev 2) (Yj (xa1 kR))) (xcl h2 hr (xa2 (xev 0) (Wd ji (je Yn rfl g.len wm (xa1 (xev 2))) Yb)))))
 (jb (Zj (kf (Xk hr) (xev 6) Yb) (kc (Xr (YaC (xev 5) (xcl h2 hr (xa2 (xev 0) (Wd ji (je Yn rfl g.len wm (xa1 (xev 5))) Yb))) (xev 8)))) Wh)
 (jb (Zj (kf (Xk hr) (xev 6) Yb) (kc (WE (Xi (xa3 (xev 3) (xev 4) (j6 hr jv rfl g.sorted rfl g.set (Wd qac (xev 5) (Yj (xa1 (xev 8))))))) (ZM (xev 1) (xev 7)))) Wh)
 (jb (Zj (XQ (qaf (kf (Xk hr) (xev 6) Yb) (Zal (kf WP (je Yn rfl g.len wm (xa1 (xev 5))) Yb)))) (kc (Xr (ZaX (xev 5) (xcl h2 hr (xa2 (xev 0) (je Yn rfl g.len wm (xa1 (xev 5)))))))) Wh)
 (jb (Zj (kf (Xk hr) (xev 6) Yb) (kc (Xr (vbs (xev 5)))) Wh)
 (jb (Zj (kf (Xk hr) (xev 6) Yb) (kc (Xr (ZaX (xev 1) (xev 7)))) Wh)
 (jb (Zj (kf (Xk hr) (xev 6) Yb) (kc (Xr (YaC (xev 1) (xev 7) (Xi (xa3 (xev 3) (xev 4) (Yj Xo)))))) Wh)
 (jb (Zj (kf (Xk hr) (xev 6) Yb) (kc (WE (Xi (xa3 (Wd ji (xev 3) Yb) (xev 4) (xev 5))) (ZM (xev 1) (xev 7)))) Wh)
 (jb (Zj (kf (Xk hr) (xev 6) Yb) (kc (WE (Yi (xev 1) (xcl h2 hr (xa2 (xev 0) (je Yn rfl g.len wm (xa1 (xev 1)))))) (ZM (xev 1) (xev 7)))) Wh)
 (kc (ve (vay (xev 1))))))))))))))))))
theorem ZbB(D:xDf K "room_by_spot" jaT f) :Xaw P w K mg base:=D.cal X G YbB (fun _ _ _ h=>by obtain⟨_,_,rfl,_⟩:=h;rfl) Zag (fun _ _ _ _ _ _=>us1 fun _=>rfl) fun cdv A outer s H E hr=>(kc (ve (Yaq (ts:=["name","first","last","size","things","day"]) (rest:=xN17) hr (xcs jaT xN17) (Yh (xev 0)) (fun _ _ _=>rfl) g.range (fun _ _ _=>(qo (xg5 (xgn 0 wQ) (xgn 1 wQ) (xgn 2 wQ) (xgn 3 wQ) (xgn 4 wQ)))) (fun _ _ _=>(xa2 (xev 1) (Wd ji (xev 2) Yb))) (fun _ _ _=>(xgn 5 wQ)) (fun _ _ _=>(Xi (xa2 (xev 5) (xev 0)))) (fun _ _ _=>(xev 3)))))
theorem qbB(D:xDf K "on_leave" kaS f) :jaB P w K mg base:=D.cal X G XbE (fun _ _ _ h=>by obtain⟨_,_,_,_,rfl,_⟩:=h;rfl) jaH (fun _ _ _ _ _ _=>us3 fun _ _ _=>rfl) fun cdv A outer s H E hr=>(kc (ve (je qaY rfl g.any Za0 (xa1 (ku (ts:=["first","last"]) (rest:=xN18) (xcs kaS xN18) (Yh (vap hr (xev 0) (xev 1) (Yj Xo))) (fun _ _ _=>(qo (xg2 (xgn 0 Ya2) (xgn 1 Ya2)))) (fun _ _ _=>Wt) (fun _ _ _=>(Yba X4 X4 (xev 0) (xev 4) (xev 1))))))))
theorem wbE(D:xDf K "able_by_spot" Wal f)(h18:jaB P w K mg base):jaG P w K mg base:=D.cal X G wbz (fun _ _ _ h=>by obtain⟨_,_,_,_,rfl,_⟩:=h;rfl) Xah (fun _ _ _ _ _ _=>us2 fun _ _=>rfl) fun cdv A outer s H E hr=>(kc (ve (Yaq (ts:=["name","first","last","size","things","day"]) (rest:=xN19) hr (xcs Wal xN19) (Yh (xev 0)) (fun _ _ _=>rfl) g.range (fun _ _ _=>(qo (xg5 (xgn 0 XT) (xgn 1 XT) (xgn 2 XT) (xgn 3 XT) (xgn 4 XT)))) (fun _ _ _=>(xa2 (xev 1) (Wd ji (xev 2) Yb))) (fun _ _ _=>(xgn 5 XT)) (fun _ _ _=>(Xi (xa2 (xev 5) (xev 0)))) (fun _ _ _=>(Waj (ts:=["thing"]) (rest:=["name","first","last","size","things","day","shows","leaves"]) (kaf (out:=(waB ({kind:=.function,names:=[((".0":Str),NameKind.«local»),(("name":Str),NameKind.«local»),(("first":Str),NameKind.«local»),(("last":Str),NameKind.«local»),(("size":Str),NameKind.«local»),(("things":Str),NameKind.«local»),(("day":Str),NameKind.cell),(("range":Str),NameKind.globalImplicit),(("leaves":Str),NameKind.free)],isGenerator:=false,isCoroutine:=false,more:=[]}:Scope) (vc Wal))) (N:=["name","first","last","size","things","day","shows","leaves"]) ZX) (Xbv (xev 4)) (fun _ _ _=>(xgn 0 wbu)) (fun _ _ _=>(wbs (Xad (vN (xcl h18 hr (xa3 (xev 8) (xev 0) (xev 6))))))) (fun _ _ _=>(xev 0)))))))
theorem qbA(D:xDf K "rightly_named" waO f) :XaD P w K mg base:=D.cal X G YbA (fun _ _ _ h=>by obtain⟨_,_,_,_,_,rfl,_⟩:=h;rfl) k9 (fun _ _ _ _ _ _=>us3 fun _ _ _=>rfl) fun cdv A outer s H E hr=>(kc (ve (WS (Xw (Xk hr) (xev 0) (j6 hr jv rfl g.sorted rfl g.set (xev 0))) (WS (Xw X4 (je Yn rfl g.len wm (xa1 (xev 0))) (xev 1)) (jac (je Xay rfl g.all kav (xa1 (ku (ts:=["name"]) (rest:=xN20) (xcs waO xN20) (Yh (xev 0)) (fun _ _ _=>(xgn 0 qbt)) (fun _ _ _=>Wt) (fun _ _ _=>(Xw Zbx (xev 0) (xev 3)))))))))))
theorem XbD(D:xDf K "shown_days" kba f) :vaB P w K mg base:=D.cal X G xc21 (fun _ _ _ h=>by obtain⟨_,_,rfl,_⟩:=h;rfl) Xat (fun _ _ _ _ _ _=>us1 fun _=>rfl) fun cdv A outer s H E hr=>(jb (xst 1 xc21.nd wai)
 (jb (Zw (Yh (xev 0)) (qo (xg3 (xgn 2 xc21.nd) (xgn 3 xc21.nd) (xgn 4 xc21.nd))) (kc (Zw (Yh (xev 4)) (xgn 5 xc21.nd) (kc (Xr (jQ (Zbl (xev 1) (xev 5) (Yj Xo)) (xev 2)))))))
 (kc (ve (ZaN (xev 1))))))
theorem jbA(D:xDf K "good_dealing" jai f)(h17:Xaw P w K mg base)(h19:jaG P w K mg base)(h20:XaD P w K mg base)(h21:vaB P w K mg base):ZaE P w K mg base:=D.cal X G xc22 (fun _ _ _ h=>by obtain⟨_,_,_,_,_,_,_,_,rfl,_⟩:=h;rfl) vah (fun _ _ _ _ _ _=>us4 fun _ _ _ _=>rfl) fun cdv A outer s H E hr=>(jb (xst 4 xc22.nd (xcl h17 hr (xa1 (xev 0))))
 (jb (xst 5 xc22.nd (xcl h19 hr (xa2 (xev 0) (xev 2))))
 (jb (Zj (kf (wae hr) (ku (ts:=["day","show","names"]) (rest:=xN22) (xcs jai xN22) (Yh (xev 3)) (fun _ _ _=>(qo (xg3 (xgn 0 kaE) (xgn 1 kaE) (xgn 2 kaE)))) (fun _ _ _=>Wt) (fun _ _ _=>(Xi (xa2 (xev 0) (xev 1))))) (je (ZaU hr) rfl g.sorted XI (xa1 (xev 4)))) (kc (ve qC)) Wh)
 (jb (Zj (Xad (vN (je Xay rfl g.all kav (xa1 (ku (ts:=["day","show","names"]) (rest:=xN22) (xcs jai xN22) (Yh (xev 3)) (fun _ _ _=>(qo (xg3 (xgn 0 jaD) (xgn 1 jaD) (xgn 2 jaD)))) (fun _ _ _=>Wt) (fun _ _ _=>(xcl h20 hr (xa3 (xev 2) (jaE hr (xev 7) (Xi (xa2 (xev 0) (xev 1)))) (jaE hr (xev 8) (Xi (xa2 (xev 0) (xev 1)))))))))))) (kc (ve qC)) Wh)
 (kc (ve (je Xay rfl g.all kav (xa1 (ku (ts:=["thing","days"]) (rest:=xN22) (xcs jai xN22) (vax (xcl h21 hr (xa1 (xev 3)))) (fun _ _ _=>(qo (xg2 (xgn 0 YaX) (xgn 1 YaX)))) (fun _ _ _=>Wt) (fun _ _ _=>(WS (Xw (Xk hr) (qap rfl g.len rfl g.set (xev 1)) (je Yn rfl g.len wm (xa1 (xev 1)))) (jac (Xw X4 (je Yn rfl g.len wm (xa1 (xev 1))) (wR hr (xev 3) (xev 0)))))))))))))))
theorem WbB(D:xDf K "_law_is_dealing" YaD f)(h13:vad P w K mg base)(h14:kac P w K mg base):vaC P w K mg base:=D.cal X G xc23 (fun _ _ _ h=>by obtain⟨_,_,_,_,_,_,_,rfl,_⟩:=h;rfl) jX (fun _ _ _ _ _ _=>us4 fun _ _ _ _=>rfl) fun cdv A outer s H E hr=>(jb (xst 4 xc23.nd (xcl h13 hr (xa1 (xev 0))))
 (jb (Zj (kf (wae hr) (ku (ts:=["_law_row"]) (rest:=xN23) (xcs YaD xN23) (Yh (xev 3)) (fun _ _ _=>(xgn 0 Zbp)) (fun _ _ _=>Wt) (fun _ _ _=>(Xi (xa2 (Yi (xev 0) Yb) (Yi (xev 0) Yb))))) (ku (ts:=["_law_room"]) (rest:=["_law_shows_here","_law_lights_here","_law_leaves_here","_law_rows","_law_rooms_here","._law_room","_law_left","_law_had","_law_day_here","_law_show","_law_names_here","_law_name"]) (xcs YaD xN23) (Yh (xev 4)) (fun _ _ _=>(xgn 0 vbr)) (fun _ _ _=>Wt) (fun _ _ _=>(Xi (xa2 (Yi (xev 0) Yb) (Yi (xev 0) Yb)))))) (kc (ve qC)) Wh)
 (jb (xst 6 xc23.nd (jk Waa rfl g.dict Z6 (xa1 (xev 1))))
 (jb (xst 7 xc23.nd Yax)
 (jb (Zw (wbt rfl g.zip (xa2 (xev 3) (xev 4))) (qo (xg2 (qo (xg3 (xgn 8 xc23.nd) (xgn 9 xc23.nd) (xgn 10 xc23.nd))) (xgn 5 xc23.nd))) (jb (Zj (XQ (vJ (kf WP (je Yn rfl g.len wm (xa1 (xev 10))) (Yi (xev 5) Yb)) (vJ (kf (wae hr) (je (kJ hr) rfl g.sorted XI (xa1 (xev 10))) (xev 10)) (qM (kf jat (qap rfl g.len rfl g.set (xev 10)) (je Yn rfl g.len wm (xa1 (xev 10)))))))) (kc (ve qC)) Wh)
 (kc (Zw (Yh (xev 10)) (xgn 11 xc23.nd) (jb (Zj (XQ (vJ (kf waa (xev 11) (Yi (xev 5) Yb)) (qM (Ybk hr (Xi (xa2 (xev 11) (xev 8))) (xev 7))))) (kc (ve qC)) Wh)
 (jb (Zj (XQ (vJ (vN (xcl h14 hr (xa3 (xev 2) (xev 11) (xev 8)))) (qM (kf jat (wR hr (xev 6) (xev 11)) Yb)))) (kc (ve qC)) Wh)
 (jb (Zay hr (xev 7) (Xi (xa2 (xev 11) (xev 8))) qC)
 (kc (XR hr (xev 6) (xev 11) (Wd WY (wR hr (xev 6) (xev 11)) Yb))))))))))
 (kc (ve qC)))))))
theorem XbA{fd:FuncData}(F:Fun K "law" "law" kX f fd)(h0:waT P w K mg base)(h12:kaB P w K mg base)(h15:Zax P w K mg base)(h2:ZB P w K mg base)(h16:ZaB P w K mg base)(h22:ZaE P w K mg base)(h23:vaC P w K mg base):ZE P w K mg base CX0 7 f fd ["_law_script"] (YH K Y5):=F.okD (t:=XaT qu kr Xq ja qi vo jm) (ps:=xN24.take 1) xc24 (fun _ _ _ h=>by obtain⟨_,rfl,_⟩:=h;rfl) (fun cdv A outer s H E hr=>(jb (xst 1 xc24.nd (xcl h0 hr (xa1 (xev 0))))
 (jb (WE (xcl h12 hr (xa1 (xev 1))) (qo (xg3 (xgn 2 xc24.nd) (xgn 3 xc24.nd) (xgn 4 xc24.nd))))
 (jb (xst 5 xc24.nd (xcl h15 hr (xa4 (xev 1) (xev 2) (xev 3) (xev 4))))
 (jb (kad (W4 rfl g.range (xa1 (xcl h2 hr (xa2 (xev 1) Yb)))) (xgn 6 xc24.nd) (kc (xst 5 xc24.nd (xcl h16 hr (xa3 (xev 1) (xev 5) (je (kJ hr) rfl g.sorted XI (xa1 (jk va5 rfl g.list qF (xa1 (xev 3))))))))))
 (jb (WaB 7 (ts:=["_law_day_here","_law_show","_law_names_here"]) (rest:=xN24) (xcs kX xN24) (Yh (xev 5)) (fun _ _ _=>(qo (xg3 (xgn 0 Waw) (xgn 1 Waw) (xgn 2 Waw)))) (fun _ _ _=>Wt) (fun _ _ _=>(Xi (xa3 (xev 0) (xev 1) (jk YL rfl g.list qF (xa1 (xev 2)))))) xc24.nd rfl (Or.inl rfl))
 (jb (xst 8 xc24.nd (Xi (xa3 (jk YL rfl g.list qF (xa1 (xev 2))) (jk Waa rfl g.dict Z6 (xa1 (xev 3))) (jk (wa8 hr) rfl g.dict Z6 (xa1 (ku (ts:=["_law_name","_law_days"]) (rest:=xN24) (xcs kX xN24) (vax (xev 4)) (fun _ _ _=>(qo (xg2 (xgn 0 Ya0) (xgn 1 Ya0)))) (fun _ _ _=>Wt) (fun _ _ _=>(Xi (xa2 (xev 0) (jk YL rfl g.list qF (xa1 (xev 1))))))))))))
 (jb (xst 9 xc24.nd (xcl h22 hr (xa4 (Yi (xev 8) Yb) (Yi (xev 8) Yb) (Yi (xev 8) Yb) (xev 7))))
 (jb (Zj (XQ (vJ (Xad (vN (je Ybn rfl g.isinstance kas (xa2 (xev 9) (Xbj rfl g.bool Ybi))))) (vJ (kf (wae hr) (xev 7) (xev 5)) (qM (kf (WaU hr) (xev 8) (Xi (xa3 (xev 2) (xev 3) (xev 4)))))))) (kc (ve qC)) Wh)
 (kc (ve (Xw (Xk hr) (xev 9) (xcl h23 hr (xa4 (xev 2) (xev 3) (xev 4) (xev 5))))))))))))))) jbr
end
theorem Wbv{l:PySem.W.OpenLaw}{w:World}{K:uD}{h:Heap}{mg:Str->Option Value}{fa f0 f1 f2 f3 f4 f5 f6 f7 f8 f9 f10 f11 f12 f13 f14 f15 f16 f17 f18 f19 f20 f21 f22 f23 f24:Addr}(X:K.In h)(G:h.Ns mainGlobals mg)(hfa:mg "law"=some (.ref fa))
  (D0:xDf K "_law_box" xs0 f0) (D1:xDf K "_law_mixed" xs1 f1) (D2:xDf K "_law_take" xs2 f2) (D3:xDf K "_law_letters" xs3 f3) (D4:xDf K "_law_named" xs4 f4) (D5:xDf K "_law_names" xs5 f5) (D6:xDf K "_law_day" xs6 f6) (D7:xDf K "_law_count" xs7 f7) (D8:xDf K "_law_deal" xs8 f8) (D9:xDf K "_law_shows" xs9 f9) (D10:xDf K "_law_leaves" waQ f10) (D11:xDf K "_law_lights" qba f11) (D12:xDf K "_law_hall" wa7 f12) (D13:xDf K "_law_rooms" YaO f13) (D14:xDf K "_law_away" kaU f14) (D15:xDf K "_law_dealt" jbb f15) (D16:xDf K "_law_bent_dealing" ZaO f16) (D17:xDf K "room_by_spot" jaT f17) (D18:xDf K "on_leave" kaS f18) (D19:xDf K "able_by_spot" Wal f19) (D20:xDf K "rightly_named" waO f20) (D21:xDf K "shown_days" kba f21) (D22:xDf K "good_dealing" jai f22) (D23:xDf K "_law_is_dealing" YaD f23) (D24:xDf K "law" kX f24) (z:xZi K) :
  ∃fd:FuncData,(∀(s:Shared) (v:Value),BindsTo s fd ⟨[v],[]⟩ [("_law_script",v)])/\∀base:Heap,K.In base->base.Ns mainGlobals mg->ZE l.prog w K mg base CX0 7 fa fd ["_law_script"] (YH K Y5):=by
 have e:=hfa.symm.trans (PySem.W.mg_of X G D24.ns)
 cases e
 have g:xBi mg:=⟨ul X G z.all,ul X G z.any,ul X G z.bool,ul X G z.dict,ul X G z.int,ul X G z.isinstance,ul X G z.len,ul X G z.list,ul X G z.max,ul X G z.min,ul X G z.range,ul X G z.set,ul X G z.sorted,ul X G z.tuple,ul X G z.zip⟩
 obtain⟨oc,kV,dc,pm,cd,ct,od,an,sl,lk,c⟩:=D24.ex
 have F:=Ya4 lk c D24.kp
 refine⟨xU "law" "law" (ky kX) (Zp kX) (vc kX) .none kV dc pm an cd ct,fun s v=>.of_eq rfl,fun base _ _=>?_⟩
 have h0:waT l.prog w K mg base:=xk0 X G g D0 
 have h1:kaR l.prog w K mg base:=xk1 X G g D1 
 have h2:ZB l.prog w K mg base:=xk2 X G g D2 h1
 have h3:XaS l.prog w K mg base:=xk3 X G g D3 
 have h4:vaU l.prog w K mg base:=xk4 X G g D4 h2 h3
 have h5:qau l.prog w K mg base:=xk5 X G g D5 h4
 have h6:YaT l.prog w K mg base:=xk6 X G g D6 h2
 have h7:qaQ l.prog w K mg base:=xk7 X G g D7 h2
 have h8:qat l.prog w K mg base:=xk8 X G g D8 h2
 have h9:vaO l.prog w K mg base:=xk9 X G g D9 h6 h2 h5 h7 h8
 have h10:XaC l.prog w K mg base:=vbB X G g D10 h2
 have h11:ZaD l.prog w K mg base:=kbD X G g D11 h2
 have h12:kaB l.prog w K mg base:=vbD X G g D12 h5 h2 h9 h10 h11
 have h13:vad l.prog w K mg base:=jbB X G g D13 
 have h14:kac l.prog w K mg base:=WbC X G g D14 
 have h15:Zax l.prog w K mg base:=WbD X G g D15 h13 h8 h14 h2
 have h16:ZaB l.prog w K mg base:=qbD X G g D16 h2
 have h17:Xaw l.prog w K mg base:=ZbB X G g D17 
 have h18:jaB l.prog w K mg base:=qbB X G g D18 
 have h19:jaG l.prog w K mg base:=wbE X G g D19 h18
 have h20:XaD l.prog w K mg base:=qbA X G g D20 
 have h21:vaB l.prog w K mg base:=XbD X G g D21 
 have h22:ZaE l.prog w K mg base:=jbA X G g D22 h17 h19 h20 h21
 have h23:vaC l.prog w K mg base:=WbB X G g D23 h13 h14
 exact XbA X G g F h0 h12 h15 h2 h16 h22 h23
theorem WbA{l:PySem.W.OpenLaw}{q:Program}{loose:List Str}{XP:(Str->Option Value)->Heap->Prop}{YP:World->Heap->Prop}{d:DefRec}{K:Params->uD}(hn:l.most=some 63)(hdf:d.params.defaults=[])
  (hY:∀(w:World) (h:Heap),YP w h->(K w.params).In h)
  (F:∀(w:World) (mg:Str->Option Value) (fa:Addr) (h:Heap),(K w.params).In h->h.Ns mainGlobals mg->mg d.name=some (.ref fa) →
   ∃fd:FuncData,(∀(s:Shared) (u:Value),BindsTo s fd ⟨[u],[]⟩ [("_law_script",u)])/\∀base:Heap,(K w.params).In base->base.Ns mainGlobals mg->ZE l.prog w (K w.params) mg base CX0 7 fa fd ["_law_script"] (YH (K w.params) Y5)) :
  PySem.W.WalkO q loose XP YP l.row.toRowW d [] (fun f vs=>PySem.call f vs):=
 L2.Ybf (n:=63) (k:=7) (x:="_law_script") (CX:=fun _=>CX0) (sp:=fun w=>YH (K w.params) Y5) hn (by decide) hdf ⟨rfl,by decide,by decide⟩ hY F (fun _ _ a ns hl _ hS=>Ybv hl hS) fun _ _ _ _ _ z=>z
end V15
theorem PySem.W.Fast.tw1049001490507965931 : True := trivial
theorem PySem.W.Fast.tw9295678330184741286 : True := trivial
theorem PySem.W.Fast.tw3736283524160829798 : True := trivial
theorem PySem.W.Fast.tw2859443934820275559 : True := trivial
theorem PySem.W.Fast.tw5986755547345587627 : True := trivial
theorem PySem.W.Fast.tw7328454439134993810 : True := trivial
theorem PySem.W.Fast.tw4000404639516835074 : True := trivial
open PySem PySem.W PyProof.Rows
set_option maxRecDepth 100000 in
set_option maxHeartbeats 0 in
theorem PySem.Challenge.cw_vitrine_k18_dealings_judged_holds : PySem.Challenge.rw_vitrine_k18_dealings_judged.Holds := by
 w_on; o_law; k_head; (case hw => w_witness2)
 k_fill
 refine V15.WbA (l := PySem.Challenge.rw_vitrine_k18_dealings_judged) rfl rfl (fun w h Y => PySem.W.kIn_of Y) ?F
 case F =>
  intro w mg fa h KX G hmg
  refine' V15.Wbv KX G hmg ?_ ?_ ?_ ?_ ?_ ?_ ?_ ?_ ?_ ?_ ?_ ?_ ?_ ?_ ?_ ?_ ?_ ?_ ?_ ?_ ?_ ?_ ?_ ?_ ?_ ?_
  all_goals try first | refine' V15.xDf.mk0 ?_ ?_ ?_ ?_ | refine' V15.xZi.mk ?_ ?_ ?_ ?_ ?_ ?_ ?_ ?_ ?_ ?_ ?_ ?_ ?_ ?_ ?_
  all_goals try k_is
