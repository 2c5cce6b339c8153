import PyProof.Rows.All
import Wide.All
import OpenK.AllK
import Wide.FinOn
import Lean
import PyProof.EqAt
import PyProof.EqKinds
import PyProof.TupleCall
import PySem.Challenge.RW_othersum_k41_whole_a_hidden_mark_turns
noncomputable section
set_option Elab.async false
set_option linter.all false
set_option maxRecDepth 100000
abbrev zza:=@List.length_map
abbrev zzb:=@List.mem_map
abbrev zzc:=@List.mem_cons_of_mem
abbrev zzd:=@List.mem_cons_self
abbrev zze:=@List.map_cons
abbrev zzf:=@PySem.Heap.get?_push_of_some
abbrev zzg:=@List.getD_eq_getElem?_getD
abbrev zzh:=@List.map_map
abbrev zzi:=@List.mem_cons
abbrev zzj:=@Nat.le_refl
abbrev zzk:=@Nat.le_trans
abbrev zzl:=@List.length_append
abbrev zzm:=@List.getElem?_eq_getElem
abbrev zzn:=@List.getElem?_map
abbrev zzo:=@List.map_append
abbrev zzp:=@List.map_congr_left
abbrev zzq:=@PySem.Heap.lt_size
abbrev zzr:=@List.size_toArray
abbrev zzs:=@PySem.Heap.get?_push_size
abbrev zzt:=@List.getElem?_eq_some_iff
abbrev zzu:=@Bool.false_ne_true
abbrev zzv:=@List.mem_filter
abbrev zzw:=@List.mem_singleton
abbrev zzx:=@List.mem_append
abbrev zzy:=@List.mem_range
abbrev zzz:=@Nat.lt_of_lt_of_le
abbrev zzA:=@Nat.ne_of_lt
abbrev zzB:=@List.sum_cons
abbrev zzC:=@List.getElem?_set_ne
abbrev zzD:=@Nat.lt_of_le_of_lt
abbrev zzE:=@List.getElem?_append_left
abbrev zzF:=@List.getElem?_append_right
abbrev zzG:=@Nat.zero_le
abbrev zzH:=@List.mem_of_getElem?
abbrev zzI:=@Classical.choose_spec
abbrev zzJ:=@List.length_range
abbrev zzK:=@Bool.and_eq_true
abbrev zzL:=@List.length_singleton
abbrev zzM:=@List.append_nil
abbrev zzN:=@List.length_eq_zero_iff
abbrev zzO:=@List.append_cancel_left
abbrev zzP:=@Int.toNat_natCast
abbrev zzQ:=@PySem.W.mg_none_of
abbrev zzR:=@List.not_mem_nil
abbrev zzS:=@List.map_nil
abbrev zzT:=@PySem.mem_of_lookup
abbrev zzU:=@List.getElem_mem
abbrev zzV:=@List.mem_append_right
abbrev zzW:=@List.replicate_succ
abbrev zzX:=@PySem.Heap.SameBut.update
abbrev zzY:=@List.nodup_cons
abbrev zzZ:=@List.find?_cons_of_pos
abbrev zya:=@List.find?_cons_of_neg
abbrev zyb:=@PySem.boot_len
abbrev zyc:=@List.length_filter_le
abbrev zyd:=@PySem.Heap.get?_update_other
abbrev zye:=@PySem.Heap.size_push
abbrev zyf:=@Nat.not_lt_zero
abbrev zyg:=@PySem.Heap.get?_update_self
abbrev zyh:=@List.filter_congr
abbrev zyi:=@Nat.lt_irrefl
abbrev zyj:=@Option.some.inj
abbrev zyk:=@List.eq_of_mem_replicate
abbrev zyl:=@Array.getElem?_toList
abbrev zym:=@PySem.W.kia_one
abbrev zyn:=@Int.le_refl
abbrev zyo:=@List.filter_append
abbrev zyp:=@List.filter_filter
abbrev zyq:=@List.filter_cons_of_pos
abbrev zyr:=@List.filter_cons_of_neg
abbrev zys:=@List.lookup_cons
abbrev zyt:=@List.all_eq_true
abbrev zyu:=@List.flatten_cons
abbrev zyv:=@Bool.false_eq_true
abbrev zyw:=@Bool.eq_iff_iff
abbrev zyx:=@List.sum_append
abbrev zyy:=@List.getElem?_range
abbrev zyz:=@List.toList_toArray
abbrev zyA:=@Nat.ne_of_gt
abbrev zyB:=@Option.map_eq_some_iff
abbrev zyC:=@List.append_assoc
abbrev zyD:=@List.filterMap_cons
abbrev zyE:=@Array.length_toList
abbrev zyF:=@List.length_take
abbrev zyG:=@List.length_cons
abbrev zyH:=@List.getElem?_set_self
abbrev zyI:=@Int.emod_lt_of_pos
abbrev zyJ:=@List.length_set
abbrev zyK:=@List.getElem?_eq_none
abbrev zyL:=@List.filter_map
abbrev zyM:=@List.any_cons
abbrev zyN:=@List.nodup_append
abbrev zyO:=@List.mem_or_eq_of_mem_set
abbrev zyP:=@List.nodup_nil
abbrev zyQ:=@List.getElem_inj
abbrev zyR:=@Int.mul_comm
abbrev zyS:=@PySem.F.plainAttrs_list
abbrev zyT:=@List.find?_cons
abbrev zyU:=@Int.emod_nonneg
abbrev zyV:=@List.map_singleton
abbrev zyW:=@List.range_succ
abbrev zyX:=@List.range_succ_eq_map
abbrev zyY:=@List.take_of_length_le
abbrev zyZ:=@List.filter_eq_nil_iff
namespace L2
open PySem PySem.Spec PyProof.Rows
abbrev Key:=Sum Int Str
def vO:Key->Value->Bool
 |.inl k,v=>Value.isInt k v
 |.inr x,v=>Value.isStrOf x v
def keyH(w:World):Key->Int
 |.inl k=>hashInt k
 |.inr x=>hashStr w x
theorem bz:∀{k:Key}{v:Value},vO k v=true->(∃i t,k=Sum.inl i/\v=Value.int i t)∨(∃x t,k=Sum.inr x/\v=Value.str x t)
 |.inl i,v,h=>by
  obtain⟨t,e⟩:=Value.isInt_shape (k:=i) (v:=v) h
  exact .inl ⟨i,t,rfl,e⟩
 |.inr x,v,h=>by
  obtain⟨t,e⟩:=Value.isStrOf_shape (x:=x) (v:=v) h
  exact .inr ⟨x,t,rfl,e⟩
theorem wM(i:Int)(t:Tok):vO (.inl i) (.int i t)=true:=by simp[vO,Value.isInt]
theorem wN(x:Str)(t:Tok):vO (.inr x) (.str x t)=true:=by simp[vO,Value.isStrOf]
theorem Ec(a b:Int):decide ((Sum.inl a:Key)=Sum.inl b)=(a == b):=by
 by_cases e:a=b
 ·subst e;simp
 ·have h:¬(Sum.inl a:Key)=Sum.inl b:=fun q=>e (Sum.inl.inj q)
  rw[decide_eq_false h]
  exact(beq_eq_false_iff_ne.mpr e).symm
theorem Ed(a b:Str):decide ((Sum.inr a:Key)=Sum.inr b)=decide (a=b):=by
 by_cases e:a=b
 ·subst e;simp
 ·have h:¬(Sum.inr a:Key)=Sum.inr b:=fun q=>e (Sum.inr.inj q)
  rw[decide_eq_false h,decide_eq_false e]
theorem Ee(a:Int)(b:Str):decide ((Sum.inl a:Key)=Sum.inr b)=false:=decide_eq_false (fun q=>nomatch q)
theorem Ef(a:Str)(b:Int):decide ((Sum.inr a:Key)=Sum.inl b)=false:=decide_eq_false (fun q=>nomatch q)
def aP(prog:Program)(w:World):PySem.KeyKind prog w Key where
 is:=vO
 hash:=keyH w
 inj:=fun v a b ha hb=>by
  rcases bz ha with ⟨i,t,rfl,rfl⟩|⟨x,t,rfl,rfl⟩
  ·rcases bz hb with ⟨j,u,rfl,e⟩|⟨y,u,rfl,e⟩
   ·injection e with e1 _;rw[e1]
   ·exact nomatch e
  ·rcases bz hb with ⟨j,u,rfl,e⟩|⟨y,u,rfl,e⟩
   ·exact nomatch e
   ·injection e with e1 _;rw[e1]
 byValue:=fun k v h=>by
  rcases bz h with ⟨i,t,rfl,rfl⟩|⟨x,t,rfl,rfl⟩<;>rfl
 pyHash:=fun hv h=>by
  rcases bz hv with ⟨i,t,rfl,rfl⟩|⟨x,t,rfl,rfl⟩
  ·exact wpAny_pyHash_int h
  ·exact wpAny_pyHash_str h
 eqBool:=fun hu hv h=>by
  rcases bz hu with ⟨i,t,rfl,rfl⟩|⟨x,t,rfl,rfl⟩
  ·rcases bz hv with ⟨j,u,rfl,rfl⟩|⟨y,u,rfl,rfl⟩
   ·rw[Ec]at h;exact wpAny_eqBool_int h
   ·rw[Ee]at h;exact SeqAt.EqAt.int_str i t y u _ _ _ _ h
  ·rcases bz hv with ⟨j,u,rfl,rfl⟩|⟨y,u,rfl,rfl⟩
   ·rw[Ef]at h;exact SeqAt.EqAt.str_int x t j u _ _ _ _ h
   ·rw[Ed]at h;exact wpAny_eqBool_str h
 «strs»:=fun k x t v h=>by
  rcases bz h with ⟨i,u,rfl,e⟩|⟨y,u,rfl,e⟩
  ·exact nomatch e
  ·injection e with e1 _
   subst e1
   cases v<;>rfl
theorem kY(prog:Program)(w:World)(i:Int)(t:Tok):(aP prog w).is (.inl i) (.int i t)=true:=wM i t
theorem sf(prog:Program)(w:World)(x:Str)(t:Tok):(aP prog w).is (.inr x) (.str x t)=true:=wN x t
inductive V where
 |non|bl (b:Bool)|int (i:Int)|str (x:Str)|byt (b:Array UInt8)|flt (b:UInt64)|ref (a:Addr)|ty (n:String)
 deriving DecidableEq
def RelV:V->Value->Prop
 |.non,u=>u=Value.none
 |.bl b,u=>u=Value.bool b
 |.int i,u=>∃t,u=Value.int i t
 |.str x,u=>∃t,u=Value.str x t
 |.byt b,u=>∃t,u=Value.bytes b t
 |.flt b,u=>∃t,u=Value.float b t
 |.ref a,u=>u=Value.ref a
 |.ty n,u=>u=Value.type n
abbrev Vals:List V->List Value->Prop:=Paired RelV
theorem Vals.length{xs:List V}{us:List Value}(r:Vals xs us):xs.length=us.length:=Paired.length r
theorem Vals.get:∀{xs:List V}{us:List Value}{i:Nat}{x:V},Vals xs us->xs[i]? = some x->∃u,us[i]? = some u/\RelV x u
 |_,_,_,_,.nil,e=>by simp at e
 |_,_,0,_,.cons r _,e=>by simp at e;subst e;exact⟨_,rfl,r⟩
 |_,_,i+1,x,.cons _ t,e=>by
  obtain⟨u,h1,h2⟩:=Vals.get (i:=i) (x:=x) t (by simpa using e)
  exact⟨u,by simpa using h1,h2⟩
theorem Vals.set{x:V}{u:Value}(r:RelV x u):∀{xs:List V}{us:List Value} (i:Nat),Vals xs us->Vals (xs.set i x) (us.set i u)
 |_,_,_,.nil=>.nil
 |_,_,0,.cons _ t=>.cons r t
 |_,_,i+1,.cons q t=>.cons q (Vals.set r i t)
theorem Vals.append:∀{xs ys:List V}{us ws:List Value},Vals xs us->Vals ys ws->Vals (xs++ys) (us++ws)
 |_,_,_,_,.nil,s=>s
 |_,_,_,_,.cons r t,s=>.cons r (Vals.append t s)
theorem Vals.take:∀{xs:List V}{us:List Value} (n:Nat),Vals xs us->Vals (xs.take n) (us.take n)
 |_,_,0,_=>.nil
 |_,_,_+1,.nil=>.nil
 |_,_,n+1,.cons r t=>.cons r (Vals.take n t)
theorem Vals.drop:∀{xs:List V}{us:List Value} (n:Nat),Vals xs us->Vals (xs.drop n) (us.drop n)
 |_,_,0,r=>r
 |_,_,_+1,.nil=>.nil
 |_,_,n+1,.cons _ t=>Vals.drop n t
def RelO:Option V->Option Value->Prop
 |some v,some u=>RelV v u
 |none,none=>True
 |_,_=>False
def KV{κ:Type}:List (κ×V)->List (κ×Value)->Prop:=Paired fun(p:κ×V) (q:κ×Value)=>p.1=q.1/\RelV p.2 q.2
def kV:Key->V
 |.inl i=>.int i
 |.inr x=>.str x
inductive HO where
  |lst (xs:List V)
  |tup (xs:List V)
  |dK (kvs:List (Key×V))|dT (kvs:List (List Key×V))
  |set (S:Int->Bool) (n:Nat)
  |ins (C dx:Addr) (fs:List (Str×V))
  |own (x:Addr)
  |xd (fs:List (Str×V))
  |met (f x:Addr)
  |rng (lo hi:Int)
  |frz (o:Obj) (u:HO)
  |tbl (ps:Array Value)
  |ext (φ:Heap->Prop)
abbrev Hp:=Addr->Option HO
def upd(H:Hp)(a:Addr)(o:HO):Hp:=fun b=>if b=a then some o else H b
theorem ak{H:Hp}{a:Addr}{o:HO}:upd H a o a=some o:=by unfold upd;rw[if_pos rfl]
theorem aq{H:Hp}{a b:Addr}{o:HO}(h:b≠a):upd H a o b=H b:=by unfold upd;rw[if_neg h]
theorem mW{H:Hp}{a b:Addr}{o u:HO}(h:H a=some o)(h':H b=some u)(d:o≠u):a≠b:=by
 intro e;subst e;rw[h]at h';exact d (zyj h')
theorem bL{H:Hp}{a b:Addr}{o:HO}(h:H a=some o)(h':H b=none):a≠b:=by
 intro e;subst e;rw[h]at h';cases h'
section
variable(P:Program)(w:World)
def NoDc(h:Heap)(a:Addr):Prop:=∃o,h.get? a=some o/\o.dict=none
def NdOr(h:Heap)(a:Addr)(xs:List V):Prop:=NoDc h a∨∃i x,xs=[V.int i,x]
def ObjOk(H:Hp)(h:Heap)(a:Addr):HO->Prop
 |.lst xs=>xs.length <= sizeLine/\∃(its:List Value) (n:Nat),Vals xs its/\h.get? a=some { cls:=.type "list",data:=.seq its.toArray n }
 |.tup xs=>(xs.length <= sizeLine/\NdOr h a xs)/\∃its:List Value,Vals xs its/\IsTup h a its.toArray
 |.dK kvs=>kvs.length <= sizeLine/\(a == sysModules)=false/\∃vs,KV kvs vs/\h.DictOf (aP P w) a vs
 |.dT kvs=>kvs.length <= sizeLine/\(a == sysModules)=false/\∃xs:List (List Key×Addr×Value),
   Paired (fun(p:List Key×V) (q:List Key×Addr×Value)=>p.1=q.1/\H q.2.1=some (.tup (p.1.map kV))/\RelV p.2 q.2.2) kvs xs /\
   ∃o es ep,h.get? a=some o/\o.ExactDict/\o.data=.dict es ep/\es.toList=xs.map (entryOfKey (tupleKind (aP P w)))/\(xs.map (·.1)).Nodup
 |.set S n=>h.SetOf (intKind P w) a S n
 |.ins C dx fs=>H dx=some (.own a)/\fs.length <= 1000/\dx≠a/\h.get? a=some (PySem.W.instObj C dx) /\
   ∃mA,h.Ns1 dx mA/\(∀f,RelO (fs.lookup f) (mA f))/\PySem.Within mA (fs.map (·.1))
 |.own _=>∃o,h.get? a=some o
 |.xd fs=>∃mA,h.Ns1 a mA/\∀f,RelO (fs.lookup f) (mA f)
 |.rng lo hi=>∃t u v,h.get? a=some { cls:=.type "range",data:=.fields #[.int lo t,.int hi u,.int 1 v] }
 |.frz o u=>h.get? a=some o/\ObjOk H h a u
 |.tbl ps=>h.get? a=some { cls:=.none,data:=.fields ps }
 |.met f x=>h.get? a=some (PySem.W.methodObj (.ref f) (.ref x))
 |.ext φ=>φ h/\(∃o,h.get? a=some o)/\∀h1 h2:Heap,φ h1->(∀o,h1.get? a=some o->h2.get? a=some o)->φ h2
def HOk(H:Hp)(h:Heap):Prop:=∀a o,H a=some o->ObjOk P w H h a o
end
section
variable{P:Program}{w:World}{H H':Hp}{h h':Heap}{a:Addr}{o:HO}
theorem ObjOk.lt(x:ObjOk P w H h a o):a<h.objs.size:=by
 cases o with
 |lst xs=>obtain⟨_,_,_,_,e⟩:=x;exact zzq e
 |tup xs=>obtain⟨_,_,_,p⟩:=x;exact p.lt
 |dK kvs=>obtain⟨_,_,_,_,o,_,_,e,_⟩:=x;exact zzq e
 |dT kvs=>obtain⟨_,_,_,_,o,_,_,e,_⟩:=x;exact zzq e
 |set S n=>obtain⟨o,_,_,_,e,_⟩:=x;exact zzq e
 |ins C dx fs=>obtain⟨_,_,_,e,_⟩:=x;exact zzq e
 |own y=>obtain⟨_,e⟩:=x;exact zzq e
 |xd fs=>obtain⟨_,⟨_,_,_,e,_⟩,_⟩:=x;exact zzq e
 |rng lo hi=>obtain⟨_,_,_,e⟩:=x;exact zzq e
 |frz ob u=>obtain⟨e,_⟩:=x;exact zzq e
 |tbl ps=>exact zzq (show h.get? a=some _ from x)
 |met f y=>exact zzq (show h.get? a=some _ from x)
 |ext φ=>obtain⟨_,⟨_,e⟩,_⟩:=x;exact zzq e
theorem Paired.mapP{α β:Type}{F G:α->β->Prop}:∀{l₁:List α}{l₂:List β},Paired F l₁ l₂->(∀a b,F a b->G a b)->Paired G l₁ l₂
 |_,_,.nil,_=>.nil
 |_,_,.cons r t,f=>.cons (f _ _ r) (Paired.mapP t f)
theorem ObjOk.stay(x:ObjOk P w H h a o)(k:∀b u,(b=a∨H b=some (.own a))->h.get? b=some u->h'.get? b=some u)
  (ho:∀b,H b=some (.own a)->H' b=some (.own a)) (ht:∀b xs,H b=some (.tup xs)->H' b=some (.tup xs)):ObjOk P w H' h' a o:=by
 induction o with
 |lst xs=>obtain⟨z,its,n,r,e⟩:=x;exact⟨z,its,n,r,k _ _ (.inl rfl) e⟩
 |tup xs=>obtain⟨⟨z,nz⟩,its,r,ob,e,c⟩:=x;exact⟨⟨z,nz.imp_left fun⟨o,e,n⟩=>⟨o,k _ _ (.inl rfl) e,n⟩⟩,its,r,ob,k _ _ (.inl rfl) e,c⟩
 |dK kvs=>obtain⟨z,y,vs,r,ob,es,ep,e,c⟩:=x;exact⟨z,y,vs,r,ob,es,ep,k _ _ (.inl rfl) e,c⟩
 |dT kvs =>
  obtain⟨z,y,xs,r,ob,es,ep,e,c⟩:=x
  exact⟨z,y,xs,Paired.mapP r fun p q z=>⟨z.1,ht _ _ z.2.1,z.2.2⟩,ob,es,ep,k _ _ (.inl rfl) e,c⟩
 |set S n=>obtain⟨ob,es,ep,t,e,c⟩:=x;exact⟨ob,es,ep,t,k _ _ (.inl rfl) e,c⟩
 |ins C dx fs =>
  obtain⟨d,z,ne,e,mA,⟨od,es,ep,e2,c⟩,r⟩:=x
  exact⟨ho _ d,z,ne,k _ _ (.inl rfl) e,mA,⟨od,es,ep,k _ _ (.inr d) e2,c⟩,r⟩
 |own y=>obtain⟨ob,e⟩:=x;exact⟨ob,k _ _ (.inl rfl) e⟩
 |xd fs=>obtain⟨mA,⟨od,es,ep,e,c⟩,r⟩:=x;exact⟨mA,⟨od,es,ep,k _ _ (.inl rfl) e,c⟩,r⟩
 |rng lo hi=>obtain⟨t,u,v,e⟩:=x;exact⟨t,u,v,k _ _ (.inl rfl) e⟩
 |frz ob u ih=>obtain⟨e,q⟩:=x;exact⟨k _ _ (.inl rfl) e,ih q⟩
 |tbl ps =>
  have e:h.get? a=some { cls:=.none,data:=.fields ps }:=x
  show h'.get? a=some { cls:=.none,data:=.fields ps }
  exact k a _ (.inl rfl) e
 |met f y =>
  have e:h.get? a=some (PySem.W.methodObj (.ref f) (.ref y)):=x
  show h'.get? a=some (PySem.W.methodObj (.ref f) (.ref y))
  exact k a _ (.inl rfl) e
 |ext φ=>obtain⟨p,⟨o,e⟩,st⟩:=x;exact⟨st _ _ p fun o q=>k _ _ (.inl rfl) q,⟨o,k _ _ (.inl rfl) e⟩,st⟩
theorem HOk.lt(x:HOk P w H h)(e:H a=some o):a<h.objs.size:=(x a o e).lt
theorem HOk.fresh(x:HOk P w H h)(e:h.objs.size <= a):H a=none:=by
 cases q:H a with
 |none=>rfl
 |some u=>exact absurd (zzz (x.lt q) e) (zyi _)
theorem HOk.kept(x:HOk P w H h)(k:∀b u,h.get? b=some u->h'.get? b=some u):HOk P w H h':=fun a o e =>
 (x a o e).stay (fun b u _ q=>k b u q) (fun _ q=>q) fun _ _ q=>q
theorem HOk.laid(x:HOk P w H h)(k:∀b u,h.get? b=some u->h'.get? b=some u)(hp:h.objs.size <= a)(new:ObjOk P w (upd H a o) h' a o):HOk P w (upd H a o) h':=fun b u e=>by
 have hn:=x.fresh hp
 by_cases hb:b=a
 ·subst hb;rw[ak]at e;cases e;exact new
 ·rw[aq hb]at e
  exact(x b u e).stay (fun c v _ q=>k c v q) (fun c q=>by rw[aq (bL q hn)];exact q) fun c xs q=>by rw[aq (bL q hn)];exact q
end
def Rd(H:Hp)(a:Addr)(u:HO):Prop:=H a=some u∨∃o,H a=some (.frz o u)
theorem Rd.ok{P:Program}{w:World}{H:Hp}{h:Heap}{a:Addr}{u:HO}(r:Rd H a u)(x:HOk P w H h):ObjOk P w H h a u:=by
 rcases r with r|⟨o,r⟩
 ·exact x a u r
 ·obtain⟨_,q⟩:=x a _ r
  exact q
def Mut:Option HO->Prop
 |some (.lst _)=>True
 |some (.dK _)=>True
 |some (.dT _)=>True
 |some (.set _ _)=>True
 |some (.ins _ _ _)=>True
 |some (.ext _)=>True
 |_=>False
section
variable{P:Program}{w:World}{H:Hp}{h h':Heap}{x e:Addr}{o':HO}
theorem HOk.write(ok:HOk P w H h)(mu:Mut (H x))(he:e=x∨H e=some (.own x))(k:∀b u,b≠e->h.get? b=some u->h'.get? b=some u)(heo:∃u,h'.get? e=some u)
  (new:ObjOk P w (upd H x o') h' x o'):HOk P w (upd H x o') h':=fun b u q=>by
 have nown:∀c y,H c=some (.own y)->c≠x:=fun c y r z=>by subst z;rw[r]at mu;exact mu
 have ntup:∀c xs,H c=some (.tup xs)->c≠x:=fun c xs r z=>by subst z;rw[r]at mu;exact mu
 by_cases hb:b=x
 ·subst hb;rw[ak]at q;cases q;exact new
 ·rw[aq hb]at q
  by_cases hbe:b=e
  ·have q':H b=some (.own x):=by
    rcases he with z|z
    ·exact absurd (hbe.trans z) hb
    ·rw[hbe];exact z
   rw[q]at q';cases q'
   obtain⟨v,hv⟩:=heo
   exact⟨v,by rw[hbe];exact hv⟩
  ·refine(ok b u q).stay (fun c v hc r=>k c v ?_ r) (fun c r=>by rw[aq (nown c b r)];exact r) fun c xs r=>by rw[aq (ntup c xs r)];exact r
   rcases hc with rfl|hc
   ·exact hbe
   ·rintro rfl
    rcases he with z|z
    ·exact nown c b hc z
    ·rw[hc]at z;cases z;exact hb rfl
end
structure Un(fs ex:List Addr)(H H':Hp)(h h':Heap):Prop where
 keep:∀b o,h.get? b=some o->H b=none->b∉fs->b∉ex->h'.get? b=some o
 slot:∀b o,h.get? b=some o->H b=none->b∈fs->b∉ex->∃sl,h'.get? b=some { o with slots:=sl }
 free:∀b o,h.get? b=some o->H b=none->b∉ex->H' b=none
 there:∀b o,h.get? b=some o->b∉ex->∃o',h'.get? b=some o'
 tups:∀b xs,H b=some (.tup xs)->H' b=some (.tup xs)
 frzs:∀b o u,H b=some (.frz o u)->H' b=some (.frz o u)
 tbls:∀b ps,H b=some (.tbl ps)->∃more,H' b=some (.tbl (ps++more))
section
variable{fs fs' ex ex':List Addr}{H H1:Hp}{h h1 h':Heap}{a x e:Addr}{o:HO}
theorem Un.any(u:Un fs ex H H1 h h1){b:Addr}{ob:Obj}(q:h.get? b=some ob)(n:H b=none)(hx:b∉ex):∃sl,h1.get? b=some { ob with slots:=sl }:=by
 by_cases hb:b∈fs
 ·exact u.slot b ob q n hb hx
 ·exact⟨ob.slots,u.keep b ob q n hb hx⟩
theorem Un.kept(k:∀b u,h.get? b=some u->h'.get? b=some u):Un fs ex H H h h' :=
 ⟨fun b ob q _ _ _=>k b ob q,fun b ob q _ _ _=>⟨ob.slots,k b ob q⟩,fun _ _ _ n _=>n,fun b ob q _=>⟨ob,k b ob q⟩,fun _ _ q=>q,fun _ _ _ q=>q,fun _ ps q=>⟨#[],by rw[q];simp⟩⟩
theorem Un.refl:Un fs ex H H h h:=Un.kept fun _ _ q=>q
theorem Un.laid(k:∀b u,h.get? b=some u->h'.get? b=some u)(hp:h.objs.size <= a)(hn:H a=none):Un fs ex H (upd H a o) h h' where
 keep:=fun b u q _ _ _=>k b u q
 slot:=fun b u q _ _ _=>⟨u.slots,k b u q⟩
 free:=fun b u q n _=>by rw[aq (zzA (zzz (zzq q) hp))];exact n
 there:=fun b u q _=>⟨u,k b u q⟩
 tups:=fun b xs q=>by rw[aq (bL q hn)];exact q
 frzs:=fun b u xs q=>by rw[aq (bL q hn)];exact q
 tbls:=fun b ps q=>⟨#[],by rw[aq (bL q hn),q];simp⟩
theorem Un.write(mu:Mut (H x))(he:e=x∨H e=some (.own x))(k:∀b u,b≠e->h.get? b=some u->h'.get? b=some u)(heo:∃u,h'.get? e=some u):Un fs ex H (upd H x o) h h':=by
 have hx:∀b,H b=none->b≠x:=fun b n z=>by subst z;rw[n]at mu;exact mu
 have hb:∀b,H b=none->b≠e:=fun b n z=>by
  subst z
  rcases he with r|r
  ·exact hx b n r
  ·rw[n]at r;cases r
 have hm:∀b u,H b=some u->¬Mut (some u)->b≠x:=fun b u q nm z=>by subst z;rw[q]at mu;exact nm mu
 refine⟨fun b u q n _ _=>k b u (hb b n) q,fun b u q n _ _=>⟨u.slots,k b u (hb b n) q⟩,fun b u q n _=>by rw[aq (hx b n)];exact n,fun b u q _=>?_,
  fun b xs q=>by rw[aq (hm b _ q fun z=>z)];exact q,fun b u xs q=>by rw[aq (hm b _ q fun z=>z)];exact q,fun b ps q=>⟨#[],by rw[aq (hm b _ q fun z=>z),q];simp⟩⟩
 by_cases hbe:b=e
 ·subst hbe;exact heo
 ·exact⟨u,k b u hbe q⟩
theorem Un.mono(u:Un fs ex H H1 h h1)(hs:∀b∈fs,b∈fs')(hx:∀b∈ex,b∈ex'):Un fs' ex' H H1 h h1 :=
 ⟨fun b ob q n hb he=>u.keep b ob q n (fun z=>hb (hs b z)) fun z=>he (hx b z),fun _ _ q n _ he=>u.any q n fun z=>he (hx _ z),fun b ob q n he=>u.free b ob q n fun z=>he (hx b z),fun b ob q he=>u.there b ob q fun z=>he (hx b z),u.tups,u.frzs,u.tbls⟩
end
def trk(h:Heap)(H:Hp):List Addr:=(List.range h.objs.size).filter fun a=>(H a).isSome
def hidT(h:Heap)(H:Hp):Heap:=PySem.W.hideAll h (trk h H)
theorem wO(h:Heap)(H:Hp):(hidT h H).objs.size=h.objs.size:=PySem.W.hideAll_size _ _
theorem zA{h:Heap}{H:Hp}{b:Addr}{o:Obj}(e:h.get? b=some o)(n:H b=none):(hidT h H).get? b=some o :=
 PySem.W.hideAll_get _ e fun hm=>by
  have q:(H b).isSome=true:=(zzv.mp hm).2
  rw[n]at q;simp at q
theorem BX{h:Heap}{H:Hp}{b:Addr}{o:Obj}(e:(hidT h H).get? b=some o):h.get? b=some o/\H b=none:=by
 have e':h.get? b=some o:=PySem.W.of_hideAll (trk h H) e
 refine⟨e',?_⟩
 cases q:H b with
 |none=>rfl
 |some x =>
  have hm:b∈trk h H:=zzv.mpr ⟨zzy.mpr (zzq e'),by simp[q]⟩
  have z:(hidT h H).get? b=none:=PySem.W.hideAll_none (trk h H) hm
  rw[z]at e;cases e
structure Mod(K:PySem.W.Frag)(mg:Str->Option Value)(base:Heap):Prop where
 kin:K.In base
 glob:base.Ns mainGlobals mg
 blt:∃mb,base.Ns builtinsNs mb/\∀x:Str,x ≠ "__name__" -> mb x=bootBuiltins x
 nolimit:base.NoLimit
structure Cx where
 prog:Program
 w:World
 K:PySem.W.Frag
 mg:Str->Option Value
 base:Heap
 A:Around
 N:List Str
 s₀:Shared
 H₀:Hp
 env:Env
 outer:List Env
 stack:List Env
 ex:List Addr
 fn:Str->Bool
 calm:Bool
 pn:List (Addr×Obj)
 xe:Value->Shared->Prop
def frs(l:List Env):List Addr:=l.filterMap (·.frame)
abbrev Cx.fs(X:Cx):List Addr:=frs X.outer
def Vis(sc:Scope)(x:Str):Prop:=sc.names.lookup x=some .local∨sc.names.lookup x=some .cell∨sc.names.lookup x=some .free
def Loc(sc:Scope)(x:Str):Prop:=sc.names.lookup x=some .local∨sc.names.lookup x=some .cell
def Look(env:Env)(h:Heap)(m:Str->Option Value)(x:Str)(u:Value):Prop :=
 (env.kindOf x=some .local/\m x=some u)∨((env.kindOf x=some .cell∨env.kindOf x=some .free)/\∃c,env.cells.lookup x=some c/\h.IsCell c (some u))
structure Cx.Ok(X:Cx):Prop where
 mod:Mod X.K X.mg X.base
 kind:X.env.scope.kind=.function
 glob:X.env.globals=mainGlobals
 blt:X.env.builtins=builtinsNs
 above:X.s₀.heap.objs.size <= X.env.locals
 inj:∀x y c,X.env.cells.lookup x=some c->X.env.cells.lookup y=some c->x=y
 has:∀x,(X.env.kindOf x=some .cell∨X.env.kindOf x=some .free)->∃c,X.env.cells.lookup x=some c
 cab:∀x c,X.fn x=true->X.env.cells.lookup x=some c->X.s₀.heap.objs.size <= c
 hd:X.calm=true->X.A.handled=none
 frames:X.A.frames=some X.stack
 stk:X.stack=X.outer∨(X.stack=X.env::X.outer/\X.env.frame=some X.env.locals)
 exf:∀b∈X.ex,b≠X.env.locals/\∀x c,X.env.cells.lookup x=some c->c≠b
 bs:∀b o,X.base.get? b=some o->X.s₀.heap.get? b=some o/\X.H₀ b=none
 bsz:X.base.objs.size <= X.s₀.heap.objs.size
 noex:∀b o,X.base.get? b=some o->b∉X.ex
 exfs:∀b∈X.ex,b∉X.fs
 funs:X.s₀.heap.FunFrames X.base X.outer
 frf:∀b∈X.fs,X.H₀ b=none
structure Inv(X:Cx)(pins:List (Addr×Obj))(σ:List (Option V))(H:Hp)(s:Shared):Prop where
 ok:X.Ok
 os:s.os=X.s₀.os
 bare:AllBare s.gens
 base:Un X.fs X.ex X.H₀ H X.s₀.heap s.heap
 loc:∃m,s.heap.Ns X.env.locals m/\∀(i:Nat) (x:Str) (v:V),X.N[i]? = some x->σ[i]? = some (some v)->Vis X.env.scope x->∃u,RelV v u/\Look X.env s.heap m x u
 cell:∀x c,X.env.cells.lookup x=some c->∃v,s.heap.IsCell c v
 free:H X.env.locals=none
 freeC:∀x c,X.env.cells.lookup x=some c->H c=none
 pin:∀p∈X.pn++pins,s.heap.get? p.1=some p.2/\H p.1=none/\p.1≠X.env.locals/\p.1∉X.fs/\∀v,p.2.data ≠ .cell v
 hok:HOk X.prog X.w H s.heap
 len:σ.length=X.N.length
section
variable{X:Cx}{pins:List (Addr×Obj)}{σ:List (Option V)}{H H':Hp}{s:Shared}{h':Heap}
theorem Cx.Ok.nofr(ok:X.Ok){b:Addr}{o:Obj}(e:X.base.get? b=some o):b∉X.fs:=fun hb=>by
 have:=(ok.funs.mem hb).1
 rw[e]at this;cases this
theorem Inv.bs(I:Inv X pins σ H s):∀b o,X.base.get? b=some o->s.heap.get? b=some o/\H b=none:=fun b o e =>
 ⟨I.base.keep b o (I.ok.bs b o e).1 (I.ok.bs b o e).2 (I.ok.nofr e) (I.ok.noex b o e),I.base.free b o (I.ok.bs b o e).1 (I.ok.bs b o e).2 (I.ok.noex b o e)⟩
theorem Inv.bk(I:Inv X pins σ H s):∀b o,X.base.get? b=some o->s.heap.get? b=some o:=fun b o e=>(I.bs b o e).1
theorem Inv.mod(I:Inv X pins σ H s):Mod X.K X.mg X.base:=I.ok.mod
theorem Inv.kIn(I:Inv X pins σ H s):X.K.In s.heap:=I.ok.mod.kin.keeps I.bk
theorem Inv.lt(I:Inv X pins σ H s):X.env.locals<s.heap.objs.size:=let ⟨_,hn,_⟩:=I.loc;hn.lt
theorem Inv.sz(I:Inv X pins σ H s):X.s₀.heap.objs.size <= s.heap.objs.size:=zzk I.ok.above (Nat.le_of_lt I.lt)
theorem Inv.nofs(I:Inv X pins σ H s){a:Addr}(h:s.heap.objs.size <= a):a∉X.fs:=fun hb=>by
 obtain⟨_,o,ho,_⟩:=I.ok.funs.mem hb
 exact absurd (zzz (zzq ho) (zzk I.sz h)) (zyi _)
theorem Inv.cne(I:Inv X pins σ H s):∀x c,X.env.cells.lookup x=some c->c≠X.env.locals:=fun x c e z=>by
 obtain⟨v,o,ho,hd⟩:=I.cell x c e
 obtain⟨m,⟨o',es,ep,ho',hd',_⟩,_⟩:=I.loc
 rw[z,ho']at ho;cases ho;rw[hd']at hd;cases hd
theorem Inv.funs(I:Inv X pins σ H s):s.heap.FunFrames X.base X.outer:=by
 have all:∀(l:List Env),(∀b∈frs l,b∈X.fs)->X.s₀.heap.FunFrames X.base l->s.heap.FunFrames X.base l:=by
  intro l
  induction l with
  |nil=>intro _ _;trivial
  |cons env r ih =>
   intro hs hl
   obtain⟨hk,⟨L,o,hf,hn,ho,hd⟩,hr⟩:=hl
   have hL:L∈X.fs:=hs L (by unfold frs;rw[zyD,hf];exact zzd)
   obtain⟨sl,e⟩:=I.base.slot L o ho (I.ok.frf L hL) hL fun z=>I.ok.exfs L z hL
   exact⟨hk,⟨L,_,hf,hn,e,hd⟩,ih (fun b hb=>hs b (by unfold frs;rw[zyD,hf];exact zzc _ hb)) hr⟩
 exact all X.outer (fun _ hb=>hb) I.ok.funs
theorem Inv.stack(I:Inv X pins σ H s):s.heap.FunFrames X.base X.stack:=by
 rcases I.ok.stk with e|⟨e,hf⟩
 ·rw[e];exact I.funs
 ·rw[e]
  obtain⟨m,hn,_⟩:=I.loc
  refine .cons (by rw[I.ok.kind];decide) hf hn ?_ I.funs
  exact Heap.get?_none_of_le (zzk I.ok.bsz I.ok.above)
theorem Inv.stkSub(I:Inv X pins σ H s):∀b∈frs X.stack,b∈X.env.locals::X.fs:=fun b hb=>by
 rcases I.ok.stk with e|⟨e,hf⟩
 ·rw[e]at hb;exact zzc _ hb
 ·rw[e]at hb
  unfold frs at hb
  rw[zyD,hf]at hb
  exact hb
theorem Inv.stkFree(I:Inv X pins σ H s):∀b∈frs X.stack,H b=none:=fun b hb=>by
 rcases zzi.mp (I.stkSub b hb) with e|hb
 ·rw[e];exact I.free
 ·obtain⟨_,o,ho,_⟩:=I.ok.funs.mem hb
  exact I.base.free b o ho (I.ok.frf b hb) fun z=>I.ok.exfs b z hb
theorem Inv.step{g':Array GenState}{t':Nat}{d':Drawn}{ch:List Addr}(I:Inv X pins σ H s)
  (hch:∀b∈ch,(b∈X.ex∨X.s₀.heap.objs.size <= b)/\b≠X.env.locals/\(∀x c,X.env.cells.lookup x=some c->c≠b)/\∀p∈X.pn++pins,p.1≠b)
  (keep:∀b o,b≠X.env.locals->b∉X.fs->b∉ch->s.heap.get? b=some o->H b=none->h'.get? b=some o)
  (slot:∀b o,b≠X.env.locals->b∈X.fs->b∉ch->s.heap.get? b=some o->H b=none->∃sl,h'.get? b=some { o with slots:=sl }) (free:∀b o,b∉ch->s.heap.get? b=some o->H b=none->H' b=none)
  (there:∀b o,b∉ch->s.heap.get? b=some o->∃o',h'.get? b=some o')
  (tups:∀b xs,H b=some (.tup xs)->H' b=some (.tup xs)) (frzs:∀b o u,H b=some (.frz o u)->H' b=some (.frz o u)) (tbls:∀b ps,H b=some (.tbl ps)->∃more,H' b=some (.tbl (ps++more)))
  (ns:∀m,s.heap.Ns X.env.locals m->h'.Ns X.env.locals m) (hok:HOk X.prog X.w H' h') (hg:AllBare g') :
  Inv X pins σ H' { s with heap:=h',gens:=g',drawn:=d',toks:=t' }:=by
 have neL:∀b o,X.s₀.heap.get? b=some o->b≠X.env.locals:=fun b o e=>zzA (zzz (zzq e) I.ok.above)
 have neC:∀b o,X.s₀.heap.get? b=some o->b∉X.ex->b∉ch:=fun b o e hx hb=>by
  rcases (hch b hb).1 with z|z
  ·exact hx z
  ·exact absurd (zzz (zzq e) z) (zyi _)
 have cellK:∀x c,X.env.cells.lookup x=some c->∀v,s.heap.IsCell c v->h'.IsCell c v:=fun x c e v ⟨o,ho,hd⟩=>by
  have nch:c∉ch:=fun z=>(hch c z).2.2.1 x c e rfl
  by_cases hc:c∈X.fs
  ·obtain⟨sl,q⟩:=slot c o (I.cne x c e) hc nch ho (I.freeC x c e)
   exact⟨_,q,hd⟩
  ·exact⟨o,keep c o (I.cne x c e) hc nch ho (I.freeC x c e),hd⟩
 refine⟨I.ok,I.os,hg,⟨fun b o e n hb hx=>?_,fun b o e n hb hx=>?_,fun b o e n hx=>?_,fun b o e hx=>?_,fun b xs e=>tups b xs (I.base.tups b xs e),fun b o xs e=>frzs b o xs (I.base.frzs b o xs e),fun b ps e=>?_⟩,?_,fun x c e=>?_,?_,fun x c e=>?_,fun p hp=>?_,hok,I.len⟩
 ·exact keep b o (neL b o e) hb (neC b o e hx) (I.base.keep b o e n hb hx) (I.base.free b o e n hx)
 ·obtain⟨sl,e1⟩:=I.base.slot b o e n hb hx
  obtain⟨sl',e2⟩:=slot b _ (neL b o e) hb (neC b o e hx) e1 (I.base.free b o e n hx)
  exact⟨sl',e2⟩
 ·obtain⟨o',e1⟩:=I.base.there b o e hx
  exact free b o' (neC b o e hx) e1 (I.base.free b o e n hx)
 ·obtain⟨o',e1⟩:=I.base.there b o e hx
  exact there b o' (neC b o e hx) e1
 ·obtain⟨m1,e1⟩:=I.base.tbls b ps e
  obtain⟨m2,e2⟩:=tbls b _ e1
  exact⟨m1++m2,by rw[e2,Array.append_assoc]⟩
 ·obtain⟨m,hn,hl⟩:=I.loc
  refine⟨m,ns m hn,fun i x v e1 e2 e3=>?_⟩
  obtain⟨u,r,l⟩:=hl i x v e1 e2 e3
  refine⟨u,r,?_⟩
  rcases l with l|⟨k,c,e,z⟩
  ·exact .inl l
  ·exact .inr ⟨k,c,e,cellK x c e _ z⟩
 ·obtain⟨v,z⟩:=I.cell x c e
  exact⟨v,cellK x c e v z⟩
 ·obtain⟨m,⟨o,_,_,ho,_⟩,_⟩:=I.loc
  exact free _ o (fun z=>(hch _ z).2.1 rfl) ho I.free
 ·obtain⟨v,o,ho,hd⟩:=I.cell x c e
  exact free c o (fun z=>(hch c z).2.2.1 x c e rfl) ho (I.freeC x c e)
 ·obtain⟨e,n,ne,nf,d⟩:=I.pin p hp
  have nch:p.1∉ch:=fun z=>(hch p.1 z).2.2.2 p hp rfl
  exact⟨keep p.1 p.2 ne nf nch e n,free p.1 p.2 nch e n,ne,nf,d⟩
theorem Inv.un{t':Nat}(I:Inv X pins σ H s)(u:Un X.fs [] H H' s.heap h')(hok:HOk X.prog X.w H' h'):Inv X pins σ H' { s with heap:=h',toks:=t' }:=by
 obtain⟨m,⟨o,es,ep,ho,r⟩,_⟩:=id I.loc
 obtain⟨sl,hL⟩:=u.any ho I.free (by simp)
 exact I.step (g':=s.gens) (d':=s.drawn) (ch:=[]) (fun _ z=>nomatch z) (fun b o _ hb _ e n=>u.keep b o e n hb (by simp)) (fun b o _ hb _ e n=>u.slot b o e n hb (by simp)) (fun b o _ e n=>u.free b o e n (by simp)) (fun b o _ e=>u.there b o e (by simp)) u.tups u.frzs u.tbls (fun m' hm=>by
  obtain⟨o',es',ep',ho',r'⟩:=hm
  rw[ho]at ho';cases ho'
  exact⟨_,es',ep',hL,r'⟩) hok I.bare
theorem Inv.call{g':Array GenState}{t':Nat}{d':Drawn}{ch:List Addr}(I:Inv X pins σ H s)(u:Un (frs X.stack) ch H H' s.heap h')(hok:HOk X.prog X.w H' h')(hg:AllBare g')
  (hch:∀b∈ch,(b∈X.ex∨X.s₀.heap.objs.size <= b)/\b≠X.env.locals/\(∀x c,X.env.cells.lookup x=some c->c≠b)/\∀p∈X.pn++pins,p.1≠b) :
  Inv X pins σ H' { s with heap:=h',gens:=g',drawn:=d',toks:=t' }:=by
 obtain⟨m,⟨o,es,ep,ho,r⟩,_⟩:=id I.loc
 obtain⟨sl,hL⟩:=u.any ho I.free fun z=>(hch _ z).2.1 rfl
 exact I.step (ch:=ch) hch (fun b o hL hb hc e n=>u.keep b o e n (fun z=>(zzi.mp (I.stkSub b z)).elim hL hb) hc) (fun b o _ _ hc e n=>u.any e n hc) (fun b o hc e n=>u.free b o e n hc) (fun b o hc e=>u.there b o e hc) u.tups u.frzs u.tbls (fun m' hm=>by
  obtain⟨o',es',ep',ho',r'⟩:=hm
  rw[ho]at ho';cases ho'
  exact⟨_,es',ep',hL,r'⟩) hok hg
theorem Inv.turned{t':Nat}{it:Addr}(I:Inv X pins σ H s)(k:∀b o,b≠it->s.heap.get? b=some o->h'.get? b=some o)(hn:H it=none)(hL:it≠X.env.locals)
  (h1:it∈X.ex∨X.s₀.heap.objs.size <= it) (h2:∀x c,X.env.cells.lookup x=some c->c≠it) (h3:∀p∈X.pn++pins,p.1≠it):Inv X pins σ H { s with heap:=h',toks:=t' }:=by
 have nit:∀b u,H b=some u->b≠it:=fun b u e z=>by rw[z,hn]at e;cases e
 refine I.step (g':=s.gens) (d':=s.drawn) (ch:=[it]) (fun b hb=>?_) (fun b o _ _ hc e _=>k b o (fun z=>hc (by simp[z])) e) (fun b o _ _ hc e _=>⟨o.slots,k b o (fun z=>hc (by simp[z])) e⟩) (fun _ _ _ _ n=>n)
  (fun b o hc e=>⟨o,k b o (fun z=>hc (by simp[z])) e⟩) (fun _ _ e=>e) (fun _ _ _ e=>e) (fun b ps e=>⟨#[],by rw[e];simp⟩) (fun m hm=>?_) (fun b u e=>?_) I.bare
 ·have e:b=it:=by simpa using hb
  subst e
  exact⟨h1,hL,h2,h3⟩
 ·obtain⟨o,es,ep,ho,r⟩:=hm
  exact⟨o,es,ep,k _ o (Ne.symm hL) ho,r⟩
 ·refine(I.hok b u e).stay (fun c v hc q=>k c v ?_ q) (fun _ q=>q) fun _ _ q=>q
  rcases hc with z|z
  ·rw[z];exact nit b u e
  ·exact nit c _ z
theorem Inv.tok(I:Inv X pins σ H s)(t:Nat):Inv X pins σ H { s with toks:=t }:=I.un (h':=s.heap) (t':=t) Un.refl I.hok
theorem Inv.kept{t':Nat}(I:Inv X pins σ H s)(k:∀b u,s.heap.get? b=some u->h'.get? b=some u):Inv X pins σ H { s with heap:=h',toks:=t' }:=I.un (Un.kept k) (I.hok.kept k)
theorem Inv.laid{a:Addr}{o:HO}{t':Nat}(I:Inv X pins σ H s)(k:∀b u,s.heap.get? b=some u->h'.get? b=some u)(hp:s.heap.objs.size <= a)(new:ObjOk X.prog X.w (upd H a o) h' a o) :
  Inv X pins σ (upd H a o) { s with heap:=h',toks:=t' }:=I.un (Un.laid k hp (I.hok.fresh hp)) (I.hok.laid k hp new)
theorem Inv.write{x e:Addr}{o:HO}{t':Nat}(I:Inv X pins σ H s)(mu:Mut (H x))(he:e=x∨H e=some (.own x))(k:∀b u,b≠e->s.heap.get? b=some u->h'.get? b=some u)(heo:∃u,h'.get? e=some u)
  (new:ObjOk X.prog X.w (upd H x o) h' x o):Inv X pins σ (upd H x o) { s with heap:=h',toks:=t' }:=I.un (Un.write mu he k heo) (I.hok.write mu he k heo new)
theorem Inv.pins_of{pins':List (Addr×Obj)}(I:Inv X pins σ H s)(h:∀p∈pins',s.heap.get? p.1=some p.2/\H p.1=none/\p.1≠X.env.locals/\p.1∉X.fs/\∀v,p.2.data ≠ .cell v):Inv X pins' σ H s :=
 ⟨I.ok,I.os,I.bare,I.base,I.loc,I.cell,I.free,I.freeC,fun p hp=>(zzx.mp hp).elim (fun z=>I.pin p (List.mem_append_left _ z)) (h p),I.hok,I.len⟩
theorem uc{N:List Str}(hN:N.Nodup){i j:Nat}{x:Str}(a:N[i]? = some x)(b:N[j]? = some x):i=j:=by
 obtain⟨h1,e1⟩:=zzt.mp a
 obtain⟨h2,e2⟩:=zzt.mp b
 exact(zyQ hN).mp (e1.trans e2.symm)
theorem qe{M:Model}{A:Around}{E:Value->Shared->Prop}{i:Nat}{x:Str}{v:V}{u:Value}{Q:Unit->Shared->Prop}(I:Inv X pins σ H s)(hN:X.N.Nodup)(hi:X.N[i]? = some x)(hx:Loc X.env.scope x)(r:RelV v u)
  (h:∀s',Inv X pins (σ.set i (some v)) H s'->(∃a,Heap.SameBut a s.heap s'.heap/\(a=X.env.locals∨X.env.cells.lookup x=some a))->Q () s') (hf:X.fn x=true∨X.env.scope.names.lookup x=some .local:=by first|exact .inl rfl|exact .inr rfl|assumption):wpAny M A (storeName X.env x u) Q E s:=by
 obtain⟨m,hn,hl⟩:=id I.loc
 have hcls:(X.env.scope.kind == .class || (X.env.scope.kind == .module && X.env.locals != X.env.globals))=false:=by rw[I.ok.kind];rfl
 have hiσ:i<σ.length:=by rw[I.len];exact(zzt.mp hi).1
 have cne:=I.cne
 have tracked:∀{a:Addr}{h':Heap},(∃o,s.heap.get? a=some o/\H a=none)->Heap.SameBut a s.heap h'->HOk X.prog X.w H h':=fun {a h'} ha hs b ob e=>by
  obtain⟨_,_,hfree⟩:=ha
  refine(I.hok b ob e).stay (fun c w' hc q=>(hs.2 c ?_).trans q) (fun _ q=>q) fun _ _ q=>q
  rintro rfl
  rcases hc with rfl|hc
  ·rw[hfree]at e;cases e
  ·rw[hfree]at hc;cases hc
 rcases hx with hk|hk
 ·refine wpAny_storeName_local hk hn (fun h' hn' hs=>?_) hcls
  obtain⟨oL,_,_,hoL,_⟩:=id hn
  refine h _ ⟨I.ok,I.os,I.bare,⟨fun b o e n hb hx=>?_,fun b o e n hb hx=>?_,I.base.free,fun b o e hx=>?_,I.base.tups,I.base.frzs,I.base.tbls⟩,⟨_,hn',fun j y v' e1 e2 e3=>?_⟩,fun y c e=>?_,I.free,I.freeC,fun p hp=>?_,tracked ⟨oL,hoL,I.free⟩ hs,by simpa using I.len⟩ ⟨_,hs,.inl rfl⟩
  ·exact(hs.2 b (zzA (zzz (zzq e) I.ok.above))).trans (I.base.keep b o e n hb hx)
  ·obtain⟨sl,e1⟩:=I.base.slot b o e n hb hx
   exact⟨sl,(hs.2 b (zzA (zzz (zzq e) I.ok.above))).trans e1⟩
  ·obtain⟨o',e1⟩:=I.base.there b o e hx
   exact⟨o',(hs.2 b (zzA (zzz (zzq e) I.ok.above))).trans e1⟩
  ·by_cases hj:j=i
   ·subst hj
    rw[hi]at e1;cases e1
    rw[zyH hiσ]at e2
    cases e2
    exact⟨u,r,.inl ⟨hk,by simp⟩⟩
   ·rw[zzC (Ne.symm hj)]at e2
    obtain⟨u',r',q⟩:=hl j y v' e1 e2 e3
    refine⟨u',r',?_⟩
    rcases q with ⟨k,e⟩|⟨k,c,e,z⟩
    ·refine .inl ⟨k,?_⟩
     have:y≠x:=fun e=>hj (uc hN e1 (e ▸ hi))
     simp[this,e]
    ·exact .inr ⟨k,c,e,z.sameBut hs (cne y c e)⟩
  ·obtain⟨w',z⟩:=I.cell y c e
   exact⟨w',z.sameBut hs (cne y c e)⟩
  ·obtain⟨e,n,ne,nf,d⟩:=I.pin p hp
   exact⟨(hs.2 p.1 ne).trans e,n,ne,nf,d⟩
 ·have hfn:X.fn x=true:=by
   rcases hf with z|z
   ·exact z
   ·rw[z]at hk;cases hk
  obtain⟨c,hc⟩:=I.ok.has x (.inl hk)
  obtain⟨w',z⟩:=I.cell x c hc
  refine wpAny_storeName_cell I.ok.kind hk hc z (fun h' hc' hs=>?_)
  obtain⟨oc,hoc,hocd⟩:=id z
  refine h { s with heap:=h' } ⟨I.ok,I.os,I.bare,⟨fun b o e n hb hx=>?_,fun b o e n hb hx=>?_,I.base.free,fun b o e hx=>?_,I.base.tups,I.base.frzs,I.base.tbls⟩,⟨m,hn.sameBut hs (Ne.symm (cne x c hc)),fun j y v' e1 e2 e3=>?_⟩,fun y c' e=>?_,I.free,I.freeC,fun p hp=>?_,tracked ⟨oc,hoc,I.freeC x c hc⟩ hs,by simpa using I.len⟩ ⟨c,hs,.inr hc⟩
  ·exact(hs.2 b (zzA (zzz (zzq e) (I.ok.cab x c hfn hc)))).trans (I.base.keep b o e n hb hx)
  ·obtain⟨sl,e1⟩:=I.base.slot b o e n hb hx
   exact⟨sl,(hs.2 b (zzA (zzz (zzq e) (I.ok.cab x c hfn hc)))).trans e1⟩
  ·obtain⟨o',e1⟩:=I.base.there b o e hx
   exact⟨o',(hs.2 b (zzA (zzz (zzq e) (I.ok.cab x c hfn hc)))).trans e1⟩
  ·by_cases hj:j=i
   ·subst hj
    rw[hi]at e1;cases e1
    rw[zyH hiσ]at e2
    cases e2
    exact⟨u,r,.inr ⟨.inl hk,c,hc,hc'⟩⟩
   ·rw[zzC (Ne.symm hj)]at e2
    obtain⟨u',r',q⟩:=hl j y v' e1 e2 e3
    refine⟨u',r',?_⟩
    rcases q with q|⟨k,c',e,z'⟩
    ·exact .inl q
    ·refine .inr ⟨k,c',e,z'.sameBut hs ?_⟩
     rintro rfl
     exact hj (uc hN e1 (I.ok.inj _ _ _ e hc ▸ hi))
  ·by_cases hcc:c'=c
   ·subst hcc;exact⟨_,hc'⟩
   ·obtain⟨w2,z2⟩:=I.cell y c' e
    exact⟨w2,z2.sameBut hs hcc⟩
  ·obtain⟨e,n,ne,nf,d⟩:=I.pin p hp
   refine⟨(hs.2 p.1 ?_).trans e,n,ne,nf,d⟩
   intro q
   rw[q,hoc]at e
   have q':oc=p.2:=zyj e
   exact d w' (by rw[←q'];exact hocd)
theorem ud{M:Model}{A:Around}{E:Value->Shared->Prop}{i:Nat}{x:Str}{v:V}{u:Value}{Q:Unit->Shared->Prop}(I:Inv X pins σ H s)(hN:X.N.Nodup)(hi:X.N[i]? = some x)(hx:Loc X.env.scope x)(r:RelV v u)
  (h:∀s',Inv X pins (σ.set i (some v)) H s'->Q () s') (hf:X.fn x=true∨X.env.scope.names.lookup x=some .local:=by first|exact .inl rfl|exact .inr rfl|assumption):wpAny M A (storeName X.env x u) Q E s :=
 qe I hN hi hx r (fun s' I' _=>h s' I') hf
theorem Inv.call'{s':Shared}{ch:List Addr}(I:Inv X pins σ H s)(ho:s'.os=s.os)(u:Un (frs X.stack) ch H H' s.heap s'.heap)(hok:HOk X.prog X.w H' s'.heap)(hg:AllBare s'.gens)
  (hch:∀b∈ch,(b∈X.ex∨X.s₀.heap.objs.size <= b)/\b≠X.env.locals/\(∀x c,X.env.cells.lookup x=some c->c≠b)/\∀p∈X.pn++pins,p.1≠b):Inv X pins σ H' s':=by
 obtain⟨h',g',d',t',o'⟩:=s'
 have e:o'=s.os:=ho
 subst e
 exact I.call (g':=g') (t':=t') (d':=d') u hok hg hch
end
abbrev XK:=Value->Option Addr->Hp->Prop
abbrev St:=List (Option V)
abbrev VK:=V->Hp->Prop
abbrev TE:=St->Hp->VK->Prop
abbrev TT:=St->Hp->(Bool->Hp->Prop)->Prop
abbrev TA:=St->Hp->(List V->Hp->Prop)->Prop
structure Ends where
 nx:St->Hp->Prop
 rt:VK
 bk:St->Hp->Prop:=fun _ _=>False
 ct:St->Hp->Prop:=fun _ _=>False
abbrev TS:=Ends->St->Hp->Prop
def EP(X:Cx)(pins:List (Addr×Obj))(σ:St)(Q:VK)(u:Value)(s':Shared):Prop:=∃v H',Inv X pins σ H' s'/\RelV v u/\Q v H'
def TP(X:Cx)(pins:List (Addr×Obj))(σ:St)(Q:Bool->Hp->Prop)(b:Bool)(s':Shared):Prop:=∃H',Inv X pins σ H' s'/\Q b H'
def AP(X:Cx)(pins:List (Addr×Obj))(σ:St)(Q:List V->Hp->Prop)(us:List Value)(s':Shared):Prop:=∃vs H',Inv X pins σ H' s'/\Vals vs us/\Q vs H'
def SP(X:Cx)(pins:List (Addr×Obj))(D:Ends)(f:Flow)(s':Shared):Prop :=
 match f with
 |.next=>∃σ' H',Inv X pins σ' H' s'/\D.nx σ' H'
 |.brk=>∃σ' H',Inv X pins σ' H' s'/\D.bk σ' H'
 |.cont=>∃σ' H',Inv X pins σ' H' s'/\D.ct σ' H'
 |.ret u=>∃v σ' H',Inv X pins σ' H' s'/\RelV v u/\D.rt v H'
def PE(X:Cx)(e:Expr)(t:TE):Prop :=
 ∀(pins:List (Addr×Obj)) (s:Shared) (σ:St) (H:Hp) (Q:VK),Inv X pins σ H s->t σ H Q->wpAny (model X.prog X.w) X.A (eval e X.env) (EP X pins σ Q) X.xe s
def PT(X:Cx)(e:Expr)(t:TT):Prop :=
 ∀(pins:List (Addr×Obj)) (s:Shared) (σ:St) (H:Hp) (Q:Bool->Hp->Prop),Inv X pins σ H s->t σ H Q->wpAny (model X.prog X.w) X.A (isTrue e X.env (eval e X.env)) (TP X pins σ Q) X.xe s
def PW(X:Cx)(e:Expr)(t:TT):Prop :=
 ∀(whole:Sem Value) (pins:List (Addr×Obj)) (s:Shared) (σ:St) (H:Hp) (Q:Bool->Hp->Prop),Inv X pins σ H s->t σ H Q->wpAny (model X.prog X.w) X.A (isTrue e X.env whole) (TP X pins σ Q) X.xe s
theorem PW.pt{X:Cx}{e:Expr}{t:TT}(h:PW X e t):PT X e t:=h _
def PA(X:Cx)(es:List Expr)(t:TA):Prop :=
 ∀(pos:Pos) (pins:List (Addr×Obj)) (s:Shared) (σ:St) (H:Hp) (Q:List V->Hp->Prop),Inv X pins σ H s->t σ H Q->wpAny (model X.prog X.w) X.A (spliced (backTo pos (starEach es X.env))) (AP X pins σ Q) X.xe s
def PS(X:Cx)(st:Stmt)(t:TS):Prop :=
 ∀(pins:List (Addr×Obj)) (s:Shared) (σ:St) (H:Hp) (D:Ends),Inv X pins σ H s->t D σ H->wpAny (model X.prog X.w) X.A (exec st X.env) (SP X pins D) X.xe s
def PSs(X:Cx)(st:List Stmt)(t:TS):Prop :=
 ∀(pins:List (Addr×Obj)) (s:Shared) (σ:St) (H:Hp) (D:Ends),Inv X pins σ H s->t D σ H->wpAny (model X.prog X.w) X.A (execs st X.env) (SP X pins D) X.xe s
theorem thn{α:Type}{t:Sem α}{Q Q':α->Shared->Prop}{M:Model}{A:Around}{E:Value->Shared->Prop}{s:Shared}(h:wpAny M A t Q E s)(hQ:∀a s,Q a s->Q' a s):wpAny M A t Q' E s:=wpAny_mono h hQ fun _ _ x=>x
section
variable{X:Cx}
def tVar(i:Nat):TE:=fun σ H Q=>∃v,σ[i]? = some (some v)/\Q v H
def tC(v:V):TE:=fun _ H Q=>Q v H
theorem Eg{i:Nat}{x:Str}{pos:Pos}(hN:X.N[i]? = some x)(hv:Vis X.env.scope x)(hd:(x == ("__debug__" : Str))=false:=by decide)(hcd:(x == ("__classdict__" : Str))=false:=by decide):PE X (.Name x pos) (tVar i):=by
 intro pins s σ H Q I h
 obtain⟨v,e,h⟩:=h
 obtain⟨m,hn,hl⟩:=I.loc
 obtain⟨u,r,l⟩:=hl i x v hN e hv
 have fin:EP X pins σ Q u s:=⟨v,H,I,r,h⟩
 rcases l with ⟨hk,hm⟩|⟨hk,c,hc,hcell⟩
 ·exact wpAny_Name (wpAny_loadName_local I.ok.kind hk hn hm fin) hd
 ·rcases hk with hk|hk
  ·exact wpAny_Name (wpAny_loadName_cell I.ok.kind hk hc hcell fin) hd
  ·exact wpAny_Name (wpAny_loadName_free I.ok.kind hk hc hcell fin hcd) hd
theorem bO{i j pos}:PE X (.Constant (.int i) j pos) (tC (.int i)):=fun _ _ _ H _ I h=>wpAny_Constant_int ⟨.int i,H,I.tok _,⟨_,rfl⟩,h⟩
theorem Gy{b j pos}:PE X (.Constant (.bool b) j pos) (tC (.bl b)):=fun _ _ _ H _ I h=>Constant_bool ⟨.bl b,H,I,rfl,h⟩
theorem Eh{j pos}:PE X (.Constant .none j pos) (tC .non):=fun _ _ _ H _ I h=>Constant_none ⟨.non,H,I,rfl,h⟩
theorem Ei{x j pos}:PE X (.Constant (.str x) j pos) (tC (.str x)):=fun _ _ _ H _ I h=>Calls.Constant_str ⟨.str x,H,I.tok _,⟨_,rfl⟩,h⟩
def Gl(X:Cx)(x:Str):Prop:=X.env.kindOf x=some .globalImplicit
theorem wP{E:Value->Shared->Prop}{pins:List (Addr×Obj)}{s:Shared}{σ:St}{H:Hp}{x:Str}{u:Value}{pos:Pos}{Q:Value->Shared->Prop}(I:Inv X pins σ H s)(hg:Gl X x)(hm:X.mg x=some u)(h:Q u s)
  (hd:(x == ("__debug__" : Str))=false:=by decide):wpAny (model X.prog X.w) X.A (eval (.Name x pos) X.env) Q E s :=
 Calls.Name_function_global I.ok.kind hg (Calls.loadGlobal_global (by rw[I.ok.glob];exact I.mod.glob.keeps I.bk) hm h) hd
theorem gw{E:Value->Shared->Prop}{pins:List (Addr×Obj)}{s:Shared}{σ:St}{H:Hp}{x:Str}{u:Value}{pos:Pos}{Q:Value->Shared->Prop}(I:Inv X pins σ H s)(hg:Gl X x)(hm:X.mg x=none)(hv:bootBuiltins x=some u)(h:Q u s)
  (hn:x ≠ "__name__":=by decide) (hd:(x == ("__debug__" : Str))=false:=by decide):wpAny (model X.prog X.w) X.A (eval (.Name x pos) X.env) Q E s:=by
 obtain⟨mb,h1,h2⟩:=I.mod.blt
 exact Calls.Name_function_global I.ok.kind hg (Calls.loadGlobal_builtin (by rw[I.ok.glob];exact I.mod.glob.keeps I.bk) hm (by rw[I.ok.blt];exact h1.keeps I.bk) ((h2 x hn).trans hv) h) hd
theorem BY{x:Str}{v:V}{u:Value}{pos:Pos}(hg:Gl X x)(hm:X.mg x=some u)(r:RelV v u)(hd:(x == ("__debug__" : Str))=false:=by decide):PE X (.Name x pos) (tC v) :=
 fun _ _ _ H _ I h=>wP I hg hm ⟨v,H,I,r,h⟩ hd
theorem BZ{x:Str}{v:V}{u:Value}{pos:Pos}(hg:Gl X x)(hm:X.mg x=none)(hv:bootBuiltins x=some u)(r:RelV v u)(hn:x ≠ "__name__":=by decide)(hd:(x == ("__debug__" : Str))=false:=by decide):PE X (.Name x pos) (tC v) :=
 fun _ _ _ H _ I h=>gw I hg hm hv ⟨v,H,I,r,h⟩ hn hd
variable{a b:Expr}{ta tb:TE}{pos:Pos}
def tB(t:TE):TT:=fun σ H Q=>t σ H fun x H1=>∃c,x=.bl c/\Q c H1
theorem Ej{e:Expr}{t:TE}(h:PE X e t)(he:∀whole,isTrue e X.env whole=(do let v ←whole;standAt e.pos;holding [v] (truthy v)):=by intro _;rfl):PT X e (tB t):=by
 intro pins s σ H Q I hw
 refine isTrue_plain (thn (h pins s σ H _ I hw) fun v s1 ⟨x,H1,I1,r1,q1⟩=>?_) (he _)
 obtain⟨d,rfl,q⟩:=q1
 cases r1
 exact wpAny_truthy_bool ⟨H1,I1,q⟩
variable{tA tB':TT}{rest:List Expr}
def tOr(t u:TT):TT:=fun σ H Q=>t σ H fun c H1=>if c=true then Q true H1 else u σ H1 Q
def tNot(t:TT):TT:=fun σ H Q=>t σ H fun c H1=>Q (!c) H1
theorem Bf(ha:PT X a tA):PW X (.BoolOp .Or [a] pos) tA:=by
 intro wh pins s σ H Q I h
 refine isTrue_or (thn (ha pins s σ H Q I h) fun c s1 e=>?_)
 cases c with
 |false=>exact isTrue_or_nil e
 |true=>exact e
theorem Ek(ha:PT X a tA)(hb:PW X (.BoolOp .Or (b::rest) pos) tB'):PW X (.BoolOp .Or (a::b::rest) pos) (tOr tA tB'):=by
 intro wh pins s σ H Q I h
 refine isTrue_or (thn (ha pins s σ H _ I h) fun c s1 ⟨H1,I1,q1⟩=>?_)
 cases c with
 |true=>exact⟨H1,I1,q1⟩
 |false=>exact hb wh pins s1 σ H1 Q I1 q1
theorem El(ha:PT X a tA):PT X (.UnaryOp .Not a pos) (tNot tA):=by
 intro pins s σ H Q I h
 exact isTrue_not (ha pins s σ H (fun c H1=>Q (!c) H1) I h)
def Gz(ta tb:TE):TE:=fun σ H Q=>ta σ H fun x H1=>∃c,x=.bl c/\if c=true then tb σ H1 Q else Q (.bl false) H1
def GA(ta:TE):TE:=fun σ H Q=>ta σ H fun x H1=>∃c,x=.bl c/\Q (.bl (!c)) H1
theorem Em{op}{t:TE}(h:PE X a t):PE X (.BoolOp op [a] pos) t:=fun pins s σ H Q I hw=>BoolOp_one (h pins s σ H Q I hw)
theorem En(ha:PE X a ta)(hb:PE X (.BoolOp .And (b::rest) pos) tb):PE X (.BoolOp .And (a::b::rest) pos) (Gz ta tb):=by
 intro pins s σ H Q I h
 refine BoolOp_and (thn (ha pins s σ H _ I h) fun v s1 ⟨x,H1,I1,r1,q1⟩=>?_)
 obtain⟨c,rfl,q1⟩:=q1
 cases r1
 refine wpAny_truthy_bool ?_
 cases c with
 |true=>exact hb pins s1 σ H1 Q I1 q1
 |false=>exact⟨.bl false,H1,I1,rfl,q1⟩
theorem Eo(ha:PE X a ta):PE X (.UnaryOp .Not a pos) (GA ta):=by
 intro pins s σ H Q I h
 refine UnaryOp_ (thn (ha pins s σ H _ I h) fun v s1 ⟨x,H1,I1,r1,q1⟩=>?_)
 obtain⟨c,rfl,q1⟩:=q1
 cases r1
 exact not_of (wpAny_truthy_bool ⟨.bl (!c),H1,I1,rfl,q1⟩)
def tIf(t:TT)(ta tb:TE):TE:=fun σ H Q=>t σ H fun c H1=>if c=true then ta σ H1 Q else tb σ H1 Q
theorem ue{c:Expr}(hc:PT X c tA)(ha:PE X a ta)(hb:PE X b tb):PE X (.IfExp c a b pos) (tIf tA ta tb):=by
 intro pins s σ H Q I h
 refine wpAny_IfExp (thn (hc pins s σ H _ I h) fun d s1 ⟨H1,I1,q1⟩=>?_)
 cases d with
 |true=>exact ha pins s1 σ H1 Q I1 q1
 |false=>exact hb pins s1 σ H1 Q I1 q1
end
def SqL(K:PySem.W.Frag)(H:Hp)(a:Addr)(xs:List V):Prop :=
 Rd H a (.lst xs) ∨
  ∃(o:Obj) (its:Array Value) (n:Nat),K.lookup a=some o/\o.cls=.type "list" /\ o.dict=none/\o.data=.seq its n/\its.size <= sizeLine/\Vals xs its.toList
def SqT(K:PySem.W.Frag)(H:Hp)(a:Addr)(xs:List V):Prop :=
 Rd H a (.tup xs) ∨
  ∃(o:Obj) (its:Array Value) (n:Nat),K.lookup a=some o/\o.cls=.type "tuple" /\ o.data=.seq its n/\its.size <= sizeLine/\Vals xs its.toList
def absV:Value->Option V
 |.none=>some .non
 |.bool b=>some (.bl b)
 |.int i _=>some (.int i)
 |.str x _=>some (.str x)
 |.bytes b _=>some (.byt b)
 |.float b _=>some (.flt b)
 |.ref a=>some (.ref a)
 |.type n=>some (.ty n)
 |_=>none
theorem RelV.abs{x:V}{u:Value}(r:RelV x u):absV u=some x:=by
 cases x with
 |non=>cases r;rfl
 |bl _=>cases r;rfl
 |int _=>obtain⟨t,rfl⟩:=r;rfl
 |str _=>obtain⟨t,rfl⟩:=r;rfl
 |byt _=>obtain⟨t,rfl⟩:=r;rfl
 |flt _=>obtain⟨t,rfl⟩:=r;rfl
 |ref _=>cases r;rfl
 |ty _=>cases r;rfl
theorem RelV.inj{x y:V}{u:Value}(r:RelV x u)(q:RelV y u):x=y:=zyj (r.abs.symm.trans q.abs)
theorem Vals.inj:∀{xs ys:List V}{us:List Value},Vals xs us->Vals ys us->xs=ys
 |_,_,_,.nil,.nil=>rfl
 |_,_,_,.cons r t,.cons r' t'=>by rw[r.inj r',Vals.inj t t']
section
variable{X:Cx}{pins:List (Addr×Obj)}{σ:St}{H:Hp}{s:Shared}{a:Addr}{xs ys:List V}
theorem SqL.of{K:PySem.W.Frag}(h:H a=some (.lst xs)):SqL K H a xs:=.inl (.inl h)
theorem SqT.of{K:PySem.W.Frag}(h:H a=some (.tup xs)):SqT K H a xs:=.inl (.inl h)
theorem Inv.list(I:Inv X pins σ H s)(h:SqL X.K H a xs):∃its:List Value,Vals xs its/\PlainL s.heap a its.toArray/\xs.length <= sizeLine:=by
 rcases h with h|⟨o,its,n,hk,hc,hd,hs,hz,r⟩
 ·obtain⟨z,its,n,r,e⟩:=h.ok I.hok
  exact⟨its,r,⟨_,n,e,rfl,rfl,rfl⟩,z⟩
 ·refine⟨its.toList,r,⟨o,n,I.kIn a o hk,hc,hd,by simpa using hs⟩,?_⟩
  have e:=r.length
  simp only[zyE]at e
  omega
theorem Inv.tuple(I:Inv X pins σ H s)(h:SqT X.K H a xs):∃its:List Value,Vals xs its/\IsTup s.heap a its.toArray/\xs.length <= sizeLine:=by
 rcases h with h|⟨o,its,n,hk,hc,hs,hz,r⟩
 ·obtain⟨z,its,r,p⟩:=h.ok I.hok
  exact⟨its,r,p,z.1⟩
 ·refine⟨its.toList,r,⟨o,I.kIn a o hk,hc,n,by simpa using hs⟩,?_⟩
  have e:=r.length
  simp only[zyE]at e
  omega
theorem Inv.list_inj(I:Inv X pins σ H s)(h:SqL X.K H a xs)(h':SqL X.K H a ys):xs=ys:=by
 obtain⟨its,r,⟨o,n,e,_,_,d⟩,_⟩:=I.list h
 obtain⟨its',r',⟨o',n',e',_,_,d'⟩,_⟩:=I.list h'
 rw[e]at e';cases e'
 rw[d]at d'
 injection d' with d1 _
 have:its=its':=by simpa using congrArg Array.toList d1
 subst this
 exact r.inj r'
theorem Inv.tuple_inj(I:Inv X pins σ H s)(h:SqT X.K H a xs)(h':SqT X.K H a ys):xs=ys:=by
 obtain⟨its,r,⟨o,e,_,n,d⟩,_⟩:=I.tuple h
 obtain⟨its',r',⟨o',e',_,n',d'⟩,_⟩:=I.tuple h'
 rw[e]at e';cases e'
 rw[d]at d'
 injection d' with d1 _
 have:its=its':=by simpa using congrArg Array.toList d1
 subst this
 exact r.inj r'
end
abbrev Cx.wish(X:Cx)(E:Value->Shared->Prop):Cx:={ X with xe:=E }
abbrev Cx.nox(X:Cx):Cx:=X.wish fun _ _=>False
theorem Cx.Ok.wish{X:Cx}(ok:X.Ok)(E:Value->Shared->Prop):(X.wish E).Ok :=
 ⟨ok.mod,ok.kind,ok.glob,ok.blt,ok.above,ok.inj,ok.has,ok.cab,ok.hd,ok.frames,ok.stk,ok.exf,ok.bs,ok.bsz,ok.noex,ok.exfs,ok.funs,ok.frf⟩
theorem Cx.Ok.unwish{X:Cx}{E:Value->Shared->Prop}(ok:(X.wish E).Ok):X.Ok :=
 ⟨ok.mod,ok.kind,ok.glob,ok.blt,ok.above,ok.inj,ok.has,ok.cab,ok.hd,ok.frames,ok.stk,ok.exf,ok.bs,ok.bsz,ok.noex,ok.exfs,ok.funs,ok.frf⟩
section
variable{X:Cx}{pins:List (Addr×Obj)}{σ:St}{H:Hp}{s:Shared}{E:Value->Shared->Prop}
theorem Inv.wish(I:Inv X pins σ H s)(E:Value->Shared->Prop):Inv (X.wish E) pins σ H s:=⟨I.ok.wish E,I.os,I.bare,I.base,I.loc,I.cell,I.free,I.freeC,I.pin,I.hok,I.len⟩
theorem Inv.unwish(I:Inv (X.wish E) pins σ H s):Inv X pins σ H s:=⟨I.ok.unwish,I.os,I.bare,I.base,I.loc,I.cell,I.free,I.freeC,I.pin,I.hok,I.len⟩
theorem SP.unwish{D:Ends}{f:Flow}{s':Shared}(h:SP (X.wish E) pins D f s'):SP X pins D f s':=by
 cases f with
 |next=>obtain⟨σ',H',I,q⟩:=h;exact⟨σ',H',I.unwish,q⟩
 |brk=>obtain⟨σ',H',I,q⟩:=h;exact⟨σ',H',I.unwish,q⟩
 |cont=>obtain⟨σ',H',I,q⟩:=h;exact⟨σ',H',I.unwish,q⟩
 |ret u=>obtain⟨v,σ',H',I,r,q⟩:=h;exact⟨v,σ',H',I.unwish,r,q⟩
theorem PSs.nox{st:List Stmt}{t:TS}(h:PSs X.nox st t):PSs X st t:=fun pins s σ H D I hw =>
 wpAny_mono (h pins s σ H D (I.wish _) hw) (fun _ _ q=>q.unwish) fun _ _ z=>False.elim z
end
section
variable{X:Cx}{st:Stmt}{rest:List Stmt}{t u:TS}{e:Expr}{te:TE}{pos:Pos}
def GB:TS:=fun D σ H=>D.nx σ H
def tSeq(t u:TS):TS:=fun D σ H=>t { D with nx:=u D } σ H
theorem kZ:PSs X [] GB:=fun _ _ σ H _ I h=>wpAny_execs_nil ⟨σ,H,I,h⟩
theorem bA(h1:PS X st t)(h2:PSs X rest u):PSs X (st::rest) (tSeq t u):=by
 intro pins s σ H D I h
 refine wpAny_execs_cons (thn (h1 pins s σ H { D with nx:=u D } I h) fun f s1 q=>?_)
 cases f with
 |next =>
  obtain⟨σ',H',I',q⟩:=q
  exact h2 pins s1 σ' H' D I' q
 |ret v=>exact q
 |brk=>exact q
 |cont=>exact q
theorem eG(h1:PS X st t):PSs X [st] t:=by
 intro pins s σ H D I h
 refine wpAny_execs_cons (thn (h1 pins s σ H D I h) fun f s1 q=>?_)
 cases f with
 |next=>exact wpAny_execs_nil q
 |ret v=>exact q
 |brk=>exact q
 |cont=>exact q
theorem Inv.quiet{pins:List (Addr×Obj)}{σ:St}{H:Hp}{s:Shared}(I:Inv X pins σ H s):interactive X.env=false:=by simp[interactive,I.ok.kind]
def GC(te:TE):TS:=fun D σ H=>te σ H fun _ H1=>D.nx σ H1
theorem oj(he:PE X e te)(hs:swapsWith e none pos.line X.env=pure false:=by rfl):PS X (.Expr e pos) (GC te):=by
 intro pins s σ H D I h
 exact wpAny_Expr_any (thn (he pins s σ H _ I h) fun v s1 ⟨x,H1,I1,r1,q1⟩=>⟨σ,H1,I1,q1⟩) I.quiet hs
def tRet(te:TE):TS:=fun D σ H=>te σ H D.rt
theorem lc(he:PE X e te):PS X (.Return (some e) pos) (tRet te):=by
 intro pins s σ H D I h
 exact wpAny_Return_some (thn (he pins s σ H _ I h) fun v s1 ⟨x,H1,I1,r1,q1⟩=>⟨x,σ,H1,I1,r1,q1⟩)
def tIfS(c:TT)(t u:TS):TS:=fun D σ H=>c σ H fun b H1=>if b=true then t D σ H1 else u D σ H1
theorem wQ{c:Expr}{a b:List Stmt}{tc:TT}(hc:PT X c tc)(ha:PSs X a t)(hb:PSs X b u):PS X (.If c a b pos) (tIfS tc t u):=by
 intro pins s σ H D I h
 refine wpAny_If (thn (hc pins s σ H _ I h) fun d s1 ⟨H1,I1,q1⟩=>?_)
 cases d with
 |true=>exact ha pins s1 σ H1 D I1 q1
 |false=>exact hb pins s1 σ H1 D I1 q1
def Ep:TS:=fun _ _ _=>False
theorem zB:PS X st Ep:=fun _ _ _ _ _ _ h=>h.elim
end
abbrev TG:=V->St->Hp->(St->Hp->Prop)->Prop
abbrev TGs:=List V->St->Hp->(St->Hp->Prop)->Prop
def PG(X:Cx)(target:Expr)(t:TG):Prop :=
 ∀(pins:List (Addr×Obj)) (s:Shared) (σ:St) (H:Hp) (v:V) (u:Value) (Q:St->Hp->Prop),Inv X pins σ H s->RelV v u->t v σ H Q ->
  wpAny (model X.prog X.w) X.A (assign target X.env u) (fun _ s'=>∃σ' H',Inv X pins σ' H' s'/\Q σ' H') X.xe s
def PGs(X:Cx)(ts:List Expr)(t:TGs):Prop :=
 ∀(pins:List (Addr×Obj)) (s:Shared) (σ:St) (H:Hp) (vs:List V) (us:List Value) (Q:St->Hp->Prop),Inv X pins σ H s->Vals vs us->t vs σ H Q ->
  wpAny (model X.prog X.w) X.A (assignInOrder ((assignEach ts X.env).map (·.2)) us) (fun _ s'=>∃σ' H',Inv X pins σ' H' s'/\Q σ' H') X.xe s
abbrev TSet:=V->V->V->Hp->(Hp->Prop)->Prop
def PSet(X:Cx)(t:TSet):Prop :=
 ∀(pins:List (Addr×Obj)) (s:Shared) (σ:St) (H:Hp) (o i v:V) (ov iv u:Value) (Q:Hp->Prop),Inv X pins σ H s->RelV o ov->RelV i iv->RelV v u->t o i v H Q ->
  wpAny (model X.prog X.w) X.A (setItem ov iv u) (fun _ s'=>∃H',Inv X pins σ H' s'/\Q H') X.xe s
section
variable{X:Cx}{pos:Pos}
def wR(i:Nat):TG:=fun v σ H Q=>Q (σ.set i (some v)) H
theorem ol{i:Nat}{x:Str}(hN:X.N.Nodup)(hi:X.N[i]? = some x)(hx:Loc X.env.scope x)(hf:X.fn x=true∨X.env.scope.names.lookup x=some .local:=by first|exact .inl rfl|exact .inr rfl|assumption):PG X (.Name x pos) (wR i):=by
 intro pins s σ H v u Q I r h
 exact wpAny_assign_Name (ud I hN hi hx r (fun s' I'=>⟨_,H,I',h⟩) hf)
def gNil:TGs:=fun vs σ H Q=>vs=[]/\Q σ H
def GD(t:TG)(u:TGs):TGs:=fun vs σ H Q=>∃v r,vs=v::r/\t v σ H fun σ' H'=>u r σ' H' Q
theorem wT:PGs X [] gNil:=by
 intro pins s σ H vs us Q I r h
 obtain⟨e,h⟩:=h
 subst e
 cases r
 exact assignInOrder_nil ⟨σ,H,I,h⟩
theorem kH{e:Expr}{es:List Expr}{t:TG}{u:TGs}(h1:PG X e t)(h2:PGs X es u)
  (hs:(assignEach (e::es) X.env).map (·.2)=assign e X.env::(assignEach es X.env).map (·.2):=by rfl):PGs X (e::es) (GD t u):=by
 intro pins s σ H vs us Q I r h
 obtain⟨v,vr,e1,h⟩:=h
 subst e1
 cases r with
 |cons r rr =>
  rw[hs]
  refine assignInOrder_cons (thn (h1 pins s σ H _ _ _ I r h) fun _ s1 ⟨σ1,H1,I1,q1⟩=>?_)
  exact h2 pins s1 σ1 H1 _ _ Q I1 rr q1
def gTup(K:PySem.W.Frag)(n:Nat)(t:TGs):TG:=fun v σ H Q=>∃a xs,v=.ref a/\SqT K H a xs/\xs.length=n/\t xs σ H Q
theorem Er{es:List Expr}{k:Nat}{t:TGs}{n:Nat}(hc:X.calm=true)(h:PGs X es t)
  (hn:(assignEach es X.env).length=n:=by rfl) (hst:(assignEach es X.env).findIdx? (·.1)=none:=by rfl):PG X (.Tuple es k pos) (gTup X.K n t):=by
 intro pins s σ H v u Q I r hw
 obtain⟨a,xs,e1,hq,hl,hw⟩:=hw
 subst e1
 cases r
 obtain⟨its,rv,ht,hz⟩:=I.tuple hq
 refine assign_Tuple_tuple (I.ok.hd hc) ht (by simp[hn,←hl,rv.length]) hst fun h' hx=>?_
 have I1:Inv X pins σ H { s with heap:=h' }:=I.kept (t':=s.toks) fun b o e=>hx b o (zzA (zzq e)) e
 exact h pins _ σ H xs _ Q I1 (by simpa using rv) hw
def gSub(to ti:TE)(t:TSet):TG:=fun v σ H Q=>to σ H fun o H1=>ti σ H1 fun i H2=>t o i v H2 fun H3=>Q σ H3
theorem wU{o i:Expr}{to ti:TE}{t:TSet}(ho:PE X o to)(hi:PE X i ti)(hs:PSet X t)
  (ha:∀v,assign (.Subscript o i pos) X.env v=(do
   let ov ←holding [v] (eval o X.env)
   let iv ←holding [v,ov] (eval i X.env)
   standAt pos
   holding [v,ov,iv] (setItem ov iv v)
   release [v,ov,iv] []):=by intro _;rfl):PG X (.Subscript o i pos) (gSub to ti t):=by
 intro pins s σ H v u Q I r h
 rw[ha]
 refine wpAny_bind (wpAny_holding (thn (ho pins s σ H _ I h) fun ov s1 ⟨x,H1,I1,r1,q1⟩=>?_))
 refine wpAny_bind (wpAny_holding (thn (hi pins s1 σ H1 _ I1 q1) fun iv s2 ⟨y,H2,I2,r2,q2⟩=>?_))
 refine wpAny_bind (wpAny_standAt (wpAny_bind (wpAny_holding (thn (hs pins s2 σ H2 x y v ov iv u _ I2 r1 r2 r q2) fun _ s3 ⟨H3,I3,q3⟩=>?_))))
 exact wpAny_release ⟨σ,H3,I3,q3⟩
def tAsg(te:TE)(g:TG):TS:=fun D σ H=>te σ H fun x H1=>g x σ H1 D.nx
theorem qf{tg e:Expr}{te:TE}{g:TG}(he:PE X e te)(hg:PG X tg g)(hs:swapsWithSole [tg] e pos.line X.env=pure false:=by rfl)(hw:swappedStores [tg] e X.env=pure none:=by rfl)
  (h1:(assignEach [tg] X.env).map (·.2)=[assign tg X.env]:=by rfl):PS X (.Assign [tg] e pos) (tAsg te g):=by
 intro pins s σ H D I h
 refine wpAny_Assign_stores (thn (he pins s σ H _ I h) fun v s1 ⟨x,H1,I1,r1,q1⟩=>?_) hs hw
 rw[h1]
 exact thn (hg pins s1 σ H1 x v _ I1 r1 q1) fun _ s2 q=>q
theorem ip{i:Nat}{x:Str}{e:Expr}{te:TE}{pos':Pos}(hN:X.N.Nodup)(hi:X.N[i]? = some x)(hx:Loc X.env.scope x)(he:PE X e te)(hs:swapsWith e (some (.Name x pos')) pos.line X.env=pure false:=by rfl)(hf:X.fn x=true∨X.env.scope.names.lookup x=some .local:=by first|exact .inl rfl|exact .inr rfl|assumption) :
  PS X (.Assign [.Name x pos'] e pos) (tAsg te (wR i)):=by
 intro pins s σ H D I h
 refine wpAny_Assign_Name (thn (he pins s σ H _ I h) fun v s1 ⟨y,H1,I1,r1,q1⟩=>?_) hs
 exact ud I1 hN hi hx r1 (fun s2 I2=>⟨_,H1,I2,q1⟩) hf
def Es(c:TT)(tb:TS):TS:=fun D σ H=>∃W:Nat->St->Hp->Prop,(∃m,W m σ H)/\∀m σ H,W m σ H ->
 c σ H fun b H1=>if b=true then ∃N:St->Hp->Prop,(∀σ' H',N σ' H'->∃m',m'<m/\W m' σ' H')/\tb { D with nx:=N,ct:=N,bk:=D.nx } σ H1 else D.nx σ H1
theorem zC{c:Expr}{body:List Stmt}{tc:TT}{tb:TS}(hp:PassesOwn (model X.prog X.w) X.A X.env X.xe)(hc:PT X c tc)(hb:PSs X body tb):PS X (.While c body [] pos) (Es tc tb):=by
 intro pins s σ H D I h
 obtain⟨W,⟨m0,w0⟩,turn⟩:=h
 refine wpAny_While (codeAny_whileLoop (fun n s'=>∃σ' H',Inv X pins σ' H' s'/\W n σ' H') ?_ m0 ⟨σ,H,I,w0⟩)
 rintro n s1 ⟨σ1,H1,I1,w1⟩
 refine wpAny_passesOwn hp (thn (hc pins s1 σ1 H1 _ I1 (turn n σ1 H1 w1)) fun b s2 ⟨H2,I2,q2⟩=>?_)
 cases b with
 |true =>
  obtain⟨N,hN,q2⟩:=q2
  rw[if_pos rfl]
  refine wpAny_passesOwn hp (thn (hb pins s2 σ1 H2 _ I2 q2) fun f s3 q3=>?_)
  cases f with
  |next =>
   obtain⟨σ3,H3,I3,n3⟩:=q3
   obtain⟨m',hm,w3⟩:=hN σ3 H3 n3
   exact⟨m',hm,σ3,H3,I3,w3⟩
  |cont =>
   obtain⟨σ3,H3,I3,n3⟩:=q3
   obtain⟨m',hm,w3⟩:=hN σ3 H3 n3
   exact⟨m',hm,σ3,H3,I3,w3⟩
  |brk=>exact q3
  |ret v=>exact q3
 |false =>
  rw[if_neg zzu]
  exact wpAny_execs_nil ⟨σ1,H2,I2,q2⟩
end
structure It where
 go:Nat->Hp->Prop
 yld:Nat->Hp->V->Hp->Prop
 stop:Nat->Hp->Prop
def FpOk(X:Cx)(pins:List (Addr×Obj))(H:Hp)(b:Addr):Prop :=
 H b=none/\b≠X.env.locals/\b∉X.fs/\(b∈X.ex∨X.s₀.heap.objs.size <= b)/\(∀x c,X.env.cells.lookup x=some c->c≠b)/\∀p∈X.pn++pins,p.1≠b
theorem Inv.fpOk{X:Cx}{pins:List (Addr×Obj)}{σ:St}{H H':Hp}{s:Shared}{b:Addr}(I:Inv X pins σ H s)(hb:s.heap.objs.size <= b)(hn:H' b=none):FpOk X pins H' b:=by
 refine⟨hn,zyA (zzz I.lt hb),I.nofs hb,.inr (zzk I.sz hb),fun x c e z=>?_,fun p hp z=>?_⟩
 ·obtain⟨v,q⟩:=I.cell x c e
  exact absurd (zzz q.lt (by rw[z];exact hb)) (zyi _)
 ·exact absurd (zzz (zzq (I.pin p hp).1) (by rw[z];exact hb)) (zyi _)
structure Turn(P:Program)(w:World)(K:PySem.W.Frag)(tg:Expr)(J:It)(fp:List Addr)(it:Addr)(tn:Nat->Heap->Prop):Prop where
 mem:it∈fp
 obj:∀i h,tn i h->∀b∈fp,∃o,h.get? b=some o/\∀v,o.data ≠ .cell v
 keep:∀i h h',tn i h->(∀b∈fp,∀o,h.get? b=some o->h'.get? b=some o)->tn i h'
 item:∀(X:Cx),X.prog=P->X.w=w->X.K=K->X.calm=true->∀(i:Nat) (pins:List (Addr×Obj)) (s:Shared) (σ:St) (H:Hp) (E:Value->Shared->Prop),Inv X pins σ H s->(∀b∈fp,FpOk X pins H b)->tn i s.heap->J.go i H ->
  wpAny (model P w) X.A (pyNext (.ref it)) (fun r s1=>∃u,r=some u /\
   wpAny (model P w) X.A (letOwnedTupleGo tg (.ref it) u) (fun _ s2=>∃x H',Inv X pins σ H' s2/\RelV x u/\J.yld i H x H'/\tn (i+1) s2.heap/\∀b∈fp,H' b=none) E s1) E s
 done:∀(X:Cx),X.prog=P->X.w=w->X.K=K->X.calm=true->∀(i:Nat) (pins:List (Addr×Obj)) (s:Shared) (σ:St) (H:Hp) (E:Value->Shared->Prop),Inv X pins σ H s->(∀b∈fp,FpOk X pins H b)->tn i s.heap->J.stop i H ->
  wpAny (model P w) X.A (pyNext (.ref it)) (fun r s1=>r=none/\Inv X pins σ H s1) E s
 self:∀(A:Around) (i:Nat) (s:Shared) (Q:Value->Shared->Prop) (E:Value->Shared->Prop),tn i s.heap->Q (.ref it) s->wpAny (model P w) A (pyIter (.ref it)) Q E s
abbrev TI:=St->Hp->(It->Hp->Prop)->Prop
def PIE(X:Cx)(pins:List (Addr×Obj))(σ:St)(tg:Expr)(R:It->Hp->Prop)(itv:Value)(s2:Shared):Prop :=
 ∃(it:Addr) (fp:List Addr) (tn:Nat->Heap->Prop) (J:It) (H':Hp),itv=.ref it/\Inv X pins σ H' s2/\Turn X.prog X.w X.K tg J fp it tn/\tn 0 s2.heap/\(∀b∈fp,FpOk X pins H' b)/\R J H'
def PI(X:Cx)(tg iter:Expr)(wi:TI):Prop :=
 ∀(pins:List (Addr×Obj)) (s:Shared) (σ:St) (H:Hp) (R:It->Hp->Prop),Inv X pins σ H s->wi σ H R ->
  wpAny (model X.prog X.w) X.A (eval iter X.env) (fun v s1=>wpAny (model X.prog X.w) X.A (pyIter v) (PIE X pins σ tg R) X.xe s1) X.xe s
theorem Ca{M:Model}{A:Around}{E:Value->Shared->Prop}{s:Shared}{tg:Expr}{it:Addr}{u:Value}{o:Obj}{n:String}{vs:Array Value}{Q:Unit->Shared->Prop}(ho:s.heap.get? it=some o)(hc:o.cls=.type n)(hd:o.data=.fields vs)
  (hn:["enumerate","zip","dict_itemiterator","dict_reverseitemiterator","odict_iterator","itertools.zip_longest","itertools.pairwise"].contains n=false) (hQ:Q () s):wpAny M A (letOwnedTupleGo tg (.ref it) u) Q E s:=by
 unfold letOwnedTupleGo
 cases tg<;>first
  |exact wpAny_pure hQ
  | (cases u<;>first
    |exact wpAny_pure hQ
    | (refine wpAny_bind (wpAny_load ho ?_)
       rw[hc,hd]
       show wpAny M A (if (["enumerate","zip","dict_itemiterator","dict_reverseitemiterator","odict_iterator","itertools.zip_longest","itertools.pairwise"].contains n && vs[0]? == some (rawInt _))=true then _ else _) Q E s
       rw[if_neg (by intro h;rw[hn,Bool.false_and]at h;cases h)]
       exact wpAny_pure hQ))
def Itl(K:PySem.W.Frag)(a:Addr):It :=
 ⟨fun i H=>∃xs x,SqL K H a xs/\xs[i]? = some x,fun i H x H'=>H'=H/\∀xs,SqL K H a xs->xs[i]? = some x,fun i H=>∃xs,SqL K H a xs/\xs.length <= i⟩
def Itt(K:PySem.W.Frag)(a:Addr):It :=
 ⟨fun i H=>∃xs x,SqT K H a xs/\xs[i]? = some x,fun i H x H'=>H'=H/\∀xs,SqT K H a xs->xs[i]? = some x,fun i H=>∃xs,SqT K H a xs/\xs.length <= i⟩
def Itr(lo:Int)(n:Nat):It:=⟨fun i _=>i<n,fun i H x H'=>H'=H/\x=.int (lo+i),fun i _=>n <= i⟩
theorem qg{P:Program}{w:World}{K:PySem.W.Frag}{tg:Expr}(a it:Addr):Turn P w K tg (Itl K a) [it] it (fun i h=>h.IsListIter it a i) where
 mem:=by simp
 obj:=fun i h st b hb=>by
  have e:b=it:=by simpa using hb
  subst e
  obtain⟨o,e,c,d⟩:=st
  exact⟨o,e,fun v z=>by rw[d]at z;cases z⟩
 keep:=fun i h h' st k=>st.at fun o e=>k it (by simp) o e
 item:=by
  intro X hP hw hK hc i pins s σ H E I hf st hg
  subst hP hw hK
  obtain⟨xs,x,hq,hx⟩:=hg
  obtain⟨its,rv,p,hz⟩:=I.list hq
  obtain⟨u,hu,ru⟩:=rv.get hx
  obtain⟨f0,f1,f2,f3,f4,f5⟩:=hf it (by simp)
  refine wpAny_pyNext_list_item st p.isList (x:=u) (by simpa using hu) fun h' st' sb=>?_
  have I1:Inv X pins σ H { s with heap:=h' }:=I.turned (t':=s.toks) (fun b o hb e=>(sb.2 b hb).trans e) f0 f1 f3 f4 f5
  obtain⟨o,e,c,d⟩:=id st'
  exact⟨u,rfl,Ca (s:={ s with heap:=h' }) e c d (by decide) ⟨x,H,I1,ru,⟨rfl,fun ys hy=>by rw[I.list_inj hy hq];exact hx⟩,st',fun b hb=>(hf b hb).1⟩⟩
 done:=by
  intro X hP hw hK hc i pins s σ H E I hf st hg
  subst hP hw hK
  obtain⟨xs,hq,hx⟩:=hg
  obtain⟨its,rv,p,hz⟩:=I.list hq
  obtain⟨f0,f1,f2,f3,f4,f5⟩:=hf it (by simp)
  have hl:=rv.length
  exact wpAny_pyNext_list_end (I.ok.hd hc) st p.isList (by simp;omega) fun h' eb=>⟨rfl,I.turned (t':=s.toks) (fun b o hb e=>eb b o hb e) f0 f1 f3 f4 f5⟩
 self:=fun _ _ _ _ _ st h=>wpAny_pyIter_listiter st h
theorem nB{P:Program}{w:World}{K:PySem.W.Frag}{tg:Expr}(a it:Addr):Turn P w K tg (Itt K a) [it] it (fun i h=>h.IsTupleIter it a i) where
 mem:=by simp
 obj:=fun i h st b hb=>by
  have e:b=it:=by simpa using hb
  subst e
  obtain⟨o,e,c,d⟩:=st
  exact⟨o,e,fun v z=>by rw[d]at z;cases z⟩
 keep:=fun i h h' st k=>st.at fun o e=>k it (by simp) o e
 item:=by
  intro X hP hw hK hc i pins s σ H E I hf st hg
  subst hP hw hK
  obtain⟨xs,x,hq,hx⟩:=hg
  obtain⟨its,rv,p,hz⟩:=I.tuple hq
  obtain⟨u,hu,ru⟩:=rv.get hx
  obtain⟨f0,f1,f2,f3,f4,f5⟩:=hf it (by simp)
  refine wpAny_pyNext_tuple_item st (show s.heap.IsTuple a its.toArray from p) (x:=u) (by simpa using hu) fun h' st' sb=>?_
  have I1:Inv X pins σ H { s with heap:=h' }:=I.turned (t':=s.toks) (fun b o hb e=>(sb.2 b hb).trans e) f0 f1 f3 f4 f5
  obtain⟨o,e,c,d⟩:=id st'
  exact⟨u,rfl,Ca (s:={ s with heap:=h' }) e c d (by decide) ⟨x,H,I1,ru,⟨rfl,fun ys hy=>by rw[I.tuple_inj hy hq];exact hx⟩,st',fun b hb=>(hf b hb).1⟩⟩
 done:=by
  intro X hP hw hK hc i pins s σ H E I hf st hg
  subst hP hw hK
  obtain⟨xs,hq,hx⟩:=hg
  obtain⟨its,rv,p,hz⟩:=I.tuple hq
  obtain⟨f0,f1,f2,f3,f4,f5⟩:=hf it (by simp)
  have hl:=rv.length
  exact wpAny_pyNext_tuple_end (I.ok.hd hc) st (show s.heap.IsTuple a its.toArray from p) (by simp;omega) fun h' eb=>⟨rfl,I.turned (t':=s.toks) (fun b o hb e=>eb b o hb e) f0 f1 f3 f4 f5⟩
 self:=fun _ _ _ _ _ st h=>wpAny_pyIter_tupleiter st h
theorem vP{P:Program}{w:World}{K:PySem.W.Frag}{tg:Expr}(it:Addr)(lo:Int)(n:Nat):Turn P w K tg (Itr lo n) [it] it (fun i h=>IsRangeIter h it (lo+(i:Nat)*1) ((n:Int) - (i:Nat)) 1) where
 mem:=by simp
 obj:=fun i h st b hb=>by
  have e:b=it:=by simpa using hb
  subst e
  exact⟨_,st,fun v z=>by
   have z':Data.fields _=Data.cell v:=z
   cases z'⟩
 keep:=fun i h h' st k=>k it (by simp) _ st
 item:=by
  intro X hP hw hK hc i pins s σ H E I hf st hg
  subst hP hw hK
  obtain⟨f0,f1,f2,f3,f4,f5⟩:=hf it (by simp)
  have W:=Walks.range (prog:=X.prog) (w:=X.w) (I.ok.hd hc) it lo 1 n
  refine W.item i s _ _ hg st fun v h' tk hv st' kk=>?_
  obtain⟨t,rfl⟩:=hv
  have I1:Inv X pins σ H { s with heap:=h',toks:=tk }:=I.turned (fun b o hb e=>kk b o (by simpa using hb) e) f0 f1 f3 f4 f5
  refine⟨_,rfl,Ca (s:={ s with heap:=h',toks:=tk }) (n:="range_iterator") st' rfl rfl (by decide) ⟨.int (lo+i),H,I1,⟨t,?_⟩,⟨rfl,rfl⟩,st',fun b hb=>(hf b hb).1⟩⟩
  rw[Int.mul_one]
 done:=by
  intro X hP hw hK hc i pins s σ H E I hf st hg
  subst hP hw hK
  obtain⟨f0,f1,f2,f3,f4,f5⟩:=hf it (by simp)
  exact wpAny_pyNext_range_end (I.ok.hd hc) st (by have:n <= i:=hg;omega) fun h' eb=>⟨rfl,I.turned (t':=s.toks) (fun b o hb e=>eb b o hb e) f0 f1 f3 f4 f5⟩
 self:=fun _ _ _ _ _ st h=>wpAny_pyIter_rangeiter st h
section
variable{X:Cx}{tg:Expr}
def GE(K:PySem.W.Frag)(tl:TE):TI:=fun σ H R=>tl σ H fun x H1=>∃a,x=.ref a/\(∃xs,SqL K H1 a xs)/\R (Itl K a) H1
def iTup(K:PySem.W.Frag)(tl:TE):TI:=fun σ H R=>tl σ H fun x H1=>∃a,x=.ref a/\(∃xs,SqT K H1 a xs)/\R (Itt K a) H1
theorem Cb{l:Expr}{tl:TE}(hl:PE X l tl):PI X tg l (GE X.K tl):=by
 intro pins s σ H R I h
 refine thn (hl pins s σ H _ I h) fun v s1 ⟨x,H1,I1,r1,q1⟩=>?_
 obtain⟨a,e,⟨xs,hq⟩,q⟩:=q1
 subst e
 cases r1
 obtain⟨its,rv,p,hz⟩:=I1.list hq
 refine wpAny_pyIter_list p.isList ?_
 refine⟨s1.heap.objs.size,[s1.heap.objs.size],_,_,H1,rfl,I1.kept (t':=s1.toks) fun b o e=>zzf _ e,qg a _,⟨_,zzs _ rfl,rfl,rfl⟩,fun b hb=>?_,q⟩
 have e:b=s1.heap.objs.size:=by simpa using hb
 subst e
 exact I1.fpOk (zzj _) (I1.hok.fresh (zzj _))
theorem Et{l:Expr}{tl:TE}(hl:PE X l tl):PI X tg l (iTup X.K tl):=by
 intro pins s σ H R I h
 refine thn (hl pins s σ H _ I h) fun v s1 ⟨x,H1,I1,r1,q1⟩=>?_
 obtain⟨a,e,⟨xs,hq⟩,q⟩:=q1
 subst e
 cases r1
 obtain⟨its,rv,p,hz⟩:=I1.tuple hq
 refine wpAny_pyIter_tuple (show s1.heap.IsTuple a its.toArray from p) ?_
 refine⟨s1.heap.objs.size,[s1.heap.objs.size],_,_,H1,rfl,I1.kept (t':=s1.toks) fun b o e=>zzf _ e,nB a _,⟨_,zzs _ rfl,rfl,rfl⟩,fun b hb=>?_,q⟩
 have e:b=s1.heap.objs.size:=by simpa using hb
 subst e
 exact I1.fpOk (zzj _) (I1.hok.fresh (zzj _))
theorem uf{pins:List (Addr×Obj)}{σ:St}{H:Hp}{s:Shared}{R:It->Hp->Prop}{E:Value->Shared->Prop}{lo hi:Int}{t u v:Tok}{tk:Nat}(I:Inv X pins σ H s)(h1 : -(2^62) <= lo)(h2:lo<2^62)(h3 : -(2^62) <= hi)(h4:hi<2^62)
  (q:R (Itr lo (hi - lo).toNat) H):wpAny (model X.prog X.w) X.A (pyIter (.ref s.heap.objs.size)) (PIE X pins σ tg R) E { s with heap:=s.heap.push { cls:=.type "range",data:=.fields #[.int lo t,.int hi u,.int 1 v] },toks:=tk }:=by
 refine wpAny_pyIter_range (IsRange.new ..) (small_one h1 h2 h3 h4) ?_
 have I1:Inv X pins σ H { s with heap:=s.heap.push { cls:=.type "range",data:=.fields #[.int lo t,.int hi u,.int 1 v] },toks:=tk }:=I.kept fun b o e=>zzf _ e
 refine⟨(s.heap.push { cls:=.type "range",data:=.fields #[.int lo t,.int hi u,.int 1 v] }).objs.size,[(s.heap.push { cls:=.type "range",data:=.fields #[.int lo t,.int hi u,.int 1 v] }).objs.size],_,_,H,rfl,
  I1.kept (t':=tk) fun b o e=>zzf _ e,vP _ lo (hi - lo).toNat,?_,fun b hb=>?_,q⟩
 ·have e1:lo+((0:Nat):Int)*1=lo:=by simp
  have e2:(((hi - lo).toNat:Nat):Int) - ((0:Nat):Int)=Builtin.Range.rangeSize lo hi 1:=by rw[rangeSize_one];split<;>omega
  show IsRangeIter _ _ (lo+((0:Nat):Int)*1) ((((hi - lo).toNat:Nat):Int) - ((0:Nat):Int)) 1
  rw[e1,e2]
  exact zzs _ rfl
 ·have e:b=(s.heap.push { cls:=.type "range",data:=.fields #[.int lo t,.int hi u,.int 1 v] }).objs.size:=by simpa using hb
  subst e
  exact I1.fpOk (zzj _) (I1.hok.fresh (zzj _))
def GF(ta:TA):TI:=fun σ H R=>ta σ H fun vs H1=>∃j:Int,vs=[.int j]/\-(2^62) <= j/\j<2^62/\R (Itr 0 j.toNat) H1
def GG(ta:TA):TI:=fun σ H R=>ta σ H fun vs H1=>∃i j:Int,vs=[.int i,.int j]/\(-(2^62) <= i/\i<2^62/\-(2^62) <= j/\j<2^62)/\R (Itr i (j - i).toNat) H1
theorem wV{a:Expr}{ta:TA}{p pos:Pos}(hg:Gl X "range")(hm:X.mg "range" = none)(ha:PA X [a] ta)(hs:starEach [a] X.env=[(false,eval a X.env)]:=by rfl):PI X tg (.Call (.Name "range" p) [a] [] pos) (GF ta):=by
 intro pins s σ H R I h
 refine Call_ (gw I hg hm boot_range (PyProof.Rows.callWith_type1 (thn (ha pos pins s σ H _ I h) fun us s1 ⟨vs,H1,I1,r1,q1⟩=>?_) hs rfl))
 obtain⟨j,e,q1,q2,q⟩:=q1
 subst e
 cases r1 with
 |cons r rr =>
  cases rr
  obtain⟨t,rfl⟩:=r
  exact call_range_1 (uf I1 (by omega) (by omega) q1 q2 (by simpa using q))
theorem wW{a b:Expr}{ta:TA}{p pos:Pos}(hg:Gl X "range")(hm:X.mg "range" = none)(ha:PA X [a,b] ta)(hs:starEach [a,b] X.env=[(false,eval a X.env),(false,eval b X.env)]:=by rfl)(hs2:starEach [b] X.env=[(false,eval b X.env)]:=by rfl) :
  PI X tg (.Call (.Name "range" p) [a,b] [] pos) (GG ta):=by
 intro pins s σ H R I h
 refine Call_ (gw I hg hm boot_range (PyProof.Rows.callWith_type1 (thn (ha pos pins s σ H _ I h) fun us s1 ⟨vs,H1,I1,r1,q1⟩=>?_) (by rw[hs,hs2]) (by rw[hs2];rfl)))
 obtain⟨i,j,e,⟨q1,q2,q3,q4⟩,q⟩:=q1
 subst e
 cases r1 with
 |cons r rr =>
  cases rr with
  |cons r' rr =>
   cases rr
   obtain⟨t,rfl⟩:=r
   obtain⟨t',rfl⟩:=r'
   exact call_range_2 (uf I1 q1 q2 q3 q4 q)
def tFor(wi:TI)(g:TG)(tb:TS):TS:=fun D σ H=>wi σ H fun J H1=>∃W:Nat->Nat->St->Hp->Prop,(∃m,W 0 m σ H1)/\∀i m σ H,W i m σ H ->
 (J.stop i H/\D.nx σ H)∨(J.go i H/\∃N:St->Hp->Prop,(∀σ' H',N σ' H'->∃m',m'<m/\W (i+1) m' σ' H')/\∀x H',J.yld i H x H'->g x σ H' fun σ2 H2=>tb { D with nx:=N,ct:=N,bk:=D.nx } σ2 H2)
def qh(fp:List Addr)(h:Heap):List (Addr×Obj):=fp.filterMap fun b=>(h.get? b).map fun o=>(b,o)
theorem gf{fp:List Addr}{h:Heap}{b:Addr}{o:Obj}(hb:b∈fp)(e:h.get? b=some o):(b,o)∈qh fp h:=List.mem_filterMap.mpr ⟨b,hb,by rw[e];rfl⟩
theorem wX{fp:List Addr}{h:Heap}{p:Addr×Obj}(hp:p∈qh fp h):p.1∈fp/\h.get? p.1=some p.2:=by
 obtain⟨b,hb,e⟩:=List.mem_filterMap.mp hp
 cases q:h.get? b with
 |none=>rw[q]at e;cases e
 |some o =>
  rw[q]at e
  have e':(b,o)=p:=zyj e
  subst e'
  exact⟨hb,q⟩
theorem Inv.pinned{pins:List (Addr×Obj)}{σ:St}{H:Hp}{s:Shared}{fp:List Addr}(I:Inv X pins σ H s)(hf:∀b∈fp,FpOk X pins H b)(ho:∀b∈fp,∃o,s.heap.get? b=some o/\∀v,o.data ≠ .cell v):Inv X (pins++qh fp s.heap) σ H s :=
 I.pins_of fun p hp=>(zzx.mp hp).elim (fun z=>I.pin p (zzV _ z)) fun z=>by
  obtain⟨hb,e⟩:=wX z
  obtain⟨f0,f1,f2,_⟩:=hf p.1 hb
  obtain⟨o,e',d⟩:=ho p.1 hb
  rw[e]at e';cases e'
  exact⟨e,f0,f1,f2,d⟩
theorem Inv.unpinned{pins pl:List (Addr×Obj)}{σ:St}{H:Hp}{s:Shared}(I:Inv X (pins++pl) σ H s):Inv X pins σ H s:=I.pins_of fun p hp=>I.pin p (zzV _ (List.mem_append_left _ hp))
theorem Eu{iter:Expr}{body:List Stmt}{wi:TI}{g:TG}{tb:TS}{pos:Pos}(hp:PassesOwn (model X.prog X.w) X.A X.env X.xe)(hc:X.calm=true)(hi:PI X tg iter wi)(hg:PG X tg g)(hb:PSs X body tb)
  (hs:∀x,foldedSetIterable iter X.env x=pure x:=by intro _;rfl):PS X (.For tg iter body [] pos) (tFor wi g tb):=by
 intro pins s σ H D I h
 refine wpAny_For (thn (hi pins s σ H _ I h) fun v s1 h1=>thn h1 fun itv s2 h2=>?_) hs
 obtain⟨it,fp,tn,J,H2,e,I2,T,st2,f2,W,⟨m0,w0⟩,turn⟩:=h2
 subst e
 -- what stays true of the iterator's objects through the loop
 have stat:∀{H':Hp},(∀b∈fp,H' b=none)->∀b∈fp,FpOk X pins H' b:=fun hn b hb=>⟨hn b hb,(f2 b hb).2⟩
 refine codeAny_forLoop_any (fun n s'=>∃i σ' H',Inv X pins σ' H' s'/\tn i s'.heap/\(∀b∈fp,H' b=none)/\W i n σ' H') ?_ m0 ⟨0,σ,H2,I2,st2,fun b hb=>(f2 b hb).1,w0⟩
 rintro n s3 ⟨i,σ3,H3,I3,st3,fr3,w3⟩
 rcases turn i n σ3 H3 w3 with ⟨stop,qn⟩|⟨go,N,hN,step⟩
 ·refine wpAny_passesOwn hp (thn (T.done X rfl rfl rfl hc i pins s3 σ3 H3 X.xe I3 (stat fr3) st3 stop) fun r s4 ⟨hr,I4⟩=>?_)
  subst hr
  exact wpAny_execs_nil ⟨σ3,H3,I4,qn⟩
 ·refine wpAny_passesOwn hp (thn (T.item X rfl rfl rfl hc i pins s3 σ3 H3 X.xe I3 (stat fr3) st3 go) fun r s4 ⟨u,hr,h4⟩=>?_)
  subst hr
  refine wpAny_passesOwn hp (thn h4 fun _ s5 ⟨x,H5,I5,r5,y5,st5,fr5⟩=>?_)
  have I5':=I5.pinned (stat fr5) (T.obj _ _ st5)
  refine wpAny_passesOwn hp (thn (hg _ s5 σ3 H5 x u _ I5' r5 (step x H5 y5)) fun _ s6 ⟨σ6,H6,I6,q6⟩=>?_)
  refine wpAny_passesOwn hp (thn (hb _ s6 σ6 H6 _ I6 q6) fun f s7 q7=>?_)
  have again:∀{σ7:St}{H7:Hp},Inv X (pins++qh fp s5.heap) σ7 H7 s7->N σ7 H7->∃m,m<n/\∃i σ' H',Inv X pins σ' H' s7/\tn i s7.heap/\(∀b∈fp,H' b=none)/\W i m σ' H':=fun {σ7 H7} I7 n7=>by
   obtain⟨m',hm,w7⟩:=hN σ7 H7 n7
   refine⟨m',hm,i+1,σ7,H7,I7.unpinned,T.keep _ _ _ st5 fun b hb o e=>(I7.pin (b,o) (zzV _ (zzV _ (gf hb e)))).1,fun b hb=>?_,w7⟩
   obtain⟨o,e,d⟩:=T.obj _ _ st5 b hb
   exact(I7.pin (b,o) (zzV _ (zzV _ (gf hb e)))).2.1
  cases f with
  |next=>obtain⟨σ7,H7,I7,n7⟩:=q7;exact again I7 n7
  |cont=>obtain⟨σ7,H7,I7,n7⟩:=q7;exact again I7 n7
  |brk=>obtain⟨σ7,H7,I7,q7⟩:=q7;exact⟨σ7,H7,I7.unpinned,q7⟩
  |ret v=>obtain⟨x7,σ7,H7,I7,r7,q7⟩:=q7;exact⟨x7,σ7,H7,I7.unpinned,r7,q7⟩
end
abbrev R2:=V->V->Hp->VK->Prop
def OpR(X:Cx)(f:Value->Value->Sem Value)(r:R2):Prop :=
 ∀(pins:List (Addr×Obj)) (s:Shared) (σ:St) (H:Hp) (x y:V) (v u:Value) (Q:VK),Inv X pins σ H s->RelV x v->RelV y u->r x y H Q ->
  wpAny (model X.prog X.w) X.A (f v u) (EP X pins σ Q) X.xe s
def UnR(X:Cx)(f:Value->Sem Value)(r:V->Hp->VK->Prop):Prop :=
 ∀(pins:List (Addr×Obj)) (s:Shared) (σ:St) (H:Hp) (x:V) (v:Value) (Q:VK),Inv X pins σ H s->RelV x v->r x H Q ->
  wpAny (model X.prog X.w) X.A (f v) (EP X pins σ Q) X.xe s
def dO(X:Cx)(f:Value)(r:List V->Hp->VK->Prop):Prop :=
 ∀(pins:List (Addr×Obj)) (s:Shared) (σ:St) (H:Hp) (xs:List V) (us:List Value) (Q:VK),Inv X pins σ H s->Vals xs us->r xs H Q ->
  wpAny (model X.prog X.w) X.A (call f us) (EP X pins σ Q) X.xe s
def tOp(r:R2)(ta tb:TE):TE:=fun σ H Q=>ta σ H fun x H1=>tb σ H1 fun y H2=>r x y H2 Q
def tUn(r:V->Hp->VK->Prop)(ta:TE):TE:=fun σ H Q=>ta σ H fun x H1=>r x H1 Q
def rI(C:Int->Int->Prop)(g:Int->Int->V):R2:=fun x y H Q=>∃i j,x=.int i/\y=.int j/\C i j/\Q (g i j) H
def rI0(g:Int->Int->V):R2:=fun x y H Q=>∃i j,x=.int i/\y=.int j/\Q (g i j) H
def rU(g:Int->V):V->Hp->VK->Prop:=fun x H Q=>∃i,x=.int i/\Q (g i) H
section
variable{X:Cx}{a b:Expr}{ta tb:TE}{pos:Pos}
theorem binT(ha:PE X a ta)(hb:PE X b tb){pins:List (Addr×Obj)}{s:Shared}{σ:St}{H:Hp}{R:V->V->Hp->Prop}(I:Inv X pins σ H s)
  (h:ta σ H fun x H1=>tb σ H1 fun y H2=>R x y H2) {Q:Value->Shared->Prop}{f:Value->Value->Sem Value}
  (hf:∀v u s2 x y H2,Inv X pins σ H2 s2->RelV x v->RelV y u->R x y H2->wpAny (model X.prog X.w) X.A (f v u) Q X.xe s2) :
  wpAny (model X.prog X.w) X.A (eval a X.env) (fun v s₁=>wpAny (model X.prog X.w) X.A (eval b X.env) (fun u s₂=>wpAny (model X.prog X.w) X.A (f v u) Q X.xe s₂) X.xe s₁) X.xe s:=by
 refine thn (ha pins s σ H _ I h) fun v s1 ⟨x,H1,I1,r1,q1⟩=>?_
 refine thn (hb pins s1 σ H1 _ I1 q1) fun u s2 ⟨y,H2,I2,r2,q2⟩=>?_
 exact hf v u s2 x y H2 I2 r1 r2 q2
theorem cW{op:Operator}{r:R2}(ho:OpR X (binaryOp op) r)(ha:PE X a ta)(hb:PE X b tb):PE X (.BinOp a op b pos) (tOp r ta tb):=by
 intro pins s σ H Q I h
 exact wpAny_BinOp (binT ha hb I h fun v u s2 x y H2 I2 rx ry q=>ho pins s2 σ H2 x y v u Q I2 rx ry q)
theorem GH{op:UnaryOp}{r:V->Hp->VK->Prop}(ho:UnR X (unaryOp op) r)(ha:PE X a ta):PE X (.UnaryOp op a pos) (tUn r ta):=by
 intro pins s σ H Q I h
 exact UnaryOp_ (thn (ha pins s σ H _ I h) fun v s1 ⟨x,H1,I1,r1,q1⟩=>ho pins s1 σ H1 x v Q I1 r1 q1)
theorem opI{f:Value->Value->Sem Value}{C:Int->Int->Prop}{g:Int->Int->Int}
  (rule:∀(i j:Int) (t u:Tok) (s:Shared) (Q:Value->Shared->Prop) (E:Value->Shared->Prop),C i j->Q (.int (g i j) s.toks) { s with toks:=s.toks+1 }->wpAny (model X.prog X.w) X.A (f (.int i t) (.int j u)) Q E s) :
  OpR X f (rI C fun i j=>.int (g i j)):=by
 intro pins s σ H x y v u Q I rx ry h
 obtain⟨i,j,rfl,rfl,hc,q⟩:=h
 obtain⟨t,rfl⟩:=rx
 obtain⟨t',rfl⟩:=ry
 exact rule i j t t' s _ _ hc ⟨.int (g i j),H,I.tok _,⟨_,rfl⟩,q⟩
theorem opI0{f:Value->Value->Sem Value}{g:Int->Int->Int}
  (rule:∀(i j:Int) (t u:Tok) (s:Shared) (Q:Value->Shared->Prop) (E:Value->Shared->Prop),Q (.int (g i j) s.toks) { s with toks:=s.toks+1 }->wpAny (model X.prog X.w) X.A (f (.int i t) (.int j u)) Q E s) :
  OpR X f (rI0 fun i j=>.int (g i j)):=by
 intro pins s σ H x y v u Q I rx ry h
 obtain⟨i,j,rfl,rfl,q⟩:=h
 obtain⟨t,rfl⟩:=rx
 obtain⟨t',rfl⟩:=ry
 exact rule i j t t' s _ _ ⟨.int (g i j),H,I.tok _,⟨_,rfl⟩,q⟩
theorem opB0{f:Value->Value->Sem Value}{g:Int->Int->Bool}
  (rule:∀(i j:Int) (t u:Tok) (s:Shared) (Q:Value->Shared->Prop) (E:Value->Shared->Prop),Q (.bool (g i j)) s->wpAny (model X.prog X.w) X.A (f (.int i t) (.int j u)) Q E s) :
  OpR X f (rI0 fun i j=>.bl (g i j)):=by
 intro pins s σ H x y v u Q I rx ry h
 obtain⟨i,j,rfl,rfl,q⟩:=h
 obtain⟨t,rfl⟩:=rx
 obtain⟨t',rfl⟩:=ry
 exact rule i j t t' s _ _ ⟨.bl (g i j),H,I,rfl,q⟩
def CPow(i j:Int):Prop:=0 <= j/\j <= 1000000/\i.natAbs<2^64
theorem lg:OpR X (binaryOp .Add) (rI0 fun i j=>.int (i+j)):=opI0 fun _ _ _ _ _ _ _ q=>add_int q
theorem Ev:OpR X (binaryOp .Sub) (rI0 fun i j=>.int (i - j)):=opI0 fun _ _ _ _ _ _ _ q=>sub_int q
theorem jZ:OpR X (binaryOp .Mod) (rI (fun _ j=>0<j) fun i j=>.int (i % j)):=opI fun i j _ _ _ _ _ hc q=>by
 have h1:(0:Int)<j:=hc
 exact mod_int' (by omega) (by rw[Int.fmod_eq_emod_of_nonneg i (by omega)];exact q)
theorem Bg:OpR X (binaryOp .Pow) (rI CPow fun i j=>.int (i^j.toNat)):=opI fun _ _ _ _ _ _ _ hc q=>pow_int_small hc.1 hc.2.1 hc.2.2 q
theorem unI{f:Value->Sem Value}{g:Int->Int}
  (rule:∀(i:Int) (t:Tok) (s:Shared) (Q:Value->Shared->Prop) (E:Value->Shared->Prop),Q (.int (g i) s.toks) { s with toks:=s.toks+1 }->wpAny (model X.prog X.w) X.A (f (.int i t)) Q E s) :
  UnR X f (rU fun i=>.int (g i)):=by
 intro pins s σ H x v Q I rx h
 obtain⟨i,rfl,q⟩:=h
 obtain⟨t,rfl⟩:=rx
 exact rule i t s _ _ ⟨.int (g i),H,I.tok _,⟨_,rfl⟩,q⟩
theorem Ew:UnR X (unaryOp .USub) (rU fun i=>.int (-i)):=unI fun _ _ _ _ _ q=>neg_int q
end
def scal:V->V->Bool
 |.non,.non=>true|.non,.int _=>true|.int _,.non=>true|.non,.bl _=>true|.bl _,.non=>true|.non,.str _=>true|.str _,.non=>true
 |.int _,.int _=>true|.bl _,.bl _=>true|.str _,.str _=>true|.byt _,.byt _=>true
 |.int _,.str _=>true|.str _,.int _=>true|.bl _,.str _=>true|.str _,.bl _=>true
 |_,_=>false
def rEq:R2:=fun x y H Q=>scal x y=true/\Q (.bl (decide (x=y))) H
theorem Cc{i j:Int}:decide (V.int i=V.int j)=(i == j):=by
 rw[zyw]
 simp
theorem Ex{i j:Bool}:decide (V.bl i=V.bl j)=(i == j):=by
 rw[zyw]
 simp
theorem Cd{i j:Str}:decide (V.str i=V.str j)=(i == j):=by
 rw[zyw]
 simp
theorem Ce{i j:Array UInt8}:decide (V.byt i=V.byt j)=(i.toList == j.toList):=by
 rw[zyw]
 cases i
 cases j
 simp
section
variable{X:Cx}{a b c:Expr}{ta tb tc:TE}{pos:Pos}
theorem cf{pins:List (Addr×Obj)}{σ:St}{H:Hp}{s:Shared}{Q:VK}{k k':Bool}(I:Inv X pins σ H s)(q:Q (.bl k) H)(e:k=k'):EP X pins σ Q (.bool k') s:=by
 subst e
 exact⟨.bl k,H,I,rfl,q⟩
theorem GI:OpR X (compareOp .Eq) rEq:=by
 intro pins s σ H x y v u Q I rx ry h
 obtain⟨hs,q⟩:=h
 cases x with
 |non =>
  cases rx
  cases y with
  |non=>cases ry;exact PySem.EqNone.eq_none_none (cf I q (by simp))
  |bl j=>cases ry;exact PySem.EqNone.eq_none_bool (cf I q (by simp))
  |int j=>obtain⟨t',rfl⟩:=ry;exact PySem.EqNone.eq_none_int (cf I q (by simp))
  |str j=>obtain⟨t',rfl⟩:=ry;exact PySem.EqNone.eq_none_str (cf I q (by simp))
  |_=>exact absurd (show false=true from hs) zzu
 |bl i =>
  cases rx
  cases y with
  |non=>cases ry;exact PySem.EqNone.eq_bool_none (cf I q (by simp))
  |bl j=>cases ry;exact eq_bool (cf I q Ex)
  |str j=>obtain⟨t',rfl⟩:=ry;exact PySem.EqMixed.eq_bool_str (cf I q (by simp))
  |_=>exact absurd (show false=true from hs) zzu
 |int i =>
  obtain⟨t,rfl⟩:=rx
  cases y with
  |non=>cases ry;exact PySem.EqNone.eq_int_none (cf I q (by simp))
  |int j=>obtain⟨t',rfl⟩:=ry;exact eq_int (cf I q Cc)
  |str j=>obtain⟨t',rfl⟩:=ry;exact PySem.EqMixed.eq_int_str (cf I q (by simp))
  |_=>exact absurd (show false=true from hs) zzu
 |str i =>
  obtain⟨t,rfl⟩:=rx
  cases y with
  |non=>cases ry;exact PySem.EqNone.eq_str_none (cf I q (by simp))
  |bl j=>cases ry;exact PySem.EqMixed.eq_str_bool (cf I q (by simp))
  |int j=>obtain⟨t',rfl⟩:=ry;exact PySem.EqMixed.eq_str_int (cf I q (by simp))
  |str j=>obtain⟨t',rfl⟩:=ry;exact eq_str (cf I q Cd)
  |_=>exact absurd (show false=true from hs) zzu
 |byt i =>
  obtain⟨t,rfl⟩:=rx
  cases y with
  |byt j=>obtain⟨t',rfl⟩:=ry;exact PySem.W.eq_bytes (cf I q Ce)
  |_=>exact absurd (show false=true from hs) zzu
 |_=>cases y<;>exact absurd (show false=true from hs) zzu
theorem Ey:OpR X (compareOp .Lt) (rI0 fun i j=>.bl (decide (i<j))):=opB0 fun _ _ _ _ _ _ _ q=>lt_int q
theorem GJ:OpR X (compareOp .LtE) (rI0 fun i j=>.bl (decide (i <= j))):=opB0 fun _ _ _ _ _ _ _ q=>le_int q
theorem Ez:OpR X (compareOp .Gt) (rI0 fun i j=>.bl (decide (j<i))):=opB0 fun _ _ _ _ _ _ _ q=>gt_int q
theorem EA:OpR X (compareOp .GtE) (rI0 fun i j=>.bl (decide (j <= i))):=opB0 fun _ _ _ _ _ _ _ q=>ge_int q
theorem EB:OpR X (compareOp .Is) (fun x y H Q=>y=.non/\Q (.bl (decide (x=.non))) H):=by
 intro pins s σ H x y v u Q I rx ry h
 obtain⟨rfl,q⟩:=h
 cases ry
 refine is_none_gen (cf I q ?_)
 cases x<;>first
  | (cases rx;rfl)
  | (obtain⟨t,rfl⟩:=rx;rfl)
theorem aB(b:Expr){op:CmpOp}(h:op ≠ .In:=by decide)(h2:op ≠ .NotIn:=by decide):behindInMarks op b=false:=by
 have e1:(op == CmpOp.In)=false:=by cases op<;>first|rfl|exact absurd rfl h
 have e2:(op == CmpOp.NotIn)=false:=by cases op<;>first|rfl|exact absurd rfl h2
 cases b<;>simp[behindInMarks,e1,e2]
theorem Cf{op:CmpOp}{r:R2}(ho:OpR X (compareOp op) r)(ha:PE X a ta)(hb:PE X b tb)(hm:behindInMarks op b=false):PE X (.Compare a [op] [b] pos) (tOp r ta tb):=by
 intro pins s σ H Q I h
 exact wpAny_Compare1 (binT ha hb I h fun v u s2 x y H2 I2 rx ry q=>ho pins s2 σ H2 x y v u Q I2 rx ry q) hm
def GK(t:TE):TT:=fun σ H Q=>t σ H fun x H'=>∃k,x=.bl k/\Q k H'
theorem lh{op:CmpOp}{r:R2}(ho:OpR X (compareOp op) r)(ha:PE X a ta)(hb:PE X b tb)(hm:behindInMarks op b=false):PT X (.Compare a [op] [b] pos) (GK (tOp r ta tb)):=by
 intro pins s σ H Q I h
 refine wpAny_isTrue_Compare1 (thn (ha pins s σ H _ I h) fun v s1 ⟨x,H1,I1,r1,q1⟩=>thn (hb pins s1 σ H1 _ I1 q1) fun u s2 ⟨y,H2,I2,r2,q2⟩ =>
  thn (ho pins s2 σ H2 x y v u _ I2 r1 r2 q2) fun c s3 ⟨z,H3,I3,r3,k,e,q3⟩=>?_) hm
 subst e
 cases r3
 exact wpAny_truthy_bool ⟨H3,I3,q3⟩
def Bh(r r':R2)(ta tb tc:TE):TE:=fun σ H Q=>ta σ H fun x H1=>tb σ H1 fun y H2=>r x y H2 fun z H3=>∃k,z=.bl k /\
 (if k=true then tc σ H3 fun w' H4=>r' y w' H4 Q else Q (.bl false) H3)
theorem zD{op op':CmpOp}{r r':R2}(ho:OpR X (compareOp op) r)(ho':OpR X (compareOp op') r')(ha:PE X a ta)(hb:PE X b tb)(hc:PE X c tc)
  (hm:lastMarks [op,op'] [b,c]=false:=by with_unfolding_all rfl):PE X (.Compare a [op,op'] [b,c] pos) (Bh r r' ta tb tc):=by
 intro pins s σ H Q I h
 refine Compare_chain (thn (ha pins s σ H _ I h) fun v s1 ⟨x,H1,I1,r1,q1⟩=>chain_link (thn (hb pins s1 σ H1 _ I1 q1) fun u s2 ⟨y,H2,I2,r2,q2⟩ =>
  thn (ho pins s2 σ H2 x y v u _ I2 r1 r2 q2) fun d s3 ⟨z,H3,I3,r3,k,e,q3⟩=>?_)) hm
 subst e
 cases r3
 refine wpAny_truthy_bool ?_
 cases k with
 |false=>exact ite_ff ⟨.bl false,H3,I3,rfl,q3⟩
 |true=>exact ite_tt (chain_last (thn (hc pins s3 σ H3 _ I3 q3) fun w' s4 ⟨z',H4,I4,r4,q4⟩=>ho' pins s4 σ H4 y z' u w' Q I4 r2 r4 q4))
theorem ug:(sizeLine:Nat)<2^63:=by rw[sizeLine_eq];decide
theorem kw{x:V}{us:List Value}(r:Vals [x] us):∃u,us=[u]/\RelV x u:=by
 cases r with
 |cons r1 r2=>cases r2;exact⟨_,rfl,r1⟩
theorem EC{x y:V}{us:List Value}(r:Vals [x,y] us):∃u w',us=[u,w']/\RelV x u/\RelV y w':=by
 cases r with
 |cons r1 r2 =>
  cases r2 with
  |cons r3 r4=>cases r4;exact⟨_,_,rfl,r1,r3⟩
theorem wY(hc:X.calm=true):dO X (.builtin "min") (fun xs H Q=>∃i j,xs=[.int i,.int j]/\Q (.int (if j<i then j else i)) H):=by
 intro pins s σ H xs us Q I r h
 obtain⟨i,j,rfl,q⟩:=h
 obtain⟨u,w',rfl,⟨t,rfl⟩,⟨t',rfl⟩⟩:=EC r
 refine min_two_ints (I.ok.hd hc) fun h' tk k=>⟨_,H,I.kept k,?_,q⟩
 by_cases hj:j<i
 ·rw[if_pos hj,if_pos hj];exact⟨_,rfl⟩
 ·rw[if_neg hj,if_neg hj];exact⟨_,rfl⟩
theorem wZ:dO X (.type "int") (fun xs H Q=>(∃i,xs=[.int i]/\Q (.int i) H)∨∃k,xs=[.bl k]/\Q (.int (if k then 1 else 0)) H):=by
 intro pins s σ H xs us Q I r h
 rcases h with ⟨i,rfl,q⟩|⟨k,rfl,q⟩
 ·obtain⟨u,rfl,t,rfl⟩:=kw r
  exact call_int_int ⟨.int i,H,I,⟨_,rfl⟩,q⟩
 ·obtain⟨u,rfl,r1⟩:=kw r
  cases r1
  exact call_int_bool ⟨.int (if k then 1 else 0),H,I.tok _,⟨_,rfl⟩,q⟩
end
structure ObjM(h:Heap)(x dx C:Addr)(mA:Str->Option Value):Prop where
 obj:h.get? x=some (PySem.W.instObj C dx)
 ns:h.Ns1 dx mA
 ne:dx≠x
theorem xa{h:Heap}{dx:Addr}{mA:Str->Option Value}(n:h.Ns1 dx mA):∃od,h.get? dx=some od/\∀name,PySem.W.lookIn name od=some (mA name):=by
 obtain⟨o,es,ep,ho,hd,hk,_,hm⟩:=n
 refine⟨o,ho,fun name=>?_⟩
 have e:=hm name
 unfold nsFind findBy at e
 rw[←Array.find?_toList]at e
 unfold PySem.W.lookIn
 rw[hd]
 dsimp only
 split
 ·rename_i y q
  rw[q]at e
  exact congrArg some e
 ·rename_i q
  rw[q]at e
  have a:es.toList.any (·.refKey)=false:=by
   rw[List.any_eq_false]
   intro y hy
   obtain⟨z,t,hkey⟩:=hk y (Array.mem_toList_iff.mp hy)
   simp[DictEntry.refKey,hkey]
  have a':¬es.toList.any (·.refKey)=true:=by rw[a];exact zzu
  rw[if_neg a']
  exact congrArg some e
theorem ObjM.look{h:Heap}{x dx C:Addr}{mA:Str->Option Value}(I:ObjM h x dx C mA):∃od,PySem.W.InstAt h x (PySem.W.instObj C dx) C (some od)/\∀name,PySem.W.lookIn name od=some (mA name) :=
 let ⟨od,ho,hl⟩:=xa I.ns
 ⟨od,⟨I.obj,rfl,rfl,ho⟩,hl⟩
theorem RelO.some_of{v:V}{o:Option Value}(r:RelO (some v) o):∃u,o=some u/\RelV v u:=by
 cases o with
 |none=>exact(show False from r).elim
 |some u=>exact⟨u,rfl,r⟩
section
variable{P:Program}{w:World}{H:Hp}{h:Heap}{a C dx:Addr}{fs:List (Str×V)}
theorem Cg(hok:HOk P w H h)(e:H a=some (.ins C dx fs)):∃mA,ObjM h a dx C mA/\(∀f,RelO (fs.lookup f) (mA f))/\PySem.Within mA (fs.map (·.1))/\fs.length <= 1000/\H dx=some (.own a):=by
 obtain⟨d,z,ne,ob,mA,n,r,q⟩:=(show ObjOk P w H h a (.ins C dx fs) from hok a _ e)
 exact⟨mA,⟨ob,n,ne⟩,r,q,z,d⟩
end
structure Cls(K:PySem.W.Frag)(C:Addr):Prop where
 pg:PySem.W.plainGet K C Str.empty=true
 hd:PySem.W.hasDictIn K C=true
 po:PySem.W.plainOver K C=true
 sa:PySem.W.findIn K (.ref C) "__setattr__" = some (some (.builtin "object.__setattr__"))
theorem Cls.get{K:PySem.W.Frag}{C:Addr}(c:Cls K C)(f:Str):PySem.W.plainGet K C f=true:=c.pg
section
variable{X:Cx}{pins:List (Addr×Obj)}{σ:St}{H:Hp}{s:Shared}{A:Around}{E:Value->Shared->Prop}{Q:Value->Shared->Prop}{c:Value}{b:Bool}
inductive TyOf(K:PySem.W.Frag)(H:Hp):V->Value->Prop where
 |non:TyOf K H .non (.type "NoneType")
 |bl (x:Bool):TyOf K H (.bl x) (.type "bool")
 |int (i:Int):TyOf K H (.int i) (.type "int")
 |str (x:Str):TyOf K H (.str x) (.type "str")
 |flt (x:UInt64):TyOf K H (.flt x) (.type "float")
 |lst {a:Addr}{xs:List V} (e:H a=some (.lst xs)):TyOf K H (.ref a) (.type "list")
 |frz {a:Addr}{o:Obj}{xs:List V} (e:H a=some (.frz o (.lst xs))):TyOf K H (.ref a) (.type "list")
 |tup {a:Addr}{xs:List V} (e:H a=some (.tup xs)):TyOf K H (.ref a) (.type "tuple")
 |dK {a:Addr}{kvs:List (Key×V)} (e:H a=some (.dK kvs)):TyOf K H (.ref a) (.type "dict")
 |dT {a:Addr}{kvs:List (List Key×V)} (e:H a=some (.dT kvs)):TyOf K H (.ref a) (.type "dict")
 |ins {a C dx:Addr}{fs:List (Str×V)} (e:H a=some (.ins C dx fs)) (cl:Cls K C) (ha:PySem.W.findIn K (.ref C) "__class__" = some (some (.builtin "object.__class__")))
   (hn:PySem.W.specialIn K (.builtin "object.__class__") "__get__" = some (some (.builtin "getset_descriptor.__get__"))) (htk:PySem.W.takesIn K (.builtin "object.__class__")=some true)
   (hm:PySem.W.mroIn K C (.type "object")=some true):TyOf K H (.ref a) (.ref C)
theorem xb{x:V}{u t:Value}(I:Inv X pins σ H s)(rx:RelV x u)(ty:TyOf X.K H x t)(e:PySem.W.kitOne X.K t c=some b)(h:∀tk,Q (.bool b) { s with toks:=tk }) :
  wpAny (model X.prog X.w) A (call (.builtin "isinstance") [u,c]) Q E s:=by
 cases ty with
 |non=>cases (show u=Value.none from rx);exact zym PySem.W.kitx_none I.kIn True.intro e (fun z=>nomatch z) h
 |bl y=>cases (show u=Value.bool y from rx);exact zym PySem.W.kitx_bool I.kIn True.intro e (fun z=>nomatch z) h
 |int i=>obtain⟨t,q⟩:=(show ∃t,u=Value.int i t from rx);cases q;exact zym PySem.W.kitx_int I.kIn True.intro e (fun z=>nomatch z) h
 |str y=>obtain⟨t,q⟩:=(show ∃t,u=Value.str y t from rx);cases q;exact zym PySem.W.kitx_str I.kIn True.intro e (fun z=>nomatch z) h
 |flt y=>obtain⟨t,q⟩:=(show ∃t,u=Value.float y t from rx);cases q;exact zym PySem.W.kitx_float I.kIn True.intro e (fun z=>nomatch z) h
 |@lst a xs ea =>
  cases (show u=Value.ref a from rx)
  obtain⟨_,_,n,_,h1⟩:=(show ObjOk X.prog X.w H s.heap a (.lst xs) from I.hok a _ ea)
  exact zym PySem.W.kitx_list I.kIn ⟨_,h1,rfl⟩ e (fun z=>nomatch z) h
 |@frz a ob xs ea =>
  cases (show u=Value.ref a from rx)
  obtain⟨_,_,_,n,_,h1⟩:=(show ObjOk X.prog X.w H s.heap a (.frz ob (.lst xs)) from I.hok a _ ea)
  exact zym PySem.W.kitx_list I.kIn ⟨_,h1,rfl⟩ e (fun z=>nomatch z) h
 |@tup a xs ea =>
  cases (show u=Value.ref a from rx)
  obtain⟨_,_,_,p⟩:=(show ObjOk X.prog X.w H s.heap a (.tup xs) from I.hok a _ ea)
  obtain⟨o,h1,h2,_⟩:=p
  exact zym PySem.W.kitx_tuple I.kIn ⟨o,h1,h2⟩ e (fun z=>nomatch z) h
 |@dK a kvs ea =>
  cases (show u=Value.ref a from rx)
  obtain⟨_,_,vs,_,p⟩:=(show ObjOk X.prog X.w H s.heap a (.dK kvs) from I.hok a _ ea)
  obtain⟨o,es,ep,h1,h2,_⟩:=p
  exact zym PySem.W.kitx_dict I.kIn ⟨o,h1,h2.1⟩ e (fun z=>nomatch z) h
 |@dT a kvs ea =>
  cases (show u=Value.ref a from rx)
  obtain⟨_,_,xs,_,o,es,ep,h1,h2,_⟩:=(show ObjOk X.prog X.w H s.heap a (.dT kvs) from I.hok a _ ea)
  exact zym PySem.W.kitx_dict I.kIn ⟨o,h1,h2.1⟩ e (fun z=>nomatch z) h
 |@ins a C dx fs ea cl ha hn htk hm =>
  cases (show u=Value.ref a from rx)
  obtain⟨mA,O,_⟩:=Cg I.hok ea
  obtain⟨od,J,_⟩:=O.look
  exact zym (PySem.W.kitx_own (cl.get _) cl.hd ha hn htk hm) I.kIn J e (fun z=>nomatch z) h
end
structure Room(k:Nat)(A:Around):Prop where
 hd:A.handled=none
 dp:A.depth+3*k+5<recursionLimit
 un:A.units+16*k+200<cLine
theorem Room.mono{j k:Nat}{A:Around}(r:Room k A)(h:j <= k):Room j A:=⟨r.hd,by have:=r.dp;omega,by have:=r.un;omega⟩
theorem Room.deeper{k:Nat}{A:Around}(r:Room (k+1) A)(env:Env):Room k (A.deeper env) :=
 ⟨r.hd,by have:=r.dp;show A.depth+1+3*k+5<_;omega,by have:=r.un;show A.units+3+16*k+200<_;omega⟩
theorem Room.depth{k:Nat}{A:Around}(r:Room k A):A.depth<recursionLimit:=by have:=r.dp;omega
theorem Room.units{k:Nat}{A:Around}(r:Room k A):A.units+64<cLine:=by have:=r.un;omega
def tNil:TA:=fun _ H Q=>Q [] H
def zE(ta:TE)(tr:TA):TA:=fun σ H Q=>ta σ H fun x H1=>tr σ H1 fun xs H2=>Q (x::xs) H2
section
variable{X:Cx}{e:Expr}{es:List Expr}{te:TE}{t:TA}{pos:Pos}
theorem cT:PA X [] tNil:=fun _ _ _ _ H Q I h=>Calls.spliced_nil ⟨[],H,I,.nil,h⟩
theorem bD(ha:PE X e te)(hr:PA X es t)(hs:starEach (e::es) X.env=(false,eval e X.env)::starEach es X.env:=by rfl):PA X (e::es) (zE te t):=by
 intro pos pins s σ H Q I h
 rw[hs]
 show wpAny _ _ (spliced ((false,eval e X.env)::backTo pos (starEach es X.env))) _ _ s
 refine Calls.spliced_cons (thn (ha pins s σ H _ I h) fun u s1 ⟨x,H1,I1,r1,q1⟩=>?_)
 exact thn (hr pos pins s1 σ H1 _ I1 q1) fun us s2 ⟨xs,H2,I2,r2,q2⟩=>⟨x::xs,H2,I2,.cons r1 r2,q2⟩
def tTup(t:TA):TE:=fun σ H Q=>t σ H fun xs H1=>xs.length <= sizeLine/\∀p,H1 p=none->Q (.ref p) (upd H1 p (.tup xs))
def tLst(t:TA):TE:=fun σ H Q=>t σ H fun xs H1=>xs.length <= sizeLine/\∀p,H1 p=none->Q (.ref p) (upd H1 p (.lst xs))
theorem ED{x1}(h:PA X es t):PE X (.Tuple es x1 pos) (tTup t):=by
 intro pins s σ H Q I hq
 refine wpAny_Tuple_spliced (thn (h pos pins s σ H _ I hq) fun us s1 ⟨xs,H1,I1,r,z,q⟩=>⟨by rw[←r.length];exact z,?_⟩)
 have hf:H1 s1.heap.objs.size=none:=I1.hok.fresh (zzj _)
 refine⟨.ref s1.heap.objs.size,upd H1 s1.heap.objs.size (.tup xs),I1.laid (t':=s1.toks) (fun b u e=>zzf _ e) (zzj _) ?_,rfl,q _ hf⟩
 exact⟨⟨z,.inl ⟨_,zzs _ rfl,rfl⟩⟩,us,r,⟨_,zzs _ rfl,rfl,_,rfl⟩⟩
theorem xc(h:PA X es t):PE X (.List es pos) (tLst t):=by
 intro pins s σ H Q I hq
 refine wpAny_List_spliced (thn (h pos pins s σ H _ I hq) fun us s1 ⟨xs,H1,I1,r,z,q⟩=>⟨by rw[←r.length];exact z,?_⟩)
 have hf:H1 s1.heap.objs.size=none:=I1.hok.fresh (zzj _)
 refine⟨.ref s1.heap.objs.size,upd H1 s1.heap.objs.size (.lst xs),I1.laid (t':=s1.toks) (fun b u e=>zzf _ e) (zzj _) ?_,rfl,q _ hf⟩
 exact⟨z,us,0,r,zzs _ rfl⟩
end
abbrev Sp:=List V->Hp->VK->XK->Prop
abbrev CXT:=List Env->Hp->Shared->XK->Value->Shared->Prop
structure Env0(P:Program)(w:World)(K:PySem.W.Frag)(mg:Str->Option Value)(base:Heap)(A:Around)(outer:List Env)(s:Shared)(H:Hp):Prop where
 frames:A.frames=some outer
 mod:Mod K mg base
 bs:∀b o,base.get? b=some o->s.heap.get? b=some o/\H b=none
 bsz:base.objs.size <= s.heap.objs.size
 funs:s.heap.FunFrames base outer
 frf:∀b∈frs outer,H b=none
 hok:HOk P w H s.heap
 bare:AllBare s.gens
def CE(outer:List Env)(P:Program)(w:World)(H:Hp)(s:Shared)(Q:VK)(u:Value)(s':Shared):Prop :=
 ∃v H',s'.os=s.os/\AllBare s'.gens/\Un (frs outer) [] H H' s.heap s'.heap/\HOk P w H' s'.heap/\RelV v u/\Q v H'
def CR(CX:CXT)(outer:List Env)(P:Program)(w:World)(H:Hp)(s:Shared)(Q:VK)(E:XK)(r:Result)(s':Shared):Prop :=
 match r with
 |.ok (.ret u)=>CE outer P w H s Q u s'
 |.ok _=>False
 |.error e=>CX outer H s E e s'
structure FnOk(P:Program)(w:World)(K:PySem.W.Frag)(mg:Str->Option Value)(base:Heap)(CX:CXT)(k:Nat)(f:Addr)(fd:FuncData)(ps:List Str)(sp:Sp):Prop where
 len:∀vs H Q E,sp vs H Q E->vs.length=ps.length
 run:∀(A:Around) (outer:List Env) (s:Shared) (H:Hp) (args:Args) (us:List Value) (vs:List V) (Q:VK) (E:XK),Room k A->Env0 P w K mg base A outer s H->BindsTo s fd args (ps.zip us)->Vals vs us->sp vs H Q E ->
  codeAny (model P w) A (.call (.ref f) args) (CR CX outer P w H s Q E) s
theorem FnOk.imp{P:Program}{w:World}{K:PySem.W.Frag}{mg:Str->Option Value}{base:Heap}{CX:CXT}{k:Nat}{f:Addr}{fd:FuncData}{ps:List Str}{sp sp':Sp}(F:FnOk P w K mg base CX k f fd ps sp)
  (h:∀vs H Q E,sp' vs H Q E->sp vs H Q E):FnOk P w K mg base CX k f fd ps sp' :=
 ⟨fun vs H Q E q=>F.len vs H Q E (h _ _ _ _ q),fun A outer s H args us vs Q E hr he hb hv hs=>F.run A outer s H args us vs Q E hr he hb hv (h _ _ _ _ hs)⟩
section
variable{X:Cx}{pins:List (Addr×Obj)}{σ:St}{H:Hp}{s s':Shared}
theorem Inv.env0(I:Inv X pins σ H s):Env0 X.prog X.w X.K X.mg X.base X.A X.stack s H :=
 ⟨I.ok.frames,I.ok.mod,I.bs,zzk I.ok.bsz I.sz,I.stack,I.stkFree,I.hok,I.bare⟩
theorem Inv.after{Q:VK}{u:Value}(I:Inv X pins σ H s)(h:CE X.stack X.prog X.w H s Q u s'):EP X pins σ Q u s':=by
 obtain⟨v,H',os,bare,un,hok,r,q⟩:=h
 obtain⟨hh,g,d,t,os'⟩:=s'
 obtain rfl:os'=s.os:=os
 exact⟨v,H',I.call (h':=hh) (g':=g) (d':=d) (t':=t) (ch:=[]) un hok bare (fun b z=>absurd z (by simp)),r,q⟩
end
def EE(sp:Sp)(dvs:List V)(E:XK)(t:TA):TE:=fun σ H Q=>t σ H fun vs H1=>sp (vs++dvs) H1 Q E
def Binds(K:PySem.W.Frag)(fd:FuncData)(ps:List Str)(ds:List Value):Prop :=
 ∀(s:Shared) (us:List Value),K.In s.heap->(us++ds).length=ps.length->BindsTo s fd ⟨us,[]⟩ (ps.zip (us++ds))
theorem Binds.all{K:PySem.W.Frag}{fd:FuncData}{ps:List Str}(h:∀us:List Value,us.length=ps.length->bindArgs fd ⟨us,[]⟩=pure (ps.zip us)):Binds K fd ps []:=fun s us _ hl=>by
 rw[zzM]at hl ⊢
 exact .of_eq (h us hl)
def xf(CX:CXT)(X:Cx)(E:XK):Prop:=∀(pins:List (Addr×Obj)) (σ:St) (H:Hp) (s:Shared) (e:Value) (s':Shared),Inv X pins σ H s->CX X.stack H s E e s'->X.xe e s'
section
variable{X:Cx}{CX:CXT}{k:Nat}{f:Addr}{fd:FuncData}{ps:List Str}{sp:Sp}{dvs:List V}{ds:List Value}{E:XK}{x:Str}{p pos:Pos}{e:Expr}{es:List Expr}{t:TA}
theorem EF{pins:List (Addr×Obj)}{σ:St}{H:Hp}{s:Shared}{Q:VK}{us:List Value}{vs:List V}(F:FnOk X.prog X.w X.K X.mg X.base CX k f fd ps sp)(hr:Room k X.A)(hb:Binds X.K fd ps ds)(hd:Vals dvs ds)(hx:xf CX X E)
  (I:Inv X pins σ H s) (r:Vals vs us) (h:sp (vs++dvs) H Q E):wpAny (model X.prog X.w) X.A (call (.ref f) us) (EP X pins σ Q) X.xe s:=by
 have r2:Vals (vs++dvs) (us++ds):=r.append hd
 have hl:(us++ds).length=ps.length:=by rw[←r2.length];exact F.len _ _ _ _ h
 refine wpAny_call (codeAny_mono (F.run X.A X.stack s H ⟨us,[]⟩ (us++ds) (vs++dvs) Q E hr I.env0 (hb s us I.kIn hl) r2 h) fun r s' hq=>?_)
 cases r with
 |error e=>exact hx pins σ H s e s' I hq
 |ok fl =>
  cases fl with
  |ret u=>exact I.after hq
  |next=>exact False.elim hq
  |brk=>exact False.elim hq
  |cont=>exact False.elim hq
theorem sg(F:FnOk X.prog X.w X.K X.mg X.base CX k f fd ps sp)(hr:Room k X.A)(hg:Gl X x)(hm:X.mg x=some (.ref f))(hk:PySem.W.keepIn X.K (.ref f)=true)(hb:Binds X.K fd ps ds)(hd:Vals dvs ds)(hx:xf CX X E)
  (ha:PA X (e::es) t) (hdb:(x == ("__debug__" : Str))=false:=by decide) (he:starEach (e::es) X.env=(false,eval e X.env)::starEach es X.env:=by rfl) (hpl:(backTo pos (starEach es X.env)).any (·.1)=false:=by rfl) :
  PE X (.Call (.Name x p) (e::es) [] pos) (EE sp dvs E t):=by
 intro pins s σ H Q I h
 refine wpAny_Call_Name_kw (wP I hg hm ?_ hdb)
 refine PySem.W.callWith_K (h₀:=X.base) I.ok.mod.kin hk (thn (ha pos pins s σ H _ I h) fun us s1 ⟨vs,H1,I1,r,q⟩=>⟨I1.kIn,?_⟩) he hpl
 exact EF F hr hb hd hx I1 r q
end
structure FnScope(N P:List Str)(sc:Scope):Prop where
 kind:sc.kind=.function
 co:sc.isCoroutine=false
 gen:sc.isGenerator=false
 nd:N.Nodup
 pre:N.take P.length=P
 par:∀x∈P,sc.names.lookup x=some .local∨sc.names.lookup x=some .cell
 nofree:∀y∈sc.names,y.2 ≠ .free
theorem qi{kindOf:Str->Option NameKind}{x:Str}:∀{binds:List (Str×Value)}{m:Str->Option Value},(∀v,(x,v)∉binds)->bindL kindOf binds m x=m x
 |[],_,_=>rfl
 | (n,v)::r,m,h=>by
  unfold bindL
  rw[qi fun w hw=>h w (zzc _ hw)]
  split
  ·have:x≠n:=by rintro rfl;exact h v zzd
   simp[this]
  ·rfl
theorem qj{kindOf:Str->Option NameKind}{x:Str}:∀{binds:List (Str×Value)}{m:Str->Option Value},(∀v,(x,v)∉binds)->bindC kindOf binds m x=m x
 |[],_,_=>rfl
 | (n,v)::r,m,h=>by
  unfold bindC
  rw[qj fun w hw=>h w (zzc _ hw)]
  split
  ·rfl
  ·have:x≠n:=by rintro rfl;exact h v zzd
   simp[this]
theorem qk{kindOf:Str->Option NameKind}{x:Str}{v:Value}:∀{P:List Str}{vs:List Value}{i:Nat}{m:Str->Option Value},P.Nodup->P[i]? = some x->vs[i]? = some v->kindOf x=some .local ->
  bindL kindOf (P.zip vs) m x=some v
 |[],_,_,_,_,h,_,_=>by simp at h
 |_::_,[],_,_,_,_,h,_=>by simp at h
 |p::P,w::vs,0,m,nd,h1,h2,hk=>by
  simp at h1 h2;subst h1;subst h2
  show bindL kindOf ((p,w)::P.zip vs) m p=_
  unfold bindL
  rw[qi fun v hv=>(zzY.mp nd).1 (List.of_mem_zip hv).1,if_pos hk]
  simp
 |p::P,w::vs,i+1,m,nd,h1,h2,hk=>by
  show bindL kindOf ((p,w)::P.zip vs) m x=_
  unfold bindL
  exact qk (i:=i) (zzY.mp nd).2 (by simpa using h1) (by simpa using h2) hk
theorem qm{kindOf:Str->Option NameKind}{x:Str}{v:Value}:∀{P:List Str}{vs:List Value}{i:Nat}{m:Str->Option Value},P.Nodup->P[i]? = some x->vs[i]? = some v->kindOf x≠some .local ->
  bindC kindOf (P.zip vs) m x=some v
 |[],_,_,_,_,h,_,_=>by simp at h
 |_::_,[],_,_,_,_,h,_=>by simp at h
 |p::P,w::vs,0,m,nd,h1,h2,hk=>by
  simp at h1 h2;subst h1;subst h2
  show bindC kindOf ((p,w)::P.zip vs) m p=_
  unfold bindC
  rw[qj fun v hv=>(zzY.mp nd).1 (List.of_mem_zip hv).1,if_neg hk]
  simp
 |p::P,w::vs,i+1,m,nd,h1,h2,hk=>by
  show bindC kindOf ((p,w)::P.zip vs) m x=_
  unfold bindC
  exact qm (i:=i) (zzY.mp nd).2 (by simpa using h1) (by simpa using h2) hk
def start(N:List Str)(vs:List V):St:=vs.map some++List.replicate (N.length - vs.length) none
def cxOf(CX:CXT)(P:Program)(w:World)(K:PySem.W.Frag)(mg:Str->Option Value)(base:Heap)(N:List Str)(qual:Str)(scope:Scope)(f:Addr)(cd:Value)(A:Around)(outer:List Env)(s:Shared)(H:Hp)(E:XK):Cx where
 prog:=P
 w:=w
 K:=K
 mg:=mg
 base:=base
 A:=A.deeper (envOfC qual scope s.heap.objs.size f cd)
 N:=N
 s₀:=s
 H₀:=H
 env:=envOfC qual scope s.heap.objs.size f cd
 outer:=outer
 stack:=envOfC qual scope s.heap.objs.size f cd::outer
 ex:=[]
 calm:=true
 fn:=fun _=>true
 pn:=[]
 xe:=fun e s'=>wpAny (model P w) (A.deeper (envOfC qual scope s.heap.objs.size f cd)) (leaving (envOfC qual scope s.heap.objs.size f cd) e) (fun _ s''=>CX outer H s E e s'') (fun e' s''=>CX outer H s E e' s'') s'
theorem uh{sc:Scope}{n:Nat}{x:Str}(h:sc.names.lookup x=some .cell):∃c,(cellsFrom n sc.names []).lookup x=some c:=by
 have q:=PySem.W.cellsFrom_some sc.names n [] (.inl h)
 exact Option.isSome_iff_exists.mp q
theorem xg{CX:CXT}{P:Program}{w:World}{K:PySem.W.Frag}{mg:Str->Option Value}{base:Heap}{N ps:List Str}{qual:Str}{scope:Scope}{f:Addr}{cd:Value}{A:Around}{outer:List Env}{s s1:Shared}{H:Hp}{E:XK}{us:List Value}{vs:List V}
  (S:FnScope N ps scope) (hd:A.handled=none) (e0:Env0 P w K mg base A outer s H) (hl:vs.length=ps.length) (r:Vals vs us)
  (x:InCallC s s.heap.objs.size (bindL (envOfC qual scope s.heap.objs.size f cd).kindOf (ps.zip us) fun _=>none) (cellsFrom (s.heap.objs.size+1) scope.names []) (bindC (envOfC qual scope s.heap.objs.size f cd).kindOf (ps.zip us) fun _=>none) s1) :
  Inv (cxOf CX P w K mg base N qual scope f cd A outer s H E) [] (start N vs) H s1:=by
 have hpl:ps.length <= N.length:=by have:=congrArg List.length S.pre;rw[zyF]at this;omega
 obtain⟨h1,tk,rfl,hk⟩:=x.done
 have noA:∀b:Addr,b∉(cxOf CX P w K mg base N qual scope f cd A outer s H E).ex:=fun b z=>absurd (show b∈([]:List Addr) from z) (by simp)
 refine⟨⟨e0.mod,S.kind,rfl,rfl,zzj _,fun y z c h1 h2=>?_,fun y hy=>?_,fun y c _ h=>?_,fun _=>hd,Around.frames_deeper e0.frames,.inr ⟨rfl,rfl⟩,fun b z=>absurd z (noA b),e0.bs,e0.bsz,fun b _ _=>noA b,fun b z=>absurd z (noA b),e0.funs,e0.frf⟩,
  rfl,e0.bare,Un.kept hk,⟨_,x.toInCall.ns,fun i y v h1 h2 h3=>?_⟩,fun y c h=>⟨_,x.cell y c h⟩,e0.hok.fresh (zzj _),fun y c h=>?_,fun p hp=>absurd (show p∈([]:List (Addr×Obj)) from hp) (by simp),e0.hok.kept hk,?_⟩
 ·exact name_of_addr x.apart (zzT h1) (zzT h2)
 ·have hy:scope.names.lookup y=some .cell∨scope.names.lookup y=some .free:=hy
  rcases hy with hy|hy
  ·exact uh hy
  ·exact absurd rfl (S.nofree _ (zzT hy))
 ·exact Nat.le_of_lt (x.above y c (zzT h))
 ·have hi:i<vs.length:=by
   unfold start at h2
   by_cases hi:i<vs.length
   ·exact hi
   ·rw[zzF (by simpa using hi)]at h2
    rw[List.getElem?_replicate]at h2
    split at h2<;>cases h2
  have ha:vs[i]? = some v:=by
   unfold start at h2
   rw[zzE (by simpa using hi),zzn]at h2
   cases e:vs[i]? with
   |none=>rw[e]at h2;cases h2
   |some a=>rw[e]at h2;cases h2;rfl
  obtain⟨u,hu,rv⟩:=r.get ha
  have hp:ps[i]? = some y:=by
   rw[←S.pre,List.getElem?_take_of_lt (by omega)];exact h1
  have ndP:ps.Nodup:=by rw[←S.pre];exact S.nd.sublist (List.take_sublist _ _)
  refine⟨u,rv,?_⟩
  rcases S.par y (zzH hp) with k|k
  ·exact .inl ⟨k,qk ndP hp hu k⟩
  ·obtain⟨c,e⟩:=uh (n:=s.heap.objs.size+1) k
   refine .inr ⟨.inl k,c,e,?_⟩
   have q:=x.cell y c e
   rw[qm ndP hp hu (by show scope.names.lookup y≠_;rw[k];decide)]at q
   exact q
 ·exact e0.hok.fresh (Nat.le_of_lt (x.above y c (zzT h)))
 ·unfold start
  show _=N.length
  rw[zzl,zza,List.length_replicate]
  omega
theorem GL{CX:CXT}{P:Program}{w:World}{K:PySem.W.Frag}{mg:Str->Option Value}{base:Heap}{k:Nat}{f:Addr}{name qual:Str}{params:Arguments}{body:List Stmt}{scope:Scope}{dV kV doc pm cdv ct oc:Value}{an od:Option Addr}
  {osl:Array (Option Value)}{N ps:List Str}{sp:Sp} (lk:K.lookup f=some ⟨oc,od,.func (PySem.W.fnOf name qual params body scope dV kV doc pm an cdv ct),osl⟩) (hcd:PySem.W.codeIn K cdv qual=true) (S:FnScope N ps scope)
  (len:∀vs H Q E,sp vs H Q E->vs.length=ps.length)
  (hbody:∀(A:Around) (outer:List Env) (s:Shared) (H:Hp) (vs:List V) (Q:VK) (E:XK),Room k (A.deeper (envOfC qual scope s.heap.objs.size f cdv))->sp vs H Q E ->
   ∃t,PSs (cxOf CX P w K mg base N qual scope f cdv A outer s H E) body t/\t { nx:=fun _ H'=>Q .non H',rt:=Q } (start N vs) H) :
  FnOk P w K mg base CX (k+1) f (PySem.W.fnOf name qual params body scope dV kV doc pm an cdv ct) ps sp:=by
 refine⟨len,fun A outer s H args us vs Q E hr e0 hb r hsp=>?_⟩
 have hl:=len _ _ _ _ hsp
 have KX:K.In s.heap:=e0.mod.kin.keeps fun b o e=>(e0.bs b o e).1
 have lim:s.heap.NoLimit:=e0.mod.nolimit.keeps fun b o e=>(e0.bs b o e).1
 have hkind:∀y∈ps.zip us,scope.names.lookup y.1=some .local∨(scope.names.lookup y.1=some .cell/\((cellsFrom (s.heap.objs.size+1) scope.names []).lookup y.1).isSome=true):=fun⟨n,v⟩ hy=>by
  rcases S.par n (List.of_mem_zip hy).1 with q|q
  ·exact .inl q
  ·exact .inr ⟨q,PySem.W.cellsFrom_some _ _ _ (.inl q)⟩
 refine codeAny_call_function hr.depth (KX _ _ lk) rfl S.co S.gen rfl (PySem.W.codeRec_of KX hcd) (hb _ _ _ _ ?_)
 refine wpAny_newFunctionEnv_cells S.kind hkind fun env he s1 x=>?_
 subst he
 refine⟨lim.keeps x.toInCall.keep,codeAny_func ?_⟩
 obtain⟨t,ht,hq⟩:=hbody A outer s H vs Q E (hr.deeper _) hsp
 have I:Inv (cxOf CX P w K mg base N qual scope f cdv A outer s H E) [] (start N vs) H s1:=xg S hr.hd e0 hl r x
 refine wpAny_mono (ht [] s1 (start N vs) H _ I hq) (fun fl s' hs=>?_) fun e s' hs=>hs
 have fin:∀{σ':St}{H':Hp}{v:V}{u:Value},Inv (cxOf CX P w K mg base N qual scope f cdv A outer s H E) [] σ' H' s'->RelV v u->Q v H'->CE outer P w H s Q u s' :=
  fun {σ' H' v u} J rv q=>⟨v,H',J.os,J.bare,J.base,J.hok,rv,q⟩
 cases fl with
 |ret u =>
  obtain⟨v,σ',H',J,rv,q⟩:=hs
  exact fin J rv q
 |next =>
  obtain⟨σ',H',J,q⟩:=hs
  exact fin (v:=V.non) (u:=Value.none) J rfl q
 |brk =>
  obtain⟨_,_,_,q⟩:=hs
  exact False.elim q
 |cont =>
  obtain⟨_,_,_,q⟩:=hs
  exact False.elim q
section
variable{X:Cx}{x:Str}{p pos:Pos}{e:Expr}{es:List Expr}{t:TA}{id T:String}{r:List V->Hp->VK->Prop}
def tCB(r:List V->Hp->VK->Prop)(t:TA):TE:=fun σ H Q=>t σ H fun vs H1=>r vs H1 Q
theorem iq(hc:dO X (.builtin id) r)(hg:Gl X x)(hm:X.mg x=none)(hv:bootBuiltins x=some (.builtin id))(ha:PA X (e::es) t)(hn:x ≠ "__name__":=by decide)(hdb:(x == ("__debug__" : Str))=false:=by decide)
  (he:starEach (e::es) X.env=(false,eval e X.env)::starEach es X.env:=by rfl) (hpl:(backTo pos (starEach es X.env)).any (·.1)=false:=by rfl):PE X (.Call (.Name x p) (e::es) [] pos) (tCB r t):=by
 intro pins s σ H Q I h
 refine wpAny_Call_Name_kw (gw I hg hm hv ?_ hn hdb)
 exact PyProof.Rows.callWith_builtin1 (thn (ha pos pins s σ H _ I h) fun us s1 ⟨vs,H1,I1,r1,q1⟩=>hc pins s1 σ H1 vs us Q I1 r1 q1) he hpl
theorem ir(hc:dO X (.type T) r)(hg:Gl X x)(hm:X.mg x=none)(hv:bootBuiltins x=some (.type T))(ha:PA X (e::es) t)(hn:x ≠ "__name__":=by decide)(hdb:(x == ("__debug__" : Str))=false:=by decide)
  (he:starEach (e::es) X.env=(false,eval e X.env)::starEach es X.env:=by rfl) (hpl:(backTo pos (starEach es X.env)).any (·.1)=false:=by rfl):PE X (.Call (.Name x p) (e::es) [] pos) (tCB r t):=by
 intro pins s σ H Q I h
 refine wpAny_Call_Name_kw (gw I hg hm hv ?_ hn hdb)
 exact PyProof.Rows.callWith_type1 (thn (ha pos pins s σ H _ I h) fun us s1 ⟨vs,H1,I1,r1,q1⟩=>hc pins s1 σ H1 vs us Q I1 r1 q1) he hpl
end
end L2
namespace HT
open PySem PyProof.Rows
def lexLt:List Int->List Int->Bool
 |[],[]=>false
 |[],_::_=>true
 |_::_,[]=>false
 |x::xs,y::ys=>if x=y then lexLt xs ys else decide (x<y)
theorem lexLt_cons(x y:Int)(xs ys:List Int):lexLt (x::xs) (y::ys)=if x=y then lexLt xs ys else decide (x<y):=rfl
theorem lexLt_nil_nil:lexLt [] []=false:=rfl
theorem lexLt_nil_cons(y:Int)(ys:List Int):lexLt [] (y::ys)=true:=rfl
theorem lexLt_cons_nil(x:Int)(xs:List Int):lexLt (x::xs) []=false:=rfl
theorem zF(A:Around)(s:Shared)(a:Int)(t:Tok)(c:Int)(u:Tok):∃e,SeqAt.EqAt A s (.int a t) (.int c u) e/\(e=true↔a=c) :=
 ⟨(a == c),SeqAt.EqAt.int_int a t c u,by simp⟩
theorem zG(A:Around)(s:Shared)(a:Int)(t:Tok)(c:Int)(u:Tok)(prog:Program)(w:World)(E:Value->Shared->Prop)(Q:Value->Shared->Prop)(h:Q (.bool (decide (a<c))) s) :
  wpAny (model prog w) A (richCompare .Lt (.int a t) (.int c u)) Q E s :=
 (PyProof.Rows.lt_int h:wpAny (model prog w) A (compareOp .Lt (.int a t) (.int c u)) Q E s)
section
open PySem.SeqAt
open PySem.AutoSeq1 (wpAny_loadPart')
open PySem.MeetsSeq PySem.MeetsSeq2 PySem.MeetsSeq3
theorem om(l b:Addr)(items items2:Array Value)(n n2:Nat)(dd dd2:Option Addr)(sl sl2:Array (Option Value))(ns ms:List Int)(hi:IntsAre items.toList ns)(hj:IntsAre items2.toList ms) :
  Meets (Builtin.«tuple.__lt__» ⟨[.ref l,.ref b],[]⟩)
   (fun _ R s=>s.heap.get? l=some { cls:=.type "tuple",dict:=dd,data:=.seq items n,slots:=sl }/\s.heap.get? b=some { cls:=.type "tuple",dict:=dd2,data:=.seq items2 n2,slots:=sl2 } /\
    R (.ok (.ret (.bool (lexLt ns ms)))) s) :=
 .of_wp fun prog w A R s h=>by
  obtain⟨hp,g,d,tk,os⟩:=s;obtain⟨hl,hb,h⟩:=h
  have f2:=AutoSeq1.sub_tuple_tuple
  have z1:items.size=ns.length:=by rw[←hi.length];simp
  have z2:items2.size=ms.length:=by rw[←hj.length];simp
  wp_walk using wpAny_loadPart' hl,wpAny_loadPart' hb,wpAny_forIn_list _ (fun rest b s'=>b.1=none/\s'=⟨hp,g,d,tk,os⟩/\∃(vs ws:List Value) (ns' ms':List Int),rest=vs.zip ws /\
   IntsAre vs ns'/\IntsAre ws ms'/\ns'.length+items2.size=ms'.length+items.size/\R (.ok (.ret (.bool (lexLt ns' ms')))) ⟨hp,g,d,tk,os⟩) _
  case turn =>
   rintro⟨y,x⟩ rest b s' ⟨hb',rfl,vs,ws,ns',ms',hz,hvi,hwi,hlen,hR⟩
   cases hvi with
   |nil=>rw[List.zip_nil_left]at hz;cases hz
   |cons a t hvi' =>
    cases hwi with
    |nil=>rw[List.zip_nil_right]at hz;cases hz
    |cons c u hwi' =>
     rw[List.zip_cons_cons]at hz
     injection hz with hyx hrest
     injection hyx with hy hx
     subst hy hx
     rw[lexLt_cons]at hR
     simp only[zyG]at hlen
     obtain⟨e,he,hiff⟩:=zF A.in1 ⟨hp,g,d,tk,os⟩ a t c u
     refine wpAny_bind (he prog w _ _ ?_)
     cases e with
     |true =>
      rw[if_pos (hiff.mp rfl)]at hR
      wp_walk
      exact⟨rfl,rfl,_,_,_,_,hrest,hvi',hwi',by omega,hR⟩
     |false =>
      rw[if_neg (fun q=>absurd (hiff.mpr q) zzu)]at hR
      have hri:=zG A.in1 ⟨hp,g,d,tk,os⟩ a t c u prog w
      wp_walk using hri
      exact⟨_,rfl,by simpa using hR⟩
  case fin =>
   rintro⟨b1,b2⟩ s' ⟨hb',rfl,vs,ws,ns',ms',hz,hvi,hwi,hlen,hR⟩
   simp only at hb'
   subst hb'
   have hv:lexLt ns' ms'=decide (items.size<items2.size):=by
    cases hvi with
    |nil =>
     cases hwi with
     |nil =>
      simp only[List.length_nil]at hlen
      rw[lexLt_nil_nil]
      exact(decide_eq_false (by omega)).symm
     |cons c u hw =>
      simp only[List.length_nil,zyG]at hlen
      rw[lexLt_nil_cons]
      exact(decide_eq_true (by omega)).symm
    |cons a t hv =>
     cases hwi with
     |nil =>
      simp only[List.length_nil,zyG]at hlen
      rw[lexLt_cons_nil]
      exact(decide_eq_false (by omega)).symm
     |cons c u hw =>
      rw[List.zip_cons_cons]at hz
      cases hz
   rw[hv]at hR
   wp_walk
   exact⟨_,rfl,by simpa[Builtin.Tuple.tupleCompareSizes]using hR⟩
  case h =>
   exact⟨rfl,rfl,items.toList,items2.toList,ns,ms,rfl,hi,hj,by omega,h⟩
end
section
variable{prog:Program}{w:World}{A:Around}{E:Value->Shared->Prop}{s:Shared}
theorem lt_tupInts{l b:Addr}{items items2:Array Value}{ns ms:List Int}{Q:Value->Shared->Prop}(hl:IsTup s.heap l items)(hb:IsTup s.heap b items2)(hi:IntsAre items.toList ns)(hj:IntsAre items2.toList ms)
  (hu:A.units<cLine) (h:Q (.bool (lexLt ns ms)) s):wpAny (model prog w) A (compareOp .Lt (.ref l) (.ref b)) Q E s:=by
 obtain⟨⟨cls,dd,data,sl⟩,ho,hc,n,hd⟩:=id hl
 obtain⟨⟨cls2,dd2,data2,sl2⟩,ho2,hc2,n2,hd2⟩:=id hb
 simp only at hc hd hc2 hd2
 subst hc hd hc2 hd2
 exact richCompare_meets_room (op:=.Lt) ⟨_,ho,rfl⟩ ⟨_,ho2,rfl⟩ PySem.F.slot_tuple_lt PySem.F.entry_tuple_lt (PySem.F.args_tuple_lt_2 _ _) (om l b items items2 n n2 dd dd2 sl sl2 ns ms hi hj)
  ⟨ho,ho2,show Value.bool (lexLt ns ms)≠Value.notImplemented/\Q (.bool (lexLt ns ms)) s from⟨(fun x=>nomatch x),h⟩⟩ hu
theorem cat_tup{t b:Addr}{vs ws:List Value}{Q:Value->Shared->Prop}(ht:IsTup s.heap t vs.toArray)(hb:IsTup s.heap b ws.toArray)(hv:vs≠[])
  (h1:ws=[]->Q (.ref t) s) (h2:ws≠[]->Q (.ref s.heap.objs.size) { s with heap:=s.heap.push { cls:=.type "tuple",data:=.seq (vs++ws).toArray } })
  (hsz:vs.length+ws.length <= sizeLine):wpAny (model prog w) A (binaryOp .Add (.ref t) (.ref b)) Q E s:=by
 obtain⟨⟨cls,dd,data,sl⟩,ho,hc,n,hd⟩:=id ht
 obtain⟨⟨cls2,dd2,data2,sl2⟩,ho2,hc2,n2,hd2⟩:=id hb
 simp only at hc hd hc2 hd2
 subst hc hd hc2 hd2
 have e:vs.toArray++ws.toArray=(vs++ws).toArray:=by simp
 by_cases hw:ws=[]
 ·exact concat_meets ⟨_,ho,rfl⟩ ⟨_,ho2,rfl⟩ noFill_tuple_add seq_tuple_add PySem.F.slot_tuple_add PySem.F.entry_tuple_add (PySem.F.args_tuple_add_2 _ _)
   (tuple_addW1 t b vs.toArray ws.toArray n n2 dd dd2 sl sl2 (by simpa using hv) (by simp[hw])) ⟨ho,ho2,h1 hw⟩
 ·refine concat_meets ⟨_,ho,rfl⟩ ⟨_,ho2,rfl⟩ noFill_tuple_add seq_tuple_add PySem.F.slot_tuple_add PySem.F.entry_tuple_add (PySem.F.args_tuple_add_2 _ _)
   (tuple_addW2 t b vs.toArray ws.toArray n n2 dd dd2 sl sl2 (by simpa using hv) (by simpa using hw) (by rw[zzr,zzr];exact hsz)) ⟨ho,ho2,?_⟩
  rw[e]
  exact h2 hw
def sIx(n d:Nat):Option Int->Nat
 |none=>d
 |some v=>if v<0 then(v+(n:Int)).toNat else min v.toNat n
theorem sIx_nat(n d k:Nat):sIx n d (some (k:Int))=min k n:=by
 show (if (k:Int)<0 then((k:Int)+(n:Int)).toNat else min (k:Int).toNat n)=min k n
 rw[if_neg (by omega),zzP]
theorem EG(n d:Nat)(hd:d <= n)(o:Option Int):sIx n d o <= n:=by
 cases o with
 |none=>exact hd
 |some v =>
  show (if v<0 then(v+(n:Int)).toNat else min v.toNat n) <= n
  by_cases hv:v<0
  ·rw[if_pos hv];omega
  ·rw[if_neg hv];exact Nat.min_le_right _ _
theorem xh(v:Int)(n d:Nat):(if v<0 then max (v+(n:Int)) 0 else min v (n:Int))=((sIx n d (some v):Nat):Int):=by
 show (if v<0 then max (v+(n:Int)) 0 else min v (n:Int))=(((if v<0 then(v+(n:Int)).toNat else min v.toNat n):Nat):Int)
 by_cases hv:v<0
 ·simp only[if_pos hv];omega
 ·simp only[if_neg hv];omega
theorem vQ(lo hi:Option Int)(n:Nat):Builtin.Slice.sliceAdjust lo hi 1 (n:Int)=(((sIx n 0 lo:Nat):Int),((sIx n n hi:Nat):Int)):=by
 have h1:¬((1:Int)<0):=by omega
 unfold Builtin.Slice.sliceAdjust
 simp only[h1,if_false]
 refine Prod.ext ?_ ?_
 ·cases lo with
  |none=>rfl
  |some v=>exact xh v n 0
 ·cases hi with
  |none=>rfl
  |some v=>exact xh v n n
theorem vR(i j:Nat):Builtin.Slice.slicePlaces (i:Int) (j:Int) 1=j - i:=by
 unfold Builtin.Slice.slicePlaces
 have h1:(1:Int)>0:=by omega
 simp only[h1,if_true,Int.ediv_one]
 split<;>omega
theorem slicePart_{v:Value}{o:Option Int}{Q:Option Int->Shared->Prop}(p:IsPart v o)(h:Q o s):wpAny (model prog w) A (Builtin.Slice.slicePartIndex v) Q E s:=by
 cases p with
 |none=>exact slicePart_none h
 |int i t=>exact slicePart_int h
theorem sliceApplied_gen{sl:Addr}{vl vu:Value}{lo hi:Option Int}{n:Nat}{Q:Int×Int×Nat->Shared->Prop}(hs:s.heap.IsSliceOf sl vl vu .none)(pl:IsPart vl lo)(pu:IsPart vu hi)
  (h:Q (((sIx n 0 lo:Nat):Int),1,sIx n n hi - sIx n 0 lo) s):wpAny (model prog w) A (Builtin.Slice.sliceApplied (.ref sl) (pure (n:Int))) Q E s:=by
 obtain⟨os,hos,hcs,hds⟩:=id hs
 unfold Builtin.Slice.sliceApplied Builtin.Slice.sliceFields
 refine wpAny_bind (wpAny_bind (wpAny_field hos hds (x:=vl) rfl (wpAny_bind (wpAny_field hos hds (x:=vu) rfl (wpAny_bind (wpAny_field hos hds (x:=.none) rfl (wpAny_pure ?_)))))))
 refine wpAny_bind (slicePart_none ?_)
 show wpAny _ _ (if ((1:Int) == 0)=true then _ else _) _ _ s
 rw[if_neg (by decide)]
 refine wpAny_bind (slicePart_ pl (wpAny_bind (slicePart_ pu (wpAny_bind (wpAny_pure ?_)))))
 show wpAny _ _ (match Builtin.Slice.sliceAdjust lo hi 1 (n:Int) with | (lo,hi)=>pure (lo,(1:Int),Builtin.Slice.slicePlaces lo hi 1)) _ _ s
 rw[vQ lo hi n]
 show wpAny _ _ (pure (((sIx n 0 lo:Nat):Int),(1:Int),Builtin.Slice.slicePlaces ((sIx n 0 lo:Nat):Int) ((sIx n n hi:Nat):Int) 1)) _ _ s
 rw[vR]
 exact wpAny_pure h
theorem zH(xs:Array Value)(i k:Nat):((List.range k).filterMap fun(m:Nat)=>xs[((i:Int)+(m:Int)*1).toNat]?).toArray=((xs.toList.drop i).take k).toArray:=by
 have e:(fun(m:Nat)=>xs[((i:Int)+(m:Int)*1).toNat]?)=fun m=>xs[i+m]?:=by
  funext m
  have:((i:Int)+(m:Int)*1).toNat=i+m:=by omega
  rw[this]
 rw[e]
 have:=pick_run xs i k
 rw[List.filterMap_map]at this
 have e2:((fun x=>xs[x]?) ∘ fun x=>i+x)=fun m=>xs[i+m]?:=rfl
 rw[e2]at this
 rw[this]
theorem getItem_tuple_cut{t sl:Addr}{items:Array Value}{vl vu:Value}{lo hi:Option Int}{Q:Value->Shared->Prop}(ht:IsTup s.heap t items)(hs:s.heap.IsSliceOf sl vl vu .none)(pl:IsPart vl lo)(pu:IsPart vu hi)
  (hw:¬(sIx items.size 0 lo=0/\sIx items.size items.size hi=items.size))
  (h:Q (.ref s.heap.objs.size) { s with heap:=s.heap.push { cls:=.type "tuple",data:=.seq ((items.toList.drop (sIx items.size 0 lo)).take (sIx items.size items.size hi - sIx items.size 0 lo)).toArray } })
  (hsz:items.size <= sizeLine):wpAny (model prog w) A (getItem (.ref t) (.ref sl)) Q E s:=by
 have htake:sizeOk (.seq ((items.toList.drop (sIx items.size 0 lo)).take (sIx items.size items.size hi - sIx items.size 0 lo)).toArray):=by
  show ((items.toList.drop (sIx items.size 0 lo)).take (sIx items.size items.size hi - sIx items.size 0 lo)).toArray.size <= sizeLine
  rw[zzr,zyF,List.length_drop,zyE]
  omega
 have hj:sIx items.size items.size hi <= items.size:=EG _ _ (zzj _) hi
 obtain⟨os,hos,hcs,hds⟩:=id hs
 have hTs:s.TypeIs (.ref sl) "slice":=⟨os,hos,hcs⟩
 unfold getItem
 try with_reducible refine wpAny_holding ?_
 first|refine wpAny_bind (wpAny_pure ?_)|skip
 refine wpAny_bind (wpAny_sequenceKey ht.typeIs (by decide) ?_)
 refine wpAny_bind (wpAny_callSpecial?_slot (name:=Str.ofString "__getitem__") ht.typeIs PyProof.Rows.slot_tuple_getitem
  (wpAny_call_entry PyProof.Rows.slot_tuple_getitem ht.typeIs entry_tuple_getitem ?_ (args_tuple_getitem _ _)))
 show wpAny _ _ (Builtin.Tuple.tupleItemsOf (.ref t) >>= _) _ _ s
 refine wpAny_bind (tupleItemsOf_ ht ?_)
 refine wpAny_bind (wpAny_typeOf hTs ?_)
 rw[if_pos (by decide)]
 refine wpAny_bind (sliceApplied_gen hs pl pu ?_)
 have hno:¬((((sIx items.size 0 lo:Nat):Int) == 0 && (1:Int) == 1 && (sIx items.size items.size hi - sIx items.size 0 lo) == items.size)=true):=by
  intro q
  rw[zzK,zzK]at q
  have q1:((sIx items.size 0 lo:Nat):Int)=0:=eq_of_beq q.1.1
  have q2:sIx items.size items.size hi - sIx items.size 0 lo=items.size:=eq_of_beq q.2
  exact hw ⟨by omega,by omega⟩
 show wpAny _ _ (if (((sIx items.size 0 lo:Nat):Int) == 0 && (1:Int) == 1 && (sIx items.size items.size hi - sIx items.size 0 lo) == items.size)=true then _ else _) _ _ s
 rw[if_neg hno,zH]
 first
  |exact wpAny_bind (m:=Builtin.Tuple.tupleExact _) (wpAny_newObj_type (wpAny_pure ⟨_,rfl,wpAny_pure h⟩) htake)
  |exact wpAny_bind (m:=Builtin.Tuple.tupleExact _) (wpAny_newObj_type (wpAny_bind (wpAny_pure (wpAny_pure ⟨_,rfl,wpAny_pure h⟩))) htake)
  |exact wpAny_bind (wpAny_bind (m:=Builtin.Tuple.tupleExact _) (wpAny_newObj_type (wpAny_pure (wpAny_pure ⟨_,rfl,wpAny_pure h⟩)) htake))
  |exact wpAny_bind (wpAny_bind (m:=Builtin.Tuple.tupleExact _) (wpAny_newObj_type (wpAny_pure ⟨_,rfl,wpAny_pure h⟩) htake))
end
end HT
namespace L2
open PySem PySem.Spec PyProof.Rows
abbrev TO:=St->Hp->(Option Int->Hp->Prop)->Prop
def PO(X:Cx)(e:Option Expr)(t:TO):Prop :=
 ∀(pins:List (Addr×Obj)) (s:Shared) (σ:St) (H:Hp) (Q:Option Int->Hp->Prop),Inv X pins σ H s->t σ H Q ->
  wpAny (model X.prog X.w) X.A (evalPart e X.env) (fun u s'=>∃o H',Inv X pins σ H' s'/\IsPart u o/\Q o H') X.xe s
def Ch:TO:=fun _ H Q=>Q none H
def GM(t:TE):TO:=fun σ H Q=>t σ H fun x H1=>∃i,x=.int i/\Q (some i) H1
theorem vS{ns:List Int}:∀{us:List Value},Vals (ns.map V.int) us->IntsAre us ns:=by
 induction ns with
 |nil=>intro us r;rw[zzS]at r;cases r;exact .nil
 |cons n ns ih =>
  intro us r
  rw[zze]at r
  cases r with
  |cons r1 r2 =>
   obtain⟨t,e⟩:=r1
   subst e
   exact .cons n t (ih r2)
section
variable{X:Cx}{e:Expr}{te:TE}{lo hi:Option Expr}{tl th:TO}{pos p2:Pos}
theorem sh:PO X none Ch:=by
 intro pins s σ H Q I h
 rw[evalPart_none]
 exact wpAny_pure ⟨none,H,I,.none,h⟩
theorem Ci(h:PE X e te):PO X (some e) (GM te):=by
 intro pins s σ H Q I hw
 rw[evalPart_some]
 refine thn (h pins s σ H _ I hw) fun u s1 ⟨x,H1,I1,r1,q1⟩=>?_
 obtain⟨i,rfl,q⟩:=q1
 obtain⟨t,rfl⟩:=r1
 exact⟨some i,H1,I1,.int i t,q⟩
def SlR(X:Cx)(r:V->Option Int->Option Int->Hp->VK->Prop):Prop :=
 ∀(pins:List (Addr×Obj)) (s:Shared) (σ:St) (H:Hp) (x:V) (v vl vu:Value) (lo hi:Option Int) (sl:Addr) (Q:VK),Inv X pins σ H s->RelV x v->s.heap.IsSliceOf sl vl vu .none->IsPart vl lo->IsPart vu hi->r x lo hi H Q ->
  ∃T id,typeLookup (.type T) "__getitem__" = pure (some (.builtin id))/\s.TypeIs v T/\wpAny (model X.prog X.w) X.A (getItem v (.ref sl)) (EP X pins σ Q) X.xe s
theorem SlR.or{r r':V->Option Int->Option Int->Hp->VK->Prop}(h:SlR X r)(h':SlR X r'):SlR X (fun x lo hi H Q=>r x lo hi H Q∨r' x lo hi H Q):=by
 intro pins s σ H x v vl vu lo hi sl Q I rx hs pl pu q
 rcases q with q|q
 ·exact h pins s σ H x v vl vu lo hi sl Q I rx hs pl pu q
 ·exact h' pins s σ H x v vl vu lo hi sl Q I rx hs pl pu q
def tSl(r:V->Option Int->Option Int->Hp->VK->Prop)(te:TE)(tl th:TO):TE:=fun σ H Q=>te σ H fun x H1=>tl σ H1 fun l H2=>th σ H2 fun u H3=>r x l u H3 Q
theorem ui{r:V->Option Int->Option Int->Hp->VK->Prop}(hr:SlR X r)(he:PE X e te)(hl:PO X lo tl)(hu:PO X hi th):PE X (.Subscript e (.Slice lo hi none p2) pos) (tSl r te tl th):=by
 intro pins s σ H Q I h
 refine Subscript_ (thn (he pins s σ H _ I h) fun v s1 ⟨x,H1,I1,r1,q1⟩=>?_)
 refine wpAny_Slice (thn (hl pins s1 σ H1 _ I1 q1) fun vl s2 ⟨l,H2,I2,pl,q2⟩=>thn (hu pins s2 σ H2 _ I2 q2) fun vu s3 ⟨u,H3,I3,pu,q3⟩=>?_)
 rw[evalPart_none]
 refine wpAny_pure ?_
 have I4:Inv X pins σ H3 { s3 with heap:=s3.heap.push { cls:=.type "slice",data:=.fields #[vl,vu,.none] } }:=I3.kept (t':=s3.toks) fun b ob q=>zzf _ q
 obtain⟨T,id,hT,ht,hg⟩:=hr pins { s3 with heap:=s3.heap.push { cls:=.type "slice",data:=.fields #[vl,vu,.none] } } σ H3 x v vl vu l u s3.heap.objs.size Q I4 r1 (Heap.IsSliceOf.new ..) pl pu q3
 show wpAny (model X.prog X.w) X.A (subscriptTail e (.Slice lo hi none p2) v (.ref s3.heap.objs.size)) (EP X pins σ Q) X.xe { s3 with heap:=s3.heap.push { cls:=.type "slice",data:=.fields #[vl,vu,.none] } }
 exact tail_any (ops:=[.ref s3.heap.objs.size,v]) ht hT hg (by with_unfolding_all rfl)
def cutV(xs:List V)(lo hi:Option Int):List V:=(xs.drop (HT.sIx xs.length 0 lo)).take (HT.sIx xs.length xs.length hi - HT.sIx xs.length 0 lo)
theorem li(xs:List V)(lo hi:Option Int):(cutV xs lo hi).length <= xs.length:=by
 unfold cutV
 rw[zyF,List.length_drop]
 omega
def rSlT(K:PySem.W.Frag):V->Option Int->Option Int->Hp->VK->Prop:=fun x lo hi H Q=>∃a xs,x=.ref a/\SqT K H a xs /\
 ¬(HT.sIx xs.length 0 lo=0/\HT.sIx xs.length xs.length hi=xs.length)/\∀p,H p=none->Q (.ref p) (upd H p (.tup (cutV xs lo hi)))
theorem EH:SlR X (rSlT X.K):=by
 intro pins s σ H x v vl vu lo hi sl Q I rx hs pl pu h
 obtain⟨a,xs,rfl,hx,hw,q⟩:=h
 cases rx
 obtain⟨its,r,ht,hz⟩:=I.tuple hx
 have hlen:its.toArray.size=xs.length:=by rw[zzr];exact r.length.symm
 refine⟨"tuple",_,PyProof.Rows.slot_tuple_getitem.lookup,ht.typeIs,?_⟩
 refine HT.getItem_tuple_cut ht hs pl pu (by rw[hlen];exact hw) ?_ (by rw[hlen];exact hz)
 rw[hlen]
 refine⟨.ref s.heap.objs.size,_,I.laid (t':=s.toks) (o:=.tup (cutV xs lo hi)) (fun b ob q=>zzf _ q) (zzj _) ?_,rfl,q _ (I.hok.fresh (zzj _))⟩
 exact⟨⟨zzk (li xs lo hi) hz,.inl ⟨_,zzs _ rfl,rfl⟩⟩,_,(r.drop (HT.sIx xs.length 0 lo)).take (HT.sIx xs.length xs.length hi - HT.sIx xs.length 0 lo),IsTup.new _ _⟩
def EI(K:PySem.W.Frag):R2:=fun x y H Q=>∃a b xs ys,x=.ref a/\y=.ref b/\SqT K H a xs/\SqT K H b ys/\xs≠[]/\xs.length+ys.length <= sizeLine /\
 (ys=[]->Q (.ref a) H)/\(ys≠[]->∀p,H p=none->Q (.ref p) (upd H p (.tup (xs++ys))))
theorem Vals.nil_iff{xs:List V}{us:List Value}(r:Vals xs us):us=[]↔xs=[]:=by
 cases r with
 |nil=>simp
 |cons _ _=>simp
theorem Cj:OpR X (binaryOp .Add) (EI X.K):=by
 intro pins s σ H x y v u Q I rx ry h
 obtain⟨a,b,xs,ys,rfl,rfl,ha,hb,hx,hz,q1,q2⟩:=h
 cases rx
 cases ry
 obtain⟨its,r1,p1,_⟩:=I.tuple ha
 obtain⟨its2,r2,p2,_⟩:=I.tuple hb
 refine HT.cat_tup p1 p2 (fun z=>hx (r1.nil_iff.mp z)) (fun z=>⟨.ref a,H,I,rfl,q1 (r2.nil_iff.mp z)⟩) (fun z=>?_) (by rw[←r1.length,←r2.length];exact hz)
 refine⟨.ref s.heap.objs.size,_,I.laid (t':=s.toks) (o:=.tup (xs++ys)) (fun b ob q=>zzf _ q) (zzj _) ?_,rfl,q2 (fun w=>z (r2.nil_iff.mpr w)) _ (I.hok.fresh (zzj _))⟩
 exact⟨⟨by rw[zzl];exact hz,.inl ⟨_,zzs _ rfl,rfl⟩⟩,_,r1.append r2,IsTup.new _ _⟩
end
def ixN(n:Nat)(i:Int):Option Nat:=if 0 <= i then(if i<n then some i.toNat else none) else if -(n:Int) <= i then some (i+n).toNat else none
def atI{α:Type}(xs:List α)(i:Int):Option α:=(ixN xs.length i).bind fun j=>xs[j]?
theorem xj{n:Nat}{i:Int}{j:Nat}(h:ixN n i=some j):seqIndex? i n=some j/\j<n/\-(n:Int) <= i/\i<n:=by
 unfold ixN at h
 by_cases h0:0 <= i
 ·rw[if_pos h0]at h
  by_cases h1:i<n
  ·rw[if_pos h1]at h
   have e:i.toNat=j:=zyj h
   exact⟨by rw[seqIndex_of h0 h1,e],by omega,by omega,h1⟩
  ·rw[if_neg h1]at h;cases h
 ·rw[if_neg h0]at h
  by_cases h1 : -(n:Int) <= i
  ·rw[if_pos h1]at h
   have e:(i+n).toNat=j:=zyj h
   exact⟨by rw[seqIndex_neg (by omega) h1,e],by omega,h1,by omega⟩
  ·rw[if_neg h1]at h;cases h
theorem xk{α:Type}{xs:List α}{i:Int}{v:α}(h:atI xs i=some v):∃j,seqIndex? i xs.length=some j/\xs[j]? = some v/\j<xs.length/\-(xs.length:Int) <= i/\i<xs.length:=by
 unfold atI at h
 cases e:ixN xs.length i with
 |none=>rw[e]at h;cases h
 |some j =>
  rw[e]at h
  obtain⟨h1,h2,h3,h4⟩:=xj e
  exact⟨j,h1,h,h2,h3,h4⟩
theorem sk{α:Type}{xs:List α}{j:Nat}{v:α}(h:xs[j]? = some v):atI xs (j:Int)=some v:=by
 have hj:j<xs.length:=(zzt.mp h).1
 have e:ixN xs.length (j:Int)=some j:=by
  unfold ixN
  rw[if_pos (by omega),if_pos (by omega)];simp
 unfold atI;rw[e];exact h
def sn(b:Expr):Prop:=∀o i,subscripted b false o i=operate [o,i] (getItem o i)
def IxR(X:Cx)(r:R2):Prop :=
 ∀(value slice:Expr) (pins:List (Addr×Obj)) (s:Shared) (σ:St) (H:Hp) (x y:V) (v u:Value) (Q:VK),Inv X pins σ H s->RelV x v->RelV y u->r x y H Q ->
  subscripted slice false v u=operate [v,u] (getItem v u)->wpAny (model X.prog X.w) X.A (subscriptTail value slice v u) (EP X pins σ Q) X.xe s
def MtR(X:Cx)(id:String)(r:V->List V->Hp->VK->Prop):Prop :=
 ∀(pins:List (Addr×Obj)) (s:Shared) (σ:St) (H:Hp) (x:V) (xs:List V) (v:Value) (us:List Value) (Q:VK),Inv X pins σ H s->RelV x v->Vals xs us->r x xs H Q ->
  wpAny (model X.prog X.w) X.A (call (.builtin id) (v::us)) (EP X pins σ Q) X.xe s
section
variable{X:Cx}{a b:Expr}{ta tb:TE}{pos:Pos}
theorem IxR.or{r r':R2}(h:IxR X r)(h':IxR X r'):IxR X (fun x y H Q=>r x y H Q∨r' x y H Q):=by
 intro value slice pins s σ H x y v u Q I rx ry q hs
 rcases q with q|q
 ·exact h value slice pins s σ H x y v u Q I rx ry q hs
 ·exact h' value slice pins s σ H x y v u Q I rx ry q hs
theorem xl{r:R2}(hr:IxR X r)(ha:PE X a ta)(hb:PE X b tb)(hs:sn b):PE X (.Subscript a b pos) (tOp r ta tb):=by
 intro pins s σ H Q I h
 exact Subscript_ (binT ha hb I h fun v u s2 x y H2 I2 rx ry q=>hr a b pins s2 σ H2 x y v u Q I2 rx ry q (hs _ _))
def rIxL(K:PySem.W.Frag):R2:=fun x y H Q=>∃p xs i v,x=.ref p/\y=.int i/\SqL K H p xs/\atI xs i=some v/\Q v H
def rIxT(K:PySem.W.Frag):R2:=fun x y H Q=>∃p xs i v,x=.ref p/\y=.int i/\SqT K H p xs/\atI xs i=some v/\Q v H
theorem oq:IxR X (rIxL X.K):=by
 intro value slice pins s σ H x y v u Q I rx ry h hs
 obtain⟨p,xs,i,z,rfl,rfl,hq,he,q⟩:=h
 cases rx
 obtain⟨t,rfl⟩:=ry
 obtain⟨its,r,pl,hz⟩:=I.list hq
 obtain⟨j,h1,h2,h3,h4,h5⟩:=xk he
 obtain⟨w,ew,rw'⟩:=r.get h2
 have hl:=r.length
 have hn:=ug
 have fin:EP X pins σ Q w s:=⟨z,H,I,rw',q⟩
 by_cases h0:0 <= i
 ·have hj:i.toNat=j:=by
   rw[seqIndex_of h0 h5]at h1
   exact zyj h1
  exact item_listR pl.isList h0 (by omega) (by rw[hj];simpa using ew) fin hs
 ·have hj:(i+(its.toArray.size:Int)).toNat=j:=by
   rw[seqIndex_neg (by omega) h4]at h1
   rw[zzr,←hl]
   exact zyj h1
  exact subscriptTail_builtinR (x:=w) pl.isList.typeIs slot_list_getitem.lookup
   (wpAny_getItem_list_neg (Q:=fun r s'=>r=w/\EP X pins σ Q r s') pl.isList (by omega) (by rw[zzr]<;>omega) (by omega) (by rw[hj];simpa using ew) ⟨rfl,fin⟩) hs
theorem EJ:IxR X (rIxT X.K):=by
 intro value slice pins s σ H x y v u Q I rx ry h hs
 obtain⟨p,xs,i,z,rfl,rfl,hq,he,q⟩:=h
 cases rx
 obtain⟨t,rfl⟩:=ry
 obtain⟨its,r,pl,hz⟩:=I.tuple hq
 obtain⟨j,h1,h2,h3,h4,h5⟩:=xk he
 obtain⟨w,ew,rw'⟩:=r.get h2
 have hl:=r.length
 have hn:=ug
 have fin:EP X pins σ Q w s:=⟨z,H,I,rw',q⟩
 exact subscriptTail_builtinR (x:=w) pl.typeIs slot_tuple_getitem.lookup
  (getItem_tuple (j:=j) (Q:=fun r s'=>r=w/\EP X pins σ Q r s') pl (by omega) (by omega) (by rw[zzr,←hl];exact h1) (by simpa using ew) ⟨rfl,fin⟩) hs
theorem vT(its:List Value)(n j:Nat)(u:Value):Obj.mapSeq (·.setIfInBounds j u) { cls:=.type "list",data:=.seq its.toArray n }={ cls:=.type "list",data:=.seq (its.set j u).toArray n }:=by
 simp[Obj.mapSeq]
theorem Inv.lst{pins:List (Addr×Obj)}{σ:St}{H:Hp}{s:Shared}{p:Addr}{xs:List V}(I:Inv X pins σ H s)(h:H p=some (.lst xs)) :
  ∃(its:List Value) (n:Nat),Vals xs its/\s.heap.get? p=some { cls:=.type "list",data:=.seq its.toArray n }/\xs.length <= sizeLine:=by
 obtain⟨z,its,n,r,e⟩:=I.hok p _ h
 exact⟨its,n,r,e,z⟩
theorem Inv.lstUpd{pins:List (Addr×Obj)}{σ:St}{H:Hp}{s:Shared}{p:Addr}{xs ys:List V}{its its':List Value}{n n':Nat}{f:Obj->Obj}(I:Inv X pins σ H s)(h:H p=some (.lst xs))
  (ho:s.heap.get? p=some { cls:=.type "list",data:=.seq its.toArray n }) (hf:f { cls:=.type "list",data:=.seq its.toArray n }={ cls:=.type "list",data:=.seq its'.toArray n' }) (r:Vals ys its') (hz:ys.length <= sizeLine) (t:Nat) :
  Inv X pins σ (upd H p (.lst ys)) { s with heap:=s.heap.update p f,toks:=t }:=by
 have e:(s.heap.update p f).get? p=some { cls:=.type "list",data:=.seq its'.toArray n' }:=by
  rw[zyg f ho (by rw[hf]<;>rfl),hf]
 refine I.write (x:=p) (e:=p) (by rw[h];trivial) (.inl rfl) (fun b u hb q=>(zyd _ _ (Ne.symm hb)).trans q) ⟨_,e⟩ ?_
 exact⟨hz,its',n',r,e⟩
def GN:V->V->V->Hp->(Hp->Prop)->Prop:=fun o i v H Q=>∃p xs k j,o=.ref p/\i=.int k/\H p=some (.lst xs)/\ixN xs.length k=some j/\Q (upd H p (.lst (xs.set j v)))
theorem ou:PSet X GN:=by
 intro pins s σ H o i v ov iv u Q I ro ri rv h
 obtain⟨p,xs,k,j,rfl,rfl,hp,hj,q⟩:=h
 cases ro
 obtain⟨t,rfl⟩:=ri
 obtain⟨its,n,r,ho,hz⟩:=I.lst hp
 obtain⟨h1,h2,h3,h4⟩:=xj hj
 have hl:=r.length
 have hn:=ug
 have I':Inv X pins σ (upd H p (.lst (xs.set j v))) { s with heap:=s.heap.update p (Obj.mapSeq (·.setIfInBounds j u)) } :=
  I.lstUpd hp ho (vT its n j u) (r.set rv j) (by rw[zyJ];exact hz) s.toks
 by_cases h0:0 <= k
 ·have hk:k.toNat=j:=by
   rw[seqIndex_of h0 h4]at h1
   exact zyj h1
  exact PySem.W.ki_setAt ho h0 (by omega) (by rw[zzr,←hl];exact h4) (by rw[hk];exact⟨_,I',q⟩)
 ·have hk:(k+(its.toArray.size:Int)).toNat=j:=by
   rw[seqIndex_neg (by omega) h3]at h1
   rw[zzr,←hl]
   exact zyj h1
  exact PySem.W.ki_setBack ho (by omega) (by rw[zzr,←hl];exact h3) (by omega) (by rw[hk];exact⟨_,I',q⟩)
theorem qo(lo hi:Option Int)(n:Nat):(sliceBounds lo hi none n).1=((HT.sIx n 0 lo:Nat):Int)/\(sliceBounds lo hi none n).2.1=((HT.sIx n n hi:Nat):Int)/\(sliceBounds lo hi none n).2.2=1:=by
 refine⟨?_,?_,rfl⟩
 ·cases lo with
  |none=>simp[sliceBounds,HT.sIx]
  |some i =>
   simp only[sliceBounds,HT.sIx,Option.getD_none,show (1:Int)>0 by decide,if_true]
   by_cases h:i<0
   ·simp only[h,if_true]<;>omega
   ·simp only[h,if_false]<;>omega
 ·cases hi with
  |none=>simp[sliceBounds,HT.sIx]
  |some i =>
   simp only[sliceBounds,HT.sIx,Option.getD_none,show (1:Int)>0 by decide,if_true]
   by_cases h:i<0
   ·simp only[h,if_true]<;>omega
   ·simp only[h,if_false]<;>omega
theorem oA(its:List Value)(lo hi:Option Int):slicePick its.toArray lo hi none=((its.drop (HT.sIx its.length 0 lo)).take (HT.sIx its.length its.length hi - HT.sIx its.length 0 lo)).toArray:=by
 obtain⟨h1,h2,h3⟩:=qo lo hi its.toArray.size
 unfold slicePick
 rw[h1,h2,h3]
 simp only[sliceRange_one,pick_run,zzr]<;>rfl
def rSlL(K:PySem.W.Frag):V->Option Int->Option Int->Hp->VK->Prop:=fun x lo hi H Q=>∃a xs,x=.ref a/\SqL K H a xs/\∀p,H p=none->Q (.ref p) (upd H p (.lst (cutV xs lo hi)))
theorem Ck:SlR X (rSlL X.K):=by
 intro pins s σ H x v vl vu lo hi sl Q I rx hs pl pu h
 obtain⟨a,xs,rfl,hx,q⟩:=h
 cases rx
 obtain⟨its,r,ht,hz⟩:=I.list hx
 have hlen:=r.length
 refine⟨"list",_,slot_list_getitem.lookup,ht.isList.typeIs,?_⟩
 refine wpAny_getItem_list_slice ht.isList hs pl pu .none (by simp) ?_ (by rw[zzr]<;>omega)
 rw[oA,←hlen]
 refine⟨.ref s.heap.objs.size,_,I.laid (t':=s.toks) (o:=.lst (cutV xs lo hi)) (fun b ob q=>zzf _ q) (zzj _) ?_,rfl,q _ (I.hok.fresh (zzj _))⟩
 exact⟨zzk (li xs lo hi) hz,_,0,(r.drop (HT.sIx xs.length 0 lo)).take (HT.sIx xs.length xs.length hi - HT.sIx xs.length 0 lo),zzs _ rfl⟩
def fh:V->Bool
 |.non=>true
 |.bl _=>true
 |.int _=>true
 |.str _=>true
 |_=>false
def eqV:V->V->Bool
 |.non,.non=>true
 |.bl a,.bl b=>a == b
 |.bl a,.int b=>(if a then 1 else 0) == b
 |.int a,.bl b=>a == (if b then 1 else 0)
 |.int a,.int b=>a == b
 |.str a,.str b=>a == b
 |_,_=>false
theorem EK{A:Around}{s:Shared}{y x:V}{u v:Value}(ry:RelV y u)(rx:RelV x v)(fy:fh y=true)(fx:fh x=true):SeqAt.EqAt A s u v (eqV y x):=by
 cases y with
 |non =>
  cases ry
  cases x with
  |non=>cases rx;exact SeqAt.EqAt.same _
  |bl b=>cases rx;exact SeqAt.EqAt.none_bool b
  |int b=>obtain⟨t,rfl⟩:=rx;exact SeqAt.EqAt.none_int b t
  |str b=>obtain⟨t,rfl⟩:=rx;exact SeqAt.EqAt.none_str b t
  |_=>exact absurd (show false=true from fx) zzu
 |bl a =>
  cases ry
  cases x with
  |non=>cases rx;exact SeqAt.EqAt.bool_none a
  |bl b=>cases rx;exact SeqAt.EqAt.bool_bool a b
  |int b=>obtain⟨t,rfl⟩:=rx;exact SeqAt.EqAt.bool_int a b t
  |str b=>obtain⟨t,rfl⟩:=rx;exact SeqAt.EqAt.bool_str a b t
  |_=>exact absurd (show false=true from fx) zzu
 |int a =>
  obtain⟨t',rfl⟩:=ry
  cases x with
  |non=>cases rx;exact SeqAt.EqAt.int_none a t'
  |bl b=>cases rx;exact SeqAt.EqAt.int_bool a t' b
  |int b=>obtain⟨t,rfl⟩:=rx;exact SeqAt.EqAt.int_int a t' b t
  |str b=>obtain⟨t,rfl⟩:=rx;exact SeqAt.EqAt.int_str a t' b t
  |_=>exact absurd (show false=true from fx) zzu
 |str a =>
  obtain⟨t',rfl⟩:=ry
  cases x with
  |non=>cases rx;exact SeqAt.EqAt.str_none a t'
  |bl b=>cases rx;exact SeqAt.EqAt.str_bool a t' b
  |int b=>obtain⟨t,rfl⟩:=rx;exact SeqAt.EqAt.str_int a t' b t
  |str b=>obtain⟨t,rfl⟩:=rx;exact SeqAt.EqAt.str_str a t' b t
  |_=>exact absurd (show false=true from fx) zzu
 |_=>exact absurd (show false=true from fy) zzu
def eqU(x:V)(u:Value):Bool:=match u with
 |.none=>eqV .non x
 |.bool b=>eqV (.bl b) x
 |.int i _=>eqV (.int i) x
 |.str z _=>eqV (.str z) x
 |_=>false
theorem uj{x y:V}{u:Value}(r:RelV y u)(f:fh y=true):eqU x u=eqV y x:=by
 cases y with
 |non=>cases r;rfl
 |bl b=>cases r;rfl
 |int i=>obtain⟨t,rfl⟩:=r;rfl
 |str z=>obtain⟨t,rfl⟩:=r;rfl
 |_=>exact absurd (show false=true from f) zzu
theorem sr{x:V}:∀{xs:List V}{us:List Value},Vals xs us->xs.all fh=true->us.any (eqU x)=xs.any fun y=>eqV y x
 |_,_,.nil,_=>rfl
 |y::xs,u::us,.cons r t,f=>by
  rw[List.all_cons,zzK]at f
  rw[zyM,zyM,uj r f.1,sr t f.2]
theorem iu{A:Around}{s:Shared}{x:V}{v:Value}(rx:RelV x v)(fx:fh x=true):∀{xs:List V}{us:List Value},Vals xs us->xs.all fh=true->∀u∈us,SeqAt.EqAt A s u v (eqU x u)
 |_,_,.nil,_=>fun u hu=>by cases hu
 |y::xs,u::us,.cons r t,f=>fun u' hu=>by
  rw[List.all_cons,zzK]at f
  rcases zzi.mp hu with rfl|hu
  ·rw[uj r f.1];exact EK r rx f.1 fx
  ·exact iu rx fx t f.2 u' hu
def inV(x:V)(xs:List V):Bool:=xs.any fun y=>eqV y x
def rIn(K:PySem.W.Frag)(neg:Bool):R2:=fun x y H Q=>∃p xs,y=.ref p/\(SqL K H p xs∨SqT K H p xs)/\fh x=true/\xs.all fh=true/\Q (.bl (if neg then !inV x xs else inV x xs)) H
theorem qp:OpR X (compareOp .NotIn) (rIn X.K true):=by
 intro pins s σ H x y v u Q I rx ry h
 obtain⟨p,xs,rfl,hq,fx,fs,q⟩:=h
 cases ry
 rcases hq with hq|hq
 ·obtain⟨its,r,pl,hz⟩:=I.list hq
  refine SeqAt.notIn_listAt (eqU x) pl.isList (fun w hw=>iu rx fx r fs w (by simpa using hw)) ⟨.bl _,H,I,rfl,?_⟩
  rw[show its.toArray.any (eqU x)=its.any (eqU x) by simp,sr r fs]
  exact q
 ·obtain⟨its,r,pl,hz⟩:=I.tuple hq
  refine SeqAt.notIn_tupleAt (eqU x) pl (fun w hw=>iu rx fx r fs w (by simpa using hw)) ⟨.bl _,H,I,rfl,?_⟩
  rw[show its.toArray.any (eqU x)=its.any (eqU x) by simp,sr r fs]
  exact q
theorem cL:dO X (.builtin "len") (fun xs H Q=>∃p ys,xs=[.ref p]/\(SqL X.K H p ys∨SqT X.K H p ys)/\Q (.int ys.length) H):=by
 intro pins s σ H xs us Q I r h
 obtain⟨p,ys,rfl,hq,q⟩:=h
 obtain⟨u,rfl,rx⟩:=kw r
 cases rx
 have hn:=ug
 rcases hq with hq|hq
 ·obtain⟨its,r',pl,hz⟩:=I.list hq
  have hlen:=r'.length
  exact Calls.call_len_list pl.isList (by simp only[zzr]<;>omega) ⟨.int ys.length,H,I.tok _,⟨s.toks+1,by rw[zzr,hlen]⟩,q⟩
 ·obtain⟨its,r',pl,hz⟩:=I.tuple hq
  have hlen:=r'.length
  exact len_tuple pl (by simp only[zzr]<;>omega) ⟨.int ys.length,H,I.tok _,⟨s.toks+1,by rw[zzr,hlen]⟩,q⟩
theorem qq:dO X (.type "list") (fun xs H Q=>∃p ys,xs=[.ref p]/\(SqL X.K H p ys∨SqT X.K H p ys)/\∀l,H l=none->Q (.ref l) (upd H l (.lst ys))):=by
 intro pins s σ H xs us Q I r h
 obtain⟨p,ys,rfl,hq,q⟩:=h
 obtain⟨u,rfl,rx⟩:=kw r
 cases rx
 have fin:∀(its:List Value),Vals ys its->ys.length <= sizeLine->∀(h':Heap) (c':Nat),(∀b o',s.heap.get? b=some o'->h'.get? b=some o') ->
   h'.get? s.heap.objs.size=some { cls:=.type "list",dict:=none,data:=.seq its.toArray c',slots:=#[] }->EP X pins σ Q (.ref s.heap.objs.size) { s with heap:=h' }:=fun its r' hz h' c' kp e =>
  ⟨.ref s.heap.objs.size,_,I.laid (t':=s.toks) kp (zzj _) (show ObjOk X.prog X.w _ h' _ (.lst ys) from⟨hz,its,c',r',e⟩),rfl,q _ (I.hok.fresh (zzj _))⟩
 rcases hq with hq|hq
 ·obtain⟨its,r',pl,hz⟩:=I.list hq
  have hlen:=r'.length
  obtain⟨o,ho,hc,n,hd⟩:=pl.isList
  exact call_list_seq p (.inl rfl) ho hc hd (fun h' c' kp e=>fin its r' hz h' c' kp e) (by simp only[zzr]<;>omega)
 ·obtain⟨its,r',pl,hz⟩:=I.tuple hq
  have hlen:=r'.length
  obtain⟨o,ho,hc,n,hd⟩:=pl
  exact call_list_seq p (.inr rfl) ho hc hd (fun h' c' kp e=>fin its r' hz h' c' kp e) (by simp only[zzr]<;>omega)
theorem oB:dO X (.type "tuple") (fun xs H Q=>∃p ys,xs=[.ref p]/\((SqL X.K H p ys/\∀l,H l=none->Q (.ref l) (upd H l (.tup ys)))∨(SqT X.K H p ys/\Q (.ref p) H))):=by
 intro pins s σ H xs us Q I r h
 obtain⟨p,ys,rfl,h⟩:=h
 obtain⟨u,rfl,rx⟩:=kw r
 cases rx
 rcases h with ⟨hq,q⟩|⟨hq,q⟩
 ·obtain⟨its,r',pl,hz⟩:=I.list hq
  have hlen:=r'.length
  refine call_tuple_list pl.isList (fun h' kp=>?_) (by simp only[zzr]<;>omega)
  have I1:Inv X pins σ H { s with heap:=h' }:=I.kept (t':=s.toks) kp
  have I2:Inv X pins σ (upd H h'.objs.size (.tup ys)) { s with heap:=h'.push { cls:=.type "tuple",data:=.seq its.toArray } } :=
   I1.laid (t':=s.toks) (fun b o e=>zzf _ e) (zzj _) (show ObjOk X.prog X.w _ _ _ (.tup ys) from⟨⟨hz,.inl ⟨_,zzs _ rfl,rfl⟩⟩,its,r',IsTup.new _ _⟩)
  exact⟨.ref h'.objs.size,_,I2,rfl,q _ (I1.hok.fresh (zzj _))⟩
 ·obtain⟨its,r',pl,hz⟩:=I.tuple hq
  exact call_tuple_same pl ⟨.ref p,H,I,rfl,q⟩
def tyV(K:PySem.W.Frag)(T:String)(x:V)(H:Hp):Prop:=match x with
 |.str _=>T = "str"
 |.int _=>T = "int"
 |.ref p=>(T = "list" /\ ∃xs,SqL K H p xs)∨(T = "tuple" /\ ∃o,K.lookup p=some o/\o.cls=.type "tuple" /\ o.dict=none) ∨
   (T = "dict" /\ ((∃kvs,H p=some (.dK kvs))∨∃kvs,H p=some (.dT kvs)))∨(T = "set" /\ ∃S n,H p=some (.set S n))
 |_=>False
theorem EL{pins:List (Addr×Obj)}{σ:St}{H:Hp}{s:Shared}{T:String}{x:V}{v:Value}(I:Inv X pins σ H s)(r:RelV x v)(ty:tyV X.K T x H) :
  s.TypeIs v T/\∀a,v=.ref a->∃ob,s.heap.get? a=some ob/\ob.dict=none:=by
 cases x with
 |str z =>
  obtain⟨t,rfl⟩:=r
  cases (show T = "str" from ty)
  exact⟨typeIs_str s z t,fun _ e=>nomatch e⟩
 |int i =>
  obtain⟨t,rfl⟩:=r
  cases (show T = "int" from ty)
  exact⟨typeIs_int s i t,fun _ e=>nomatch e⟩
 |ref p =>
  cases r
  rcases ty with ⟨rfl,xs,hq⟩|⟨rfl,o,hk,hc,hd⟩|⟨rfl,hk⟩|⟨rfl,S,n,hk⟩
  ·obtain⟨its,_,pl,_⟩:=I.list hq
   refine⟨pl.isList.typeIs,fun a e=>?_⟩
   cases e
   obtain⟨o,n,e,c,hd,_⟩:=pl
   exact⟨o,e,hd⟩
  ·refine⟨⟨o,I.kIn p o hk,hc⟩,fun a e=>?_⟩
   cases e
   exact⟨o,I.kIn _ o hk,hd⟩
  ·have z:∃o,s.heap.get? p=some o/\o.ExactDict:=by
    rcases hk with ⟨kvs,hk⟩|⟨kvs,hk⟩
    ·obtain⟨_,_,_,_,o,_,_,e,ex,_⟩:=I.hok p _ hk
     exact⟨o,e,ex⟩
    ·obtain⟨_,_,_,_,o,_,_,e,ex,_⟩:=I.hok p _ hk
     exact⟨o,e,ex⟩
   obtain⟨o,e,ex⟩:=z
   refine⟨⟨o,e,ex.1⟩,fun a e2=>?_⟩
   cases e2
   exact⟨o,e,ex.2.1⟩
  ·obtain⟨o,_,_,_,e,ex,_⟩:=I.hok p _ hk
   refine⟨⟨o,e,ex.1⟩,fun a e2=>?_⟩
   cases e2
   exact⟨o,e,ex.2.1⟩
 |_=>exact False.elim ty
def tBM(K:PySem.W.Frag)(T:String)(r:V->List V->Hp->VK->Prop)(to:TE)(t:TA):TE:=fun σ H Q=>to σ H fun x H1=>tyV K T x H1/\t σ H1 fun xs H2=>r x xs H2 Q
variable{o e:Expr}{es:List Expr}{to:TE}{t:TA}{name:Str}{apos cpos:Pos}{T id:String}{r:V->List V->Hp->VK->Prop}
theorem xm(pa:PlainAttrs T)(slot:Slot T name id)(hty:typeOf (.builtin id)=pure (.type "method_descriptor"))(hm:MtR X id r)(ho:PE X o to)(ha:PA X (e::es) t)
  (hbase:attributeBase o name X.env (eval o X.env)=eval o X.env:=by rfl)
  (hfew:((backTo cpos (starEach (e::es) X.env)).all (fun x=>!x.1) && (backToKw cpos (keywordEach [] X.env)).all (fun x=>x.1.isSome)
   && decide ((e::es).length+([]:List Keyword).length+(if ([]:List Keyword).isEmpty then 0 else 1)<30))=true:=by rfl)
  (hline:(apos.endLine == cpos.line)=true:=by rfl) (hs:starEach (e::es) X.env=(false,eval e X.env)::starEach es X.env:=by rfl) (hplain:(backTo cpos (starEach es X.env)).any (·.1)=false:=by rfl) :
  PE X (.Call (.Attribute o name apos) (e::es) [] cpos) (tBM X.K T r to t):=by
 intro pins s σ H Q I h
 refine wpAny_Call_method_late hbase hfew hline rfl (thn (ho pins s σ H _ I h) fun v s1 ⟨x,H1,I1,r1,ty,q1⟩=>?_)
 obtain⟨h1,h2⟩:=EL I1 r1 ty
 refine⟨T,id,pa,slot,hty,h1,h2,?_⟩
 have hA:=ha cpos pins s1 σ H1 _ I1 q1
 rw[hs]at hA ⊢
 refine Calls.callWith_builtin (by show (false || (backTo cpos (starEach es X.env)).any (·.1))=false;rw[hplain]<;>rfl) (Calls.evalArgs_plain ?_)
 exact thn hA fun us s2 ⟨vs,H2,I2,r2,q2⟩=>hm pins s2 σ H2 x vs v us Q I2 r1 r2 q2
end
def MtM(X:Cx)(id:String)(r:V->List V->Hp->VK->Prop):Prop :=
 ∀(pins:List (Addr×Obj)) (s:Shared) (σ:St) (H:Hp) (x:V) (xs:List V) (v:Value) (us:List Value) (Q:VK),Inv X pins σ H s->RelV x v->Vals xs us->r x xs H Q ->
  wpAny (model X.prog X.w) X.A (call (.builtin id) (v::us)) (EP X pins σ Q) X.xe s
theorem Vals.one:∀{x:V}{us:List Value},Vals [x] us->∃u,us=[u]/\RelV x u
 |_,_,.cons r .nil=>⟨_,rfl,r⟩
theorem Vals.two:∀{x y:V}{us:List Value},Vals [x,y] us->∃u v,us=[u,v]/\RelV x u/\RelV y v
 |_,_,_,.cons r (.cons q .nil)=>⟨_,_,rfl,r,q⟩
theorem Vals.reverse{xs:List V}{us:List Value}(h:Vals xs us):Vals xs.reverse us.reverse:=by
 induction h with
 |nil=>exact .nil
 |cons r t ih=>rw[List.reverse_cons,List.reverse_cons];exact Vals.append ih (.cons r .nil)
theorem Vals.rep{xs:List V}{us:List Value}(h:Vals xs us):∀k:Nat,Vals (List.replicate k xs).flatten (List.replicate k us).flatten
 |0=>.nil
 |k+1=>by
  rw[zzW,zzW,zyu,zyu]
  exact Vals.append h (Vals.rep h k)
theorem lj(its:List Value):∀(k:Nat) (acc:List Value),
  List.foldl (fun x1 x2=>x1++x2) acc.toArray (List.replicate k its.toArray)=(acc++(List.replicate k its).flatten).toArray
 |0,acc=>by simp
 |k+1,acc=>by
  have e:acc.toArray++its.toArray=(acc++its).toArray:=by simp
  have e2:(acc++its)++(List.replicate k its).flatten=acc++(List.replicate (k+1) its).flatten:=by
   rw[zzW,zyu,zyC]
  rw[←e2,←lj its k (acc++its),←e,zzW,List.foldl_cons]
section
variable{X:Cx}{pins:List (Addr×Obj)}{σ:St}{H:Hp}{s:Shared}{l:Addr}{xs ys:List V}
theorem Inv.lset{its its':List Value}{n:Nat}{f:Array Value->Array Value}{t':Nat}(I:Inv X pins σ H s)(hH:H l=some (.lst xs))
  (e:s.heap.get? l=some { cls:=.type "list",data:=.seq its.toArray n }) (hf:f its.toArray=its'.toArray) (hv:Vals ys its') (hz:ys.length <= sizeLine) :
  Inv X pins σ (upd H l (.lst ys)) { s with heap:=s.heap.update l (Obj.mapSeq f),toks:=t' }:=by
 have q:=PySem.IsL.update e f
 rw[hf]at q
 refine I.write (x:=l) (e:=l) (by rw[hH];exact trivial) (.inl rfl) (fun b' u hb hu=>(zyd s.heap (Obj.mapSeq f) (Ne.symm hb)).trans hu) ⟨_,q⟩ ?_
 exact⟨hz,its',_,hv,q⟩
theorem Inv.lnew{its:List Value}{t':Nat}(I:Inv X pins σ H s)(hv:Vals ys its)(hz:ys.length <= sizeLine) :
  Inv X pins σ (upd H s.heap.objs.size (.lst ys)) { s with heap:=s.heap.push { cls:=.type "list",data:=.seq its.toArray },toks:=t' } :=
 I.laid (fun _ _ q=>zzf _ q) (zzj _) ⟨hz,its,0,hv,zzs _ rfl⟩
theorem Inv.fresh(I:Inv X pins σ H s):H s.heap.objs.size=none:=I.hok.fresh (zzj _)
theorem Inv.lstM(I:Inv X pins σ H s)(hH:H l=some (.lst xs)):xs.length <= sizeLine/\∃(its:List Value) (n:Nat),Vals xs its/\xs.length=its.length/\s.heap.get? l=some { cls:=.type "list",data:=.seq its.toArray n }:=by
 obtain⟨z,its,n,r,e⟩:=I.hok l _ hH
 exact⟨z,its,n,r,r.length,e⟩
theorem uk{n:Nat}(h:n <= sizeLine):Builtin.List.listTooLong n=false:=by
 unfold Builtin.List.listTooLong
 exact decide_eq_false (by omega)
end
section
variable{X:Cx}
def xo:V->List V->Hp->VK->Prop:=fun x vs H Q=>∃l xs y,x=.ref l/\vs=[y]/\H l=some (.lst xs)/\xs.length<sizeLine/\Q .non (upd H l (.lst (xs++[y])))
theorem lq:MtM X "list.append" xo:=by
 intro pins s σ H x vs v us Q I rx rv h
 obtain⟨l,xs,y,rfl,rfl,hH,hz,q⟩:=h
 cases rx
 obtain⟨u,rfl,ru⟩:=rv.one
 obtain⟨z,its,n,r,hl,e⟩:=I.lstM hH
 refine call_meets F.slot_list_append ⟨_,e,rfl⟩ F.entry_list_append (F.args_list_append_2 _ _) (PySem.list_append l its.toArray n u (by rw[zzr];omega)) ⟨e,?_⟩
 refine⟨.non,_,I.lset (its':=its++[u]) hH e (by simp) (r.append (.cons ru .nil)) ?_,rfl,q⟩
 rw[zzl,zzL]
 omega
def xp:V->List V->Hp->VK->Prop:=fun x vs H Q=>∃l b xs zs,x=.ref l/\vs=[.ref b]/\H l=some (.lst xs)/\H b=some (.lst zs)/\xs.length+zs.length <= sizeLine/\Q .non (upd H l (.lst (xs++zs)))
theorem xq:MtM X "list.extend" xp:=by
 intro pins s σ H x vs v us Q I rx rv h
 obtain⟨l,b,xs,zs,rfl,rfl,hH,hB,hz,q⟩:=h
 cases rx
 obtain⟨u,rfl,ru⟩:=rv.one
 cases ru
 obtain⟨z,its,n,r,hl,e⟩:=I.lstM hH
 obtain⟨z2,its2,n2,r2,hl2,e2⟩:=I.lstM hB
 have hsz:its.toArray.size+its2.toArray.size <= sizeLine:=by rw[zzr,zzr];omega
 have hlong:¬(!its.toArray.isEmpty && Builtin.List.listTooLong (its.toArray.size+its2.toArray.size))=true:=by
  rw[uk hsz,Bool.and_false]
  exact zzu
 refine call_meets F.slot_list_extend ⟨_,e,rfl⟩ F.entry_list_extend (F.args_list_extend_2 _ _)
  (AutoSeq1.list_extend_list_list_0 l its.toArray n b its2.toArray n2 hlong (by rw[zzr];omega) (by omega)) ⟨e,e2,?_⟩
 refine⟨.non,_,I.lset (its':=its++its2) hH e (by simp) (r.append r2) ?_,rfl,q⟩
 rw[zzl]
 omega
def rCat:R2:=fun x y H Q=>∃l b xs zs,x=.ref l/\y=.ref b/\H l=some (.lst xs)/\H b=some (.lst zs)/\xs.length+zs.length <= sizeLine/\∀p,H p=none->Q (.ref p) (upd H p (.lst (xs++zs)))
theorem EM:OpR X (binaryOp .Add) rCat:=by
 intro pins s σ H x y v u Q I rx ry h
 obtain⟨l,b,xs,zs,rfl,rfl,hH,hB,hz,q⟩:=h
 cases rx
 cases ry
 obtain⟨z,its,n,r,hl,e⟩:=I.lstM hH
 obtain⟨z2,its2,n2,r2,hl2,e2⟩:=I.lstM hB
 refine PySem.P.add_list e e2 ?_ (by rw[zzr,zzr];omega)
 have ea:its.toArray++its2.toArray=(its++its2).toArray:=by simp
 rw[ea]
 exact⟨.ref _,_,I.lnew (t':=s.toks) (r.append r2) (by rw[zzl];omega),rfl,q _ I.fresh⟩
def rRep:R2:=fun x y H Q=>∃l k xs,x=.ref l/\y=.int k/\H l=some (.lst xs)/\-(2^63) <= k/\k<2^63/\xs.length*k.toNat <= sizeLine /\
 ∀p,H p=none->Q (.ref p) (upd H p (.lst (List.replicate k.toNat xs).flatten))
theorem ss{α:Type}(xs:List α)(k:Nat):(List.replicate k xs).flatten.length=k*xs.length:=by
 induction k with
 |zero=>simp
 |succ k ih=>rw[zzW,zyu,zzl,ih,Nat.succ_mul,Nat.add_comm]
theorem EQ:OpR X (binaryOp .Mult) rRep:=by
 intro pins s σ H x y v u Q I rx ry h
 obtain⟨l,k,xs,rfl,rfl,hH,h1,h2,hz,q⟩:=h
 cases rx
 obtain⟨t,rfl⟩:=ry
 obtain⟨z,its,n,r,hl,e⟩:=I.lstM hH
 have hlen:its.toArray.size*k.toNat <= sizeLine:=by rw[zzr,←hl];exact hz
 have hcap:¬its.toArray.size*k.toNat>(2^63 - 1) / 8:=by
  have:(sizeLine:Nat) <= (2^63 - 1) / 8:=by decide
  omega
 have hfit:¬(!Builtin.List.listFitsIndex k)=true:=by
  rw[fitsIndex_both h1 h2]
  exact zzu
 have hlong:¬Builtin.List.listTooLong (its.toArray.size*k.toNat)=true:=by
  rw[uk hlen]
  exact zzu
 have hnew:List.foldl (fun x1 x2=>x1++x2) #[] (List.replicate (if its.toArray.isEmpty=true then 0 else k.toNat) its.toArray)=(List.replicate k.toNat its).flatten.toArray:=by
  have f0:∀m:Nat,List.foldl (fun x1 x2=>x1++x2) #[] (List.replicate m its.toArray)=(List.replicate m its).flatten.toArray:=fun m=>by
   have:=lj its m []
   rw[List.nil_append]at this
   exact this
  rw[f0]
  cases its with
  |nil=>simp
  |cons a r'=>rw[if_neg (by simp)]
 refine wpAny_binaryOp_repeat_ref (T:="list") (U:="int") (by decide) ⟨_,e,rfl⟩ (fun s'=>typeIs_int s' k t) noFill_list_mul F.fills_int_mul F.slot_int_rmul repeat_list F.slot_int_index.lookup
  (call_meets F.slot_int_rmul (typeIs_int s k t) F.entry_int_rmul (F.args_int_rmul_2 _ _) (int___rmul___int_list k t l its.toArray n)
   ⟨e,rfl,⟨_,e,rfl⟩,call_meets F.slot_list_mul ⟨_,e,rfl⟩ F.entry_list_mul (F.args_list_mul_2 _ _) (AutoListH.list___mul___list_int_3 l its.toArray n k t hfit hcap hlong) ⟨e,?_⟩⟩)
 rw[hnew]
 exact⟨.ref _,_,I.lnew (t':=s.toks) (r.rep k.toNat) (by rw[ss,Nat.mul_comm];exact hz),rfl,q _ I.fresh⟩
end
section
variable{κ:Type}[DecidableEq κ]
def valV(kvs:List (κ×V))(k:κ):Option V:=(kvs.find? fun kv=>decide (kv.1=k)).map (·.2)
def putK(kvs:List (κ×V))(k:κ)(v:V):List (κ×V) :=
 if (kvs.any fun kv=>decide (kv.1=k))=true then kvs.map (fun kv=>if kv.1=k then(kv.1,v) else kv) else kvs++[(k,v)]
theorem kJ{p:κ×V}{r:List (κ×V)}{k:κ}(e:p.1=k):valV (p::r) k=some p.2:=by simp[valV,zyT,e]
theorem iw{p:κ×V}{r:List (κ×V)}{k:κ}(e:¬p.1=k):valV (p::r) k=valV r k:=by simp[valV,zyT,e]
theorem oC(k:κ):∀kvs:List (κ×V),(kvs.any fun kv=>decide (kv.1=k))=(valV kvs k).isSome
 |[]=>rfl
 |p::r=>by
  rw[zyM]
  by_cases e:p.1=k
  ·simp only[kJ e,decide_eq_true e,Bool.true_or,Option.isSome_some]
  ·rw[iw e,decide_eq_false e,Bool.false_or];exact oC k r
theorem gA(kvs:List (κ×V))(k:κ)(v:V):(putK kvs k v).length <= kvs.length+1:=by
 unfold putK
 split
 ·rw[zza];omega
 ·rw[zzl,zyG,List.length_nil];omega
theorem RelO.isSome_eq{o:Option V}{u:Option Value}(r:RelO o u):o.isSome=u.isSome:=by
 cases o with
 |none=>cases u with
  |none=>rfl
  |some _=>exact(show False from r).elim
 |some _=>cases u with
  |none=>exact(show False from r).elim
  |some _=>rfl
theorem RelO.getD{o:Option V}{u:Option Value}{d:V}{d':Value}(r:RelO o u)(rd:RelV d d'):RelV (o.getD d) (u.getD d'):=by
 cases o with
 |none=>cases u with
  |none=>exact rd
  |some _=>exact(show False from r).elim
 |some _=>cases u with
  |none=>exact(show False from r).elim
  |some _=>exact r
theorem KV.val{kvs:List (κ×V)}{vs:List (κ×Value)}(r:KV kvs vs)(k:κ):RelO (valV kvs k) (valueAt vs k):=by
 unfold KV at r
 induction r with
 |nil=>exact True.intro
 |@cons p q ps qs h t ih =>
  obtain⟨h1,h2⟩:=h
  by_cases e:p.1=k
  ·have e':q.1=k:=h1.symm.trans e
   have b:valueAt (q::qs) k=some q.2:=by simp[valueAt,zyT,e']
   rw[kJ e,b];exact h2
  ·have e':¬q.1=k:=fun z=>e (h1.trans z)
   have b:valueAt (q::qs) k=valueAt qs k:=by simp[valueAt,zyT,e']
   rw[iw e,b];exact ih
theorem KV.any{kvs:List (κ×V)}{vs:List (κ×Value)}(r:KV kvs vs)(k:κ):(kvs.any fun kv=>decide (kv.1=k))=vs.any fun kv=>decide (kv.1=k):=by
 unfold KV at r
 induction r with
 |nil=>rfl
 |cons h t ih=>rw[zyM,zyM,ih,h.1]
theorem KV.repl{kvs:List (κ×V)}{vs:List (κ×Value)}(r:KV kvs vs)(k:κ){y:V}{u:Value}(ry:RelV y u) :
  KV (kvs.map fun kv=>if kv.1=k then(kv.1,y) else kv) (vs.map fun kv=>if kv.1=k then(kv.1,u) else kv):=by
 unfold KV at r ⊢
 induction r with
 |nil=>exact .nil
 |@cons p q ps qs h t ih =>
  rw[zze,zze]
  refine .cons ?_ ih
  obtain⟨h1,h2⟩:=h
  by_cases e:p.1=k
  ·rw[if_pos e,if_pos (h1.symm.trans e)];exact⟨h1,ry⟩
  ·rw[if_neg e,if_neg (fun z=>e (h1.trans z))];exact⟨h1,h2⟩
theorem KV.put{kvs:List (κ×V)}{vs:List (κ×Value)}(r:KV kvs vs)(k:κ){y:V}{u:Value}(ry:RelV y u):KV (putK kvs k y) (stored vs k u):=by
 unfold putK stored
 rw[r.any k]
 by_cases e:(vs.any fun kv=>decide (kv.1=k))=true
 ·rw[if_pos e,if_pos e];exact r.repl k ry
 ·rw[if_neg e,if_neg e];exact Paired.snoc r ⟨rfl,ry⟩
theorem KV.length{kvs:List (κ×V)}{vs:List (κ×Value)}(r:KV kvs vs):kvs.length=vs.length:=Paired.length r
end
theorem zI{P:Program}{w:World}{k:Key}{u:Value}(r:RelV (kV k) u):(aP P w).is k u=true:=by
 cases k with
 |inl i=>obtain⟨t,e⟩:=(show ∃t,u=Value.int i t from r);subst e;exact kY P w i t
 |inr x=>obtain⟨t,e⟩:=(show ∃t,u=Value.str x t from r);subst e;exact sf P w x t
theorem qr{P:Program}{w:World}:∀{ks:List Key}{us:List Value},Vals (ks.map kV) us->ItemsAre (aP P w) ks us
 |[],_,r=>by rw[zzS]at r;cases r;exact .nil
 |k::ks,_,r=>by
  rw[zze]at r
  cases r with
  |cons h t=>exact .cons (zI h) (qr t)
abbrev KT(H:Hp):List (List Key×V)->List (List Key×Addr×Value)->Prop:=Paired fun p q=>p.1=q.1/\H q.2.1=some (.tup (p.1.map kV))/\RelV p.2 q.2.2
theorem KT.val{H:Hp}{kvs:List (List Key×V)}{xs:List (List Key×Addr×Value)}(r:KT H kvs xs)(k:List Key):RelO (valV kvs k) ((atKey xs k).map (·.2)):=by
 induction r with
 |nil=>exact True.intro
 |@cons p q ps qs h t ih =>
  obtain⟨h1,_,h2⟩:=h
  by_cases e:p.1=k
  ·have e':q.1=k:=h1.symm.trans e
   have b:atKey (q::qs) k=some q.2:=by simp[atKey,zyT,e']
   rw[kJ e,b];exact h2
  ·have e':¬q.1=k:=fun z=>e (h1.trans z)
   have b:atKey (q::qs) k=atKey qs k:=by simp[atKey,zyT,e']
   rw[iw e,b];exact ih
theorem KT.repl{H:Hp}{kvs:List (List Key×V)}{xs:List (List Key×Addr×Value)}(r:KT H kvs xs)(k:List Key){y:V}{u:Value}(ry:RelV y u) :
  KT H (kvs.map fun kv=>if kv.1=k then(kv.1,y) else kv) (xs.map (putAt k u)):=by
 induction r with
 |nil=>exact .nil
 |@cons p q ps qs h t ih =>
  rw[zze,zze]
  refine .cons ?_ ih
  obtain⟨h1,h2,h3⟩:=h
  unfold putAt
  by_cases e:p.1=k
  ·rw[if_pos e,if_pos (h1.symm.trans e)];exact⟨h1,h2,ry⟩
  ·rw[if_neg e,if_neg (fun z=>e (h1.trans z))];exact⟨h1,h2,h3⟩
theorem KT.put{H:Hp}{kvs:List (List Key×V)}{xs:List (List Key×Addr×Value)}(r:KT H kvs xs)(k:List Key){b:Addr}{y:V}{u:Value}(hb:H b=some (.tup (k.map kV)))(ry:RelV y u) :
  KT H (putK kvs k y) (storedH xs k b u):=by
 have e:(kvs.any fun kv=>decide (kv.1=k))=(atKey xs k).isSome:=by
  rw[oC,(r.val k).isSome_eq,Option.isSome_map]
 unfold putK storedH
 rw[e]
 by_cases q:(atKey xs k).isSome=true
 ·rw[if_pos q,if_pos q];exact r.repl k ry
 ·rw[if_neg q,if_neg q];exact Paired.snoc r ⟨rfl,hb,ry⟩
theorem KT.keeps{H H':Hp}{kvs:List (List Key×V)}{xs:List (List Key×Addr×Value)}(r:KT H kvs xs)(ht:∀b ys,H b=some (.tup ys)->H' b=some (.tup ys)):KT H' kvs xs :=
 Paired.mapP r fun _ _ z=>⟨z.1,ht _ _ z.2.1,z.2.2⟩
section
variable{P:Program}{w:World}{H:Hp}{h:Heap}{a:Addr}
theorem ER{u:HO}(ok:HOk P w H h)(e:Rd H a u):ObjOk P w H h a u:=e.ok ok
theorem xr{kvs:List (Key×V)}(ok:HOk P w H h)(e:Rd H a (.dK kvs)):kvs.length <= sizeLine/\(a == sysModules)=false/\∃vs,KV kvs vs/\h.DictOf (aP P w) a vs :=
 show ObjOk P w H h a (.dK kvs) from ER ok e
theorem GO{kvs:List (Key×V)}(ok:HOk P w H h)(e:H a=some (.dK kvs)):kvs.length <= sizeLine/\(a == sysModules)=false/\∃vs,KV kvs vs/\h.DictOf (aP P w) a vs:=xr ok (.inl e)
theorem nC{ks:List Key}(ok:HOk P w H h)(e:H a=some (.tup (ks.map kV))):(tupleKind (aP P w)).is h ks a:=by
 obtain⟨_,its,r,o,h1,h2,n,h3⟩:=(show ObjOk P w H h a (.tup (ks.map kV)) from ok a _ e)
 exact⟨o,its.toArray,n,h1,h2,h3,by simpa using qr r⟩
theorem xt{kvs:List (List Key×V)}(ok:HOk P w H h)(e:Rd H a (.dT kvs)):kvs.length <= sizeLine/\(a == sysModules)=false /\
  ∃xs,KT H kvs xs/\h.DictOfH (tupleKind (aP P w)) a xs:=by
 obtain⟨z,y,xs,r,o,es,ep,h1,h2,h3,h4,h5⟩:=(show ObjOk P w H h a (.dT kvs) from ER ok e)
 refine⟨z,y,xs,r,o,es,ep,h1,h2,h3,h4,fun x hx=>?_,h5⟩
 have all:∀{l:List (List Key×V)}{m:List (List Key×Addr×Value)},KT H l m->∀x∈m,(tupleKind (aP P w)).is h x.1 x.2.1:=by
  intro l m q
  induction q with
  |nil=>intro x hx;exact nomatch hx
  |@cons p q ps qs hq t ih =>
   intro x hx
   rcases zzi.mp hx with e|hx
   ·subst e
    exact nC ok (by rw[←hq.1];exact hq.2.1)
   ·exact ih x hx
 exact all r x hx
theorem Cl{kvs:List (List Key×V)}(ok:HOk P w H h)(e:H a=some (.dT kvs)):kvs.length <= sizeLine/\(a == sysModules)=false /\
  ∃xs,KT H kvs xs/\h.DictOfH (tupleKind (aP P w)) a xs:=xt ok (.inl e)
end
def DGet(H:Hp)(a:Addr)(y:V)(r:Option V):Prop :=
 (∃kvs k,Rd H a (.dK kvs)/\y=kV k/\r=valV kvs k)∨∃kvs k b,Rd H a (.dT kvs)/\y=.ref b/\H b=some (.tup (k.map kV))/\r=valV kvs k
def DPut(H:Hp)(a:Addr)(y v:V)(H':Hp):Prop :=
 (∃kvs k,H a=some (.dK kvs)/\y=kV k/\kvs.length<sizeLine/\H'=upd H a (.dK (putK kvs k v))) ∨
 ∃kvs k b,H a=some (.dT kvs)/\y=.ref b/\H b=some (.tup (k.map kV))/\kvs.length<sizeLine/\H'=upd H a (.dT (putK kvs k v))
theorem DGet.t{H:Hp}{a b:Addr}{kvs:List (List Key×V)}{k:List Key}(e:H a=some (.dT kvs))(eb:H b=some (.tup (k.map kV))):DGet H a (.ref b) (valV kvs k):=.inr ⟨kvs,k,b,.inl e,rfl,eb,rfl⟩
theorem DPut.t{H:Hp}{a b:Addr}{kvs:List (List Key×V)}{k:List Key}{v:V}(e:H a=some (.dT kvs))(eb:H b=some (.tup (k.map kV)))(hl:kvs.length<sizeLine) :
  DPut H a (.ref b) v (upd H a (.dT (putK kvs k v))):=.inr ⟨kvs,k,b,e,rfl,eb,hl,rfl⟩
section
variable{X:Cx}{pins:List (Addr×Obj)}{σ:St}{H:Hp}{s:Shared}{a:Addr}{y v:V}{u r:Value}{o:Option V}{A:Around}{E:Value->Shared->Prop}
theorem Inv.big(I:Inv X pins σ H s):sysModules<s.heap.objs.size:=by
 have h:mainGlobals<s.heap.objs.size:=(I.mod.glob.keeps I.bk).lt
 exact Nat.lt_trans (by decide) h
theorem xu{Q:Value->Shared->Prop}(hu:A.units+1<cLine)(I:Inv X pins σ H s)(g:DGet H a y (some v))(ry:RelV y u)(h:∀w' s',Inv X pins σ H s'->RelV v w'->Q w' s') :
  wpAny (model X.prog X.w) A (getItem (.ref a) u) Q E s:=by
 rcases g with ⟨kvs,k,e,ey,l⟩|⟨kvs,k,b,e,ey,eb,l⟩
 ·subst ey
  obtain⟨z,hd,vs,rel,dd⟩:=xr I.hok e
  obtain⟨w',hw,rw'⟩:=RelO.some_of (v:=v) (o:=valueAt vs k) (by rw[l];exact rel.val k)
  exact wpAny_getItem_of (zI ry) dd.mapOf hw (h w' _ (I.tok _) rw')
 ·subst ey
  cases (show u=Value.ref b from ry)
  obtain⟨z,hd,xs,rel,dd⟩:=xt I.hok e
  obtain⟨w',hw,rw'⟩:=RelO.some_of (v:=v) (o:=(atKey xs k).map (·.2)) (by rw[l];exact rel.val k)
  obtain⟨p,hp,hp2⟩:=zyB.mp hw
  refine wpAny_getItem_heap (tupleKind_room_in1 hu) (nC I.hok eb) dd hp ?_
  rw[hp2]
  exact h w' _ (I.tok _) rw'
theorem su{h':Heap}{t':Nat}{ob:HO}(I:Inv X pins σ H s)(mu:Mut (H a))(hs:Heap.SameBut a s.heap h')(he:∃q,h'.get? a=some q)(new:ObjOk X.prog X.w (upd H a ob) h' a ob) :
  Inv X pins σ (upd H a ob) { s with heap:=h',toks:=t' } :=
 I.write (x:=a) (e:=a) mu (.inl rfl) (fun b q hb z=>(hs.2 b hb).trans z) he new
theorem ES{P:Program}{w:World}{H':Hp}{h':Heap}{kvs:List (Key×V)}{vs:List (Key×Value)}(z:kvs.length <= sizeLine)(hd:(a == sysModules)=false)(rel:KV kvs vs)(dd:h'.DictOf (aP P w) a vs) :
  ObjOk P w H' h' a (.dK kvs):=⟨z,hd,vs,rel,dd⟩
theorem xv{H':Hp}{Q:Unit->Shared->Prop}(hu:A.units+1<cLine)(I:Inv X pins σ H s)(g:DPut H a y v H')(ry:RelV y u)(rv:RelV v r)(h:∀s',Inv X pins σ H' s'->Q () s') :
  wpAny (model X.prog X.w) A (setItem (.ref a) u r) Q E s:=by
 rcases g with ⟨kvs,k,e,ey,l,eH⟩|⟨kvs,k,b,e,ey,eb,l,eH⟩
 ·subst ey eH
  obtain⟨z,hd,vs,rel,dd⟩:=GO I.hok e
  have hz:vs.length <= sizeLine:=by rw[←rel.length];exact z
  have hl:(putK kvs k v).length <= sizeLine:=by have:=gA kvs k v;omega
  refine wpAny_setItem_pairs (hsz:=hz) (zI ry) dd fun h' dd' hs=>h _ ?_
  have he:∃q,h'.get? a=some q:=let ⟨q,_,_,hq,_⟩:=dd';⟨q,hq⟩
  exact su I (by rw[e];exact True.intro) hs he (ES hl hd (rel.put k rv) dd')
 ·subst ey eH
  cases (show u=Value.ref b from ry)
  obtain⟨z,hd,xs,rel,dd⟩:=Cl I.hok e
  have hz:xs.length <= sizeLine:=by rw[←Paired.length rel];exact z
  have hl:(putK kvs k v).length <= sizeLine:=by have:=gA kvs k v;omega
  refine wpAny_setItem_heap (hsz:=hz) (tupleKind_room_in1 hu) (nC I.hok eb) dd fun h' dd' hs=>h _ ?_
  obtain⟨q,es,ep,hq,h2,h3,h4,_,h5⟩:=dd'
  refine su I (by rw[e];exact True.intro) hs ⟨q,hq⟩ ⟨hl,hd,_,(rel.put k eb rv).keeps fun c ys ec=>?_,q,es,ep,hq,h2,h3,h4,h5⟩
  rw[aq (mW ec e (fun z=>nomatch z))]
  exact ec
end
def NoSl(i:Expr):Prop:=∀ov iv,subscripted i false ov iv=operate [ov,iv] (getItem ov iv)
theorem Cm{prog:Program}{w:World}{A:Around}{E:Value->Shared->Prop}{s:Shared}{env:Env}{value slice:Expr}{pos:Pos}{T id:String}{Q:Value->Shared->Prop}
  (hl:typeLookup (.type T) "__getitem__" = pure (some (.builtin id))) (hs:NoSl slice)
  (h:wpAny (model prog w) A (eval value env) (fun o s₁=>wpAny (model prog w) A (eval slice env) (fun i s₂=>s₂.TypeIs o T/\wpAny (model prog w) A (getItem o i) Q E s₂) E s₁) E s) :
  wpAny (model prog w) A (eval (.Subscript value slice pos) env) Q E s:=by
 refine Subscript_ (wpAny_mono h (fun o s₁ h₁=>wpAny_mono h₁ (fun i s₂ h₂=>?_) fun _ _ x=>x) fun _ _ x=>x)
 obtain⟨hT,h₂⟩:=h₂
 unfold subscriptTail
 refine wpAny_bind ?_
 rw[getitemInPython_of_ne hT.not_modules]
 refine wpAny_bind (wpAny_specialOf hT hl ?_)
 have fin:wpAny (model prog w) A (subscripted slice false o i) (fun r s₃=>wpAny (model prog w) A (letTemporaryGo value o r >>= fun _=>pure r) Q E s₃) E s₂:=by
  rw[hs o i]
  exact wpAny_operating (wpAny_mono h₂ (fun r s₃ h₃=>wpAny_bind (wpAny_letTemporaryGo (wpAny_pure h₃))) fun _ _ x=>x)
 first
  |exact wpAny_pure (wpAny_bind fin)
  |exact wpAny_bind (wpAny_pure (wpAny_bind fin))
  |exact wpAny_bind fin
theorem sv{X:Cx}{pins:List (Addr×Obj)}{σ:St}{H:Hp}{s:Shared}{a:Addr}{y:V}{o:Option V}(I:Inv X pins σ H s)(g:DGet H a y o):s.TypeIs (.ref a) "dict":=by
 rcases g with ⟨kvs,k,e,_,_⟩|⟨kvs,k,b,e,_,_,_⟩
 ·obtain⟨_,_,vs,_,dd⟩:=xr I.hok e
  exact dd.typeIs
 ·obtain⟨_,_,xs,_,dd⟩:=xt I.hok e
  exact dd.typeIs
def GP(td ty:TE):TE:=fun σ H Q=>td σ H fun x H1=>ty σ H1 fun y H2=>∃a v,x=.ref a/\DGet H2 a y (some v)/\Q v H2
def GQ(td ty tv:TE):TS:=fun D σ H=>tv σ H fun v H1=>td σ H1 fun x H2=>ty σ H2 fun y H3=>∃a H4,x=.ref a/\DPut H3 a y v H4/\D.nx σ H4
section
variable{X:Cx}{o i value:Expr}{pos pos':Pos}{td ty tv:TE}
theorem Cn(hu:X.A.units+1<cLine)(ho:PE X o td)(hi:PE X i ty)(hs:NoSl i):PE X (.Subscript o i pos) (GP td ty):=by
 intro pins s σ H Q I h
 refine Cm PySem.F.slot_dict_getitem.lookup hs (thn (ho pins s σ H _ I h) fun u s1 ⟨x,H1,I1,rx,q1⟩=>thn (hi pins s1 σ H1 _ I1 q1) fun iv s2 ⟨y,H2,I2,ry,a,v,ex,g,q2⟩=>?_)
 subst ex
 obtain rfl:u=Value.ref a:=rx
 exact⟨sv I2 g,xu hu I2 g ry fun w' s3 I3 rw'=>⟨v,H2,I3,rw',q2⟩⟩
theorem Co(hu:X.A.units+1<cLine)(ho:PE X o td)(hi:PE X i ty)(hv:PE X value tv)(hs:swapsWith value (some (.Subscript o i pos')) pos.line X.env=pure false) :
  PS X (.Assign [.Subscript o i pos'] value pos) (GQ td ty tv):=by
 intro pins s σ H D I h
 refine wpAny_Assign_Subscript (thn (hv pins s σ H _ I h) fun r s1 ⟨v,H1,I1,rv,q1⟩=>thn (ho pins s1 σ H1 _ I1 q1) fun u s2 ⟨x,H2,I2,rx,q2⟩=>thn (hi pins s2 σ H2 _ I2 q2) fun iv s3 ⟨y,H3,I3,ry,a,H4,ex,g,q3⟩=>?_) hs
 subst ex
 obtain rfl:u=Value.ref a:=rx
 exact xv hu I3 g ry rv fun s4 I4=>⟨σ,H4,I4,q3⟩
end
theorem zJ{P:Program}{w:World}{H:Hp}(h:Heap)(hb:sysModules<h.objs.size):ObjOk P w H (h.push { cls:=.type "dict",data:=.dict #[] }) h.objs.size (.dT []) :=
 ⟨zzG _,beq_eq_false_iff_ne.mpr (Ne.symm (zzA hb)),[],.nil,_,#[],0,zzs _ rfl,⟨rfl,rfl,rfl⟩,rfl,rfl,zyP⟩
def ET:TE:=fun _ H Q=>∀p,H p=none->Q (.ref p) (upd H p (.dT []))
section
variable{X:Cx}{pos:Pos}
theorem zK:PE X (.Dict [] [] pos) ET:=fun pins s σ H Q I h =>
 wpAny_Dict_empty ⟨.ref s.heap.objs.size,_,I.laid (a:=s.heap.objs.size) (o:=.dT []) (t':=s.toks) (fun _ _ q=>zzf _ q) (zzj _) (zJ s.heap I.big),rfl,h _ (I.hok.fresh (zzj _))⟩
end
structure M2(X:Cx)(o:Expr)(m:Str)(apos:Pos)(e f:Expr)(cpos:Pos):Prop where
 base:attributeBase o m X.env (eval o X.env)=eval o X.env
 few:((backTo cpos (starEach [e,f] X.env)).all (fun x=>!x.1) && (backToKw cpos (keywordEach [] X.env)).all (fun x=>x.1.isSome)
  && decide (([e,f]:List Expr).length+([]:List Keyword).length+(if ([]:List Keyword).isEmpty then 0 else 1)<30))=true
 line:(apos.endLine == cpos.line)=true
 trees:backTo cpos (starEach [e,f] X.env)=[(false,eval e X.env),(false,eval f X.env)]
def IsD(H:Hp)(a:Addr):Prop:=(∃kvs,Rd H a (.dK kvs))∨∃kvs,Rd H a (.dT kvs)
theorem EU{X:Cx}{pins:List (Addr×Obj)}{σ:St}{H:Hp}{s:Shared}{a:Addr}(I:Inv X pins σ H s)(d:IsD H a) :
  s.TypeIs (.ref a) "dict" /\ (∀b,Value.ref a=.ref b->∃ob,s.heap.get? b=some ob/\ob.dict=none)/\(a == sysModules)=false:=by
 rcases d with ⟨kvs,e⟩|⟨kvs,e⟩
 ·obtain⟨_,hd,vs,_,dd⟩:=xr I.hok e
  refine⟨dd.typeIs,fun b q=>?_,hd⟩
  cases q
  obtain⟨ob,_,_,h1,h2,_⟩:=dd
  exact⟨ob,h1,h2.2.1⟩
 ·obtain⟨_,hd,xs,_,dd⟩:=xt I.hok e
  refine⟨dd.typeIs,fun b q=>?_,hd⟩
  cases q
  obtain⟨ob,_,_,h1,h2,_⟩:=dd
  exact⟨ob,h1,h2.2.1⟩
section
variable{X:Cx}{pins:List (Addr×Obj)}{σ:St}{H:Hp}{s:Shared}{a:Addr}{y d:V}{u r:Value}{o:Option V}{A:Around}{E:Value->Shared->Prop}
theorem EV{Q:Value->Shared->Prop}(hu:A.units+1<cLine)(I:Inv X pins σ H s)(g:DGet H a y o)(ry:RelV y u)(rd:RelV d r)(h:∀w' s',Inv X pins σ H s'->RelV (o.getD d) w'->Q w' s') :
  wpAny (model X.prog X.w) A (call (.builtin "dict.get") [.ref a,u,r]) Q E s:=by
 rcases g with ⟨kvs,k,e,ey,l⟩|⟨kvs,k,b,e,ey,eb,l⟩
 ·subst ey
  obtain⟨z,hd,vs,rel,dd⟩:=xr I.hok e
  refine call_meetsIn PySem.F.slot_dict_get dd.typeIs PySem.F.entry_dict_get (PySem.F.args_dict_get_3 _ _ _) (meets_dict_get_default (aP X.prog X.w) a (zI ry) hd r) ⟨_,dd.mapOf,h _ _ (I.tok _) ?_⟩
  rw[l]
  exact(rel.val k).getD rd
 ·subst ey
  cases (show u=Value.ref b from ry)
  obtain⟨z,hd,xs,rel,dd⟩:=xt I.hok e
  refine call_meetsIn PySem.F.slot_dict_get dd.typeIs PySem.F.entry_dict_get (PySem.F.args_dict_get_3 _ _ _) (meetsH_dict_get_default (tupleKind (aP X.prog X.w)) a b hd r) ⟨tupleKind_room_in1 hu,k,xs,nC I.hok eb,dd,h _ _ (I.tok _) ?_⟩
  rw[l]
  exact(rel.val k).getD rd
end
def EW(td ty tx:TE):TE:=fun σ H Q=>td σ H fun x H1=>∃a,x=.ref a/\IsD H1 a/\ty σ H1 fun y H2=>tx σ H2 fun z H3=>∃o,DGet H3 a y o/\Q (o.getD z) H3
section
variable{X:Cx}{o e f:Expr}{apos cpos:Pos}{td ty tx:TE}
theorem zL(hu:X.A.units+1<cLine)(ho:PE X o td)(he:PE X e ty)(hf:PE X f tx)(m:M2 X o "get" apos e f cpos):PE X (.Call (.Attribute o "get" apos) [e,f] [] cpos) (EW td ty tx):=by
 intro pins s σ H Q I h
 refine wpAny_Call_method m.base m.few m.line PySem.F.plainAttrs_dict PySem.F.slot_dict_get PySem.F.type_dict_get (thn (ho pins s σ H _ I h) fun u s1 ⟨x,H1,I1,rx,a,ex,d,q1⟩=>?_)
 subst ex
 obtain rfl:u=Value.ref a:=rx
 obtain⟨t1,t2,_⟩:=EU I1 d
 refine⟨t1,t2,?_⟩
 rw[m.trees]
 refine Calls.callWith_builtin rfl (Calls.evalArgs_plain (Calls.spliced_cons (thn (he pins s1 σ H1 _ I1 q1) fun iv s2 ⟨y,H2,I2,ry,q2⟩ =>
  Calls.spliced_cons (thn (hf pins s2 σ H2 _ I2 q2) fun fv s3 ⟨z,H3,I3,rz,ov,g,q3⟩=>Calls.spliced_nil ?_))))
 exact EV hu I3 g ry rz fun w' s4 I4 rw'=>⟨_,H3,I4,rw',q3⟩
end
end L2
namespace Att
open PySem PySem.W PySem.Calls PyProof.Rows
theorem lr{P:Params}{h:Heap}:∀(ns:List Int) (vs:List Value),WellAll P h vs (ns.map WData.int)->IntsAre vs ns:=by
 intro ns
 induction ns with
 |nil =>
  intro vs w
  rw[zzS]at w
  cases w
  exact .nil
 |cons n ns ih =>
  intro vs w
  rw[zze]at w
  cases w with
  |cons a b =>
   cases a
   exact .cons _ _ (ih _ b)
theorem xw{l:OpenLaw}{n:Nat}(hn:l.most=some n){P:Params}{h:Heap}{args:List WData}{vals:List Value}
  (hpre:l.row.toRowW.claim.pre args=true) (hwl:WellAll P h vals args) :
  ∃a vs ns,vals=[Value.ref a]/\args=[WData.list (ns.map WData.int)]/\h.get? a=some { cls:=.type "list",data:=.seq vs.toArray }/\IntsAre vs ns/\ns.length <= n:=by
 have hsh:WShape.hasAll [] args [.list .int]=true:=(pre_splitW hpre).1
 have hc:l.pre.holds [] { args:=args }=true:=(pre_splitW hpre).2
 obtain⟨d,r,rfl,h1,h2⟩:=hasAllW_cons hsh
 obtain rfl:=hasAllW_nil h2
 obtain⟨xs,rfl,h3⟩:=hasW_list h1
 obtain⟨ns,rfl⟩:=items_int h3
 have hlen:ns.length <= n:=by
  unfold OpenLaw.pre at hc
  have h4:(WTm.not (.lt (.lit (.int (n:Int))) (.len (.arg 0)))).holds [] { args:=[.list (ns.map .int)] }=true:=by
   have h4:=(holds_andW hc).1
   rw[hn]at h4
   exact h4
  have h5:=condW_of h4 (w_not (w_lt w_lit (w_len_list (w_arg rfl))))
  rw[zza]at h5
  refine Nat.le_of_not_lt fun q=>?_
  have q':(n:Int)<((ns.length:Nat):Int):=by omega
  first
   | (rw[decide_eq_true q']at h5;exact absurd h5 (by decide))
   | (simp at h5;omega)
 cases hwl with
 |cons w1 w2 =>
  cases w2
  cases w1 with
  |list ho hall=>exact⟨_,_,ns,rfl,rfl,ho,lr ns _ hall,hlen⟩
theorem xx(l:OpenLaw)(args:List WData):l.row.toRowW.claim.post args (.bool true) args=true :=
 postW_of (r:=l.row.toRowW) (X:=(true == true))
  (show WShape.has [] (.bool true) .bool=true by first|rfl|decide|simp[WShape.has,WShape.arms,WShape.armsAll])
  (show (WTm.eq .res (.lit (.bool true))).value [] { args:=args,res:=some (.bool true),after:=args }=some (.bool (true == true)) from w_eq_bool (w_res rfl) w_lit) rfl
theorem attach_call{l:OpenLaw}{n:Nat}{q:Program}{loose:List Str}{XP:(Str->Option Value)->Heap->Prop}{YP:World->Heap->Prop}{d:DefRec}
  (hn:l.most=some n) (hdf:d.params.defaults=[])
  (call:∀(w:World) (s₀ s₁:Shared) (mg mb:Str->Option Value) (fa:Addr) (o:Obj) (pm cd doc:Value) (a:Addr) (vs:List Value) (ns:List Int),
   Ground q loose [] XP w s₀ mg mb s₁.heap->YP w s₁.heap ->
   s₁.heap.get? fa=some o->o.data=.func (docDef d.name d.params d.body d.scope pm cd doc)->s₁.heap.CodeRec cd d.name->mg d.name=some (.ref fa) ->
   s₁.heap.get? a=some { cls:=.type "list",data:=.seq vs.toArray }->IntsAre vs ns->ns.length <= n->s₁.gens = #[] ->
   codeAny (model l.prog w) callerA (.call (.ref fa) ⟨[.ref a],[]⟩) (fun r s'=>r=.ok (.ret (.bool true))/\OldK s₁.heap s'.heap/\s'.os=s₁.os/\AllBare s'.gens) s₁) :
  WalkO q loose XP YP l.row.toRowW d [] (fun f vs=>PySem.call f vs):=by
 intro w s₀ s₁ mg mb G Y fa o pm cd doc dV kV ho hd hcd hD hmg hg args vals as hpre hlay hrd hwl hlo
 obtain rfl:dV=.none:=Dflts.none hD hdf
 obtain rfl:kV=.none:=Dflts.noKw hD
 obtain⟨a,vs,ns,rfl,rfl,hobj,hints,hlen⟩:=xw hn hpre hwl
 refine enter_call (codeAny_mono (call w s₀ s₁ mg mb fa o pm cd doc a vs ns G Y ho (fd_plain hd) hcd hmg hobj hints hlen hg) fun r s' hq=>?_)
 obtain⟨rfl,h2,h3,h4⟩:=hq
 exact⟨.inl ⟨.bool true,.bool true,[],rfl,fun _=>rfl,.bool true,xx l _,fun _=>⟨List.Pairwise.nil,fun _ hm=>(nomatch hm)⟩⟩,h2,h3,h4⟩
end Att
namespace L2
open PySem PySem.Spec PyProof.Rows
theorem qt:∀{vs:List Value}{ns:List Int},IntsAre vs ns->Vals (ns.map V.int) vs
 |_,_,.nil=>.nil
 |_,_,.cons n t h=>.cons ⟨t,rfl⟩ (qt h)
def Only(H:Hp):Prop:=∀b,H b=none∨∃o xs,H b=some (.frz o (.lst xs))
theorem zM{P:Program}{w:World}{K:PySem.W.Frag}{mg mb:Str->Option Value}{CX:CXT}{k:Nat}{fa a:Addr}{fd:FuncData}{x:Str}{sp:Sp}{s₁:Shared}{vs:List Value}{ns:List Int}
  (KX:K.In s₁.heap) (hns:s₁.heap.Ns mainGlobals mg) (hb:s₁.heap.Ns builtinsNs mb) (hbb:∀x:Str,x ≠ "__name__" -> mb x=bootBuiltins x) (hlim:s₁.heap.NoLimit) (hg:s₁.gens = #[])
  (ha:s₁.heap.get? a=some { cls:=.type "list",data:=.seq vs.toArray }) (hi:IntsAre vs ns) (hl:ns.length <= sizeLine) (hr:Room k callerA)
  (F:∀base:Heap,K.In base->base.Ns mainGlobals mg->FnOk P w K mg base CX k fa fd [x] sp) (hbind:∀(s:Shared) (u:Value),BindsTo s fd ⟨[u],[]⟩ [(x,u)])
  (hsp:∀H:Hp,Only H->SqL K H a (ns.map V.int)->sp [.ref a] H (fun v _=>v=.bl true) fun _ _ _=>False)
  (hCX:∀H e s',CX [] H s₁ (fun _ _ _=>False) e s'->False) :
  codeAny (model P w) callerA (.call (.ref fa) ⟨[.ref a],[]⟩) (fun r s'=>r=.ok (.ret (.bool true))/\OldK s₁.heap s'.heap/\s'.os=s₁.os/\AllBare s'.gens) s₁:=by
 have rv:=qt hi
 have lenV:=hi.length
 -- from an abstract heap in which nothing but the script may be tracked
 have core:∀H:Hp,Only H->SqL K H a (ns.map V.int)->HOk P w H s₁.heap->(∀b,H b≠none->b=a)->(H a≠none->K.lookup a=none) ->
   codeAny (model P w) callerA (.call (.ref fa) ⟨[.ref a],[]⟩) (fun r s'=>r=.ok (.ret (.bool true))/\OldK s₁.heap s'.heap/\s'.os=s₁.os/\AllBare s'.gens) s₁:=by
  intro H hO hS hok hA hK
  have base_of:∀{b:Addr}{o:Obj},s₁.heap.get? b=some o->H b=none->(hidT s₁.heap H).get? b=some o:=fun e n=>zA e n
  have noA:∀{b:Addr}{o:Obj}{es:Array DictEntry}{ep:Nat},s₁.heap.get? b=some o->o.data=.dict es ep->H b=none:=fun {b o es ep} e d=>by
   cases q:H b with
   |none=>rfl
   |some u =>
    have e':b=a:=hA b (by rw[q];simp)
    subst e'
    rw[ha]at e;cases e
    have d':Data.seq vs.toArray _=Data.dict es ep:=d
    cases d'
  have nsK:∀{b:Addr}{m:Str->Option Value},s₁.heap.Ns b m->(hidT s₁.heap H).Ns b m:=fun {b m} ⟨o,es,ep,e,d,r⟩=>⟨o,es,ep,base_of e (noA e d),d,r⟩
  have hKb:K.In (hidT s₁.heap H):=fun b o e=>base_of (KX b o e) (by
   cases q:H b with
   |none=>rfl
   |some u =>
    have e':b=a:=hA b (by rw[q];simp)
    subst e'
    rw[hK (by rw[q];simp)]at e;cases e)
  have hM:Mod K mg (hidT s₁.heap H):=⟨hKb,nsK hns,⟨mb,nsK hb,hbb⟩,let ⟨mc,h1,h2⟩:=hlim;⟨mc,nsK h1,h2⟩⟩
  have e0:Env0 P w K mg (hidT s₁.heap H) callerA [] s₁ H:=⟨rfl,hM,fun b o e=>BX e,Nat.le_of_eq (wO _ _),trivial,fun b hb=>absurd (show b∈([]:List Addr) from hb) (by simp),hok,.of_eq hg⟩
  refine codeAny_mono ((F _ hKb (nsK hns)).run callerA [] s₁ H ⟨[.ref a],[]⟩ [.ref a] [.ref a] _ _ hr e0 (hbind s₁ (.ref a)) (.cons rfl .nil) (hsp H hO hS)) fun r s' h=>?_
  cases r with
  |error e=>exact(hCX H e s' h).elim
  |ok fl =>
   cases fl with
   |next=>exact False.elim h
   |brk=>exact False.elim h
   |cont=>exact False.elim h
   |ret u =>
    obtain⟨v,H',os,bare,un,hok',r',q⟩:=h
    have q':v=.bl true:=q
    subst q'
    obtain rfl:u=Value.bool true:=r'
    refine⟨rfl,OldK.of_keep fun b o e=>?_,os,bare⟩
    cases q:H b with
    |none=>exact un.keep b o e q (by intro z;exact absurd (show b∈([]:List Addr) from z) (by simp)) (by simp)
    |some u =>
     rcases hO b with z|⟨ob,xs,z⟩
     ·rw[q]at z;cases z
     ·have z2:=un.frzs b ob _ z
      obtain⟨e1,_⟩:=hok b _ z
      obtain⟨e2,_⟩:=hok' b _ z2
      rw[e]at e1;cases e1
      exact e2
 cases hk:K.lookup a with
 |some o =>
  -- the script is one of the module's own objects
  have e:=KX a o hk
  rw[ha]at e
  cases e
  refine core (fun _=>none) (fun _=>.inl rfl) (.inr ⟨_,vs.toArray,_,hk,rfl,rfl,rfl,by rw[zzr,lenV];exact hl,by simpa using rv⟩) (fun b u z=>by have z':(none:Option HO)=some u:=z;cases z') (fun b z=>absurd rfl z) fun z=>absurd rfl z
 |none =>
  refine core (fun b=>if b=a then some (.frz { cls:=.type "list",data:=.seq vs.toArray } (.lst (ns.map V.int))) else none) (fun b=>?_) (.inl (.inr ⟨{ cls:=.type "list",data:=.seq vs.toArray },if_pos rfl⟩)) (fun b u z=>?_) (fun b z=>?_) fun _=>hk
  ·by_cases hb:b=a
   ·exact .inr ⟨_,_,if_pos hb⟩
   ·exact .inl (if_neg hb)
  ·by_cases hb:b=a
   ·have z':=(if_pos hb).symm.trans z
    cases z'
    subst hb
    exact⟨ha,by rw[zza];exact hl,vs,_,rv,ha⟩
   ·have z':=(if_neg hb).symm.trans z
    cases z'
  ·by_cases hb:b=a
   ·exact hb
   ·exact absurd (if_neg hb) z
theorem walk_of{l:PySem.W.OpenLaw}{n k:Nat}{q:Program}{loose:List Str}{XP:(Str->Option Value)->Heap->Prop}{YP:World->Heap->Prop}{d:DefRec}{K:Params->PySem.W.Frag}{CX:World->CXT}{sp:World->Sp}{x:Str}
  (hn:l.most=some n) (hn2:n <= sizeLine) (hdf:d.params.defaults=[]) (hr:Room k callerA)
  (hY:∀(w:World) (h:Heap),YP w h->(K w.params).In h)
  (F:∀(w:World) (mg:Str->Option Value) (fa:Addr) (h:Heap),(K w.params).In h->h.Ns mainGlobals mg->mg d.name=some (.ref fa) ->
   ∃fd:FuncData,(∀(s:Shared) (u:Value),BindsTo s fd ⟨[u],[]⟩ [(x,u)]) /\
    ∀base:Heap,(K w.params).In base->base.Ns mainGlobals mg->FnOk l.prog w (K w.params) mg base (CX w) k fa fd [x] (sp w))
  (hsp:∀(w:World) (H:Hp) (a:Addr) (ns:List Int),ns.length <= n->Only H->SqL (K w.params) H a (ns.map V.int)->sp w [.ref a] H (fun v _=>v=.bl true) fun _ _ _=>False)
  (hCX:∀(w:World) (H:Hp) (s:Shared) (e:Value) (s':Shared),CX w [] H s (fun _ _ _=>False) e s'->False) :
  PySem.W.WalkO q loose XP YP l.row.toRowW d [] (fun f vs=>PySem.call f vs):=by
 refine Att.attach_call hn hdf fun w s₀ s₁ mg mb fa o pm cd doc a vs ns G Y ho hd hcd hmg hobj hints hlen hg=>?_
 have KX:=hY w _ Y
 obtain⟨fd,hb,hF⟩:=F w mg fa _ KX G.T.g hmg
 exact zM KX G.T.g G.T.b G.T.builtins G.T.nolimit hg hobj hints (zzk hlen hn2) hr hF hb (fun H hO hS=>hsp w H a ns hlen hO hS) fun H e s'=>hCX w H s₁ e s'
theorem walk_ofK{l:PySem.W.OpenLaw}{n k:Nat}{q:Program}{loose:List Str}{XP:(Str->Option Value)->Heap->Prop}{YP:World->Heap->Prop}{d:DefRec}{K:Params->PySem.W.Frag}{CX:CXT}{sp:PySem.W.Frag->Sp}{x:Str}
  (hn:l.most=some n) (hn2:n <= sizeLine) (hdf:d.params.defaults=[]) (hr:Room k callerA)
  (hY:∀(w:World) (h:Heap),YP w h->(K w.params).In h)
  (F:∀(w:World) (mg:Str->Option Value) (fa:Addr) (h:Heap),(K w.params).In h->h.Ns mainGlobals mg->mg d.name=some (.ref fa) ->
   ∃fd:FuncData,(∀(s:Shared) (u:Value),BindsTo s fd ⟨[u],[]⟩ [(x,u)]) /\
    ∀base:Heap,(K w.params).In base->base.Ns mainGlobals mg->FnOk l.prog w (K w.params) mg base CX k fa fd [x] (sp (K w.params)))
  (hsp:∀(K:PySem.W.Frag) (H:Hp) (a:Addr) (ns:List Int),ns.length <= n->Only H->SqL K H a (ns.map V.int)->sp K [.ref a] H (fun v _=>v=.bl true) fun _ _ _=>False)
  (hCX:∀(H:Hp) (s:Shared) (e:Value) (s':Shared),CX [] H s (fun _ _ _=>False) e s'->False) :
  PySem.W.WalkO q loose XP YP l.row.toRowW d [] (fun f vs=>PySem.call f vs) :=
 walk_of (K:=K) (CX:=fun _=>CX) (sp:=fun w=>sp (K w.params)) hn hn2 hdf hr hY F (fun w H a ns h1 h2 h3=>hsp (K w.params) H a ns h1 h2 h3) fun _ H s e s'=>hCX H s e s'
end L2
/- THE LAST THEOREM (shape; LID,My.* are yours):
  My.Adr: a structure of the addresses that your layer names (classes,functions); My.Txt K t: a structure (Prop) of the equations over K;
  My.txt_mk:{K} {implicit addresses ..} (e1:nsIn K mainGlobals "law" = some (some (.ref f))) (e2:K.lookup f = some ⟨oc,od,.func (fnOf "law" "law" params body scope dV kV doc pm an cdv ct),sl⟩) (e3:codeIn K cdv "law" = true) .. : ∃ t,My.Txt K t
set_option maxRecDepth 100000 in
set_option maxHeartbeats 0 in
theorem PySem.Challenge.cw_LID_holds:PySem.Challenge.rw_LID.Holds:=by
 w_on; o_law; k_head; (case hw=>w_witness2)
 k_fill
 refine L2.walk_of (l:=PySem.Challenge.rw_LID) (n:=63) (k:=40) (x:="script") (CX:=fun w=>..) (sp:=fun _=>My.sp_law) rfl (by decide) rfl ⟨rfl,by decide,by decide⟩ (fun w h Y=>PySem.W.kIn_of Y) ?F ?S ?C
 case F =>
  intro w mg fa h KX G hmg
  have T:∃ t,My.Txt (L2.KOf KX) t:=by
   dsimp only [L2.KOf]                          -- K must stand as «<heap const> w.params» for k_is
   refine' My.txt_mk ?e1 ?e2 ?e3 ..
   (case e1=>PySem.W.k_is)                    -- in the order: a name -> its address -> its object -> its parts
   (case e2=>PySem.W.k_is)
   ..
  obtain ⟨t,T⟩:=T
  have e0:=hmg.symm.trans (PySem.W.mg_of KX G T.law)
  cases e0                                       -- fa is the law's own address
  exact ⟨_,fun s u=>.of_eq rfl,fun base kb nb=>My.law_fn T kb nb⟩     -- if «.of_eq rfl» comes too early: refine' ⟨_,?b,fun base kb nb=>My.law_fn T kb nb⟩; exact fun s u=>.of_eq rfl
 case S=>exact fun w H a ns hl hO hS=>..
 case C=>exact ..
(the tactic k_is has no namespace: write k_is) -/
namespace L2
open PySem PySem.Spec PyProof.Rows
def gC(s:Stmt):Arguments:=match s with
 |.FunctionDef _ a _ _ _ _ _ _ _ _=>a
 |_=>{ posonlyargs:=[],args:=[],vararg:=none,kwonlyargs:=[],kw_defaults:=[],kwarg:=none,defaults:=[] }
def db(s:Stmt):List Stmt:=match s with
 |.FunctionDef _ _ b _ _ _ _ _ _ _=>b
 |_=>[]
def ah(s:Stmt):Scope:=match s with
 |.FunctionDef _ _ _ _ _ _ sc _ _ _=>sc
 |_=>{ kind:=.function,names:=[],isGenerator:=false,isCoroutine:=false }
abbrev CX0:CXT:=fun _ _ _ _ _ _=>False
abbrev E0:XK:=fun _ _ _=>False
theorem Cp{X:Cx}:xf CX0 X E0:=fun _ _ _ _ _ _ _ h=>h.elim
structure Fun(K:PySem.W.Frag)(x qual:Str)(st:Stmt)(f:Addr)(fd:FuncData):Prop where
 ex:∃(oc:Value) (od:Option Addr) (kV doc pm:Value) (an:Option Addr) (cdv ct:Value) (osl:Array (Option Value)),
  fd=PySem.W.fnOf x qual (gC st) (db st) (ah st) .none kV doc pm an cdv ct/\K.lookup f=some ⟨oc,od,.func fd,osl⟩/\PySem.W.codeIn K cdv qual=true
 kp:PySem.W.keepIn K (.ref f)=true
section
variable{P:Program}{w:World}{K:PySem.W.Frag}{mg:Str->Option Value}{base:Heap}
theorem Fun.ok{x qual:Str}{st:Stmt}{f:Addr}{fd:FuncData}{N ps:List Str}{k:Nat}{sp:Sp}(F:Fun K x qual st f fd)(S:FnScope N ps (ah st))(len:∀vs H Q E,sp vs H Q E->vs.length=ps.length)
  (hbody:∀(cdv:Value) (A:Around) (outer:List Env) (s:Shared) (H:Hp) (vs:List V) (Q:VK) (E:XK),Room k (A.deeper (envOfC qual (ah st) s.heap.objs.size f cdv))->sp vs H Q E ->
   ∃t,PSs (cxOf CX0 P w K mg base N qual (ah st) f cdv A outer s H E).nox (db st) t/\t { nx:=fun _ H'=>Q .non H',rt:=Q } (start N vs) H):FnOk P w K mg base CX0 (k+1) f fd ps sp:=by
 obtain⟨oc,od,kV,doc,pm,an,cdv,ct,osl,rfl,lk,hcd⟩:=F.ex
 refine GL lk hcd S len fun A outer s H vs Q E hr hsp=>?_
 obtain⟨t,h,q⟩:=hbody cdv A outer s H vs Q E hr hsp
 exact⟨t,h.nox,q⟩
theorem Fun.binds{x qual:Str}{st:Stmt}{f:Addr}{fd:FuncData}{ps:List Str}(F:Fun K x qual st f fd)
  (h:∀(kV doc pm:Value) (an:Option Addr) (cdv ct:Value) (us:List Value),us.length=ps.length->bindArgs (PySem.W.fnOf x qual (gC st) (db st) (ah st) .none kV doc pm an cdv ct) ⟨us,[]⟩=pure (ps.zip us)):Binds K fd ps []:=by
 obtain⟨oc,od,kV,doc,pm,an,cdv,ct,osl,rfl,lk,hcd⟩:=F.ex
 exact .all (h kV doc pm an cdv ct)
theorem EX{x qual:Str}{st:Stmt}{f:Addr}{oc:Value}{od an:Option Addr}{osl:Array (Option Value)}{kV doc pm cdv ct:Value}(l:K.lookup f=some ⟨oc,od,.func (PySem.W.fnOf x qual (gC st) (db st) (ah st) .none kV doc pm an cdv ct),osl⟩)
  (c:PySem.W.codeIn K cdv qual=true) (k:PySem.W.keepIn K (.ref f)=true):Fun K x qual st f (PySem.W.fnOf x qual (gC st) (db st) (ah st) .none kV doc pm an cdv ct):=⟨⟨oc,od,kV,doc,pm,an,cdv,ct,osl,rfl,l,c⟩,k⟩
end
section
variable{X:Cx}
theorem pv(i:Nat){x:Str}{pos:Pos}(hN:X.N[i]? = some x:=by rfl)(hv:Vis X.env.scope x:=by first|exact Or.inl rfl|exact Or.inr (Or.inl rfl)|exact Or.inr (Or.inr rfl))(hd:(x == ("__debug__" : Str))=false:=by decide)
  (hcd:(x == ("__classdict__" : Str))=false:=by decide):PE X (.Name x pos) (tVar i):=Eg hN hv hd hcd
end
theorem iteF{A B:Prop}(h:B):if false=true then A else B:=by
 rw[if_neg zzu]
 exact h
theorem iteT{A B:Prop}(h:A):if true=true then A else B:=by
 rw[if_pos rfl]
 exact h
theorem ite2{c A B:Prop}[Decidable c](h1:c->A)(h2:¬c->B):if c then A else B:=by
 by_cases h:c
 ·rw[if_pos h]
  exact h1 h
 ·rw[if_neg h]
  exact h2 h
def Same(H H':Hp):Prop:=∀b o,H b=some o->H' b=some o
section
variable{X:Cx}{pos:Pos}
def gLs(K:PySem.W.Frag)(n:Nat)(t:TGs):TG:=fun v σ H Q=>∃a xs,v=.ref a/\SqL K H a xs/\xs.length=n/\t xs σ H Q
theorem GR{es:List Expr}{k:Nat}{t:TGs}{n:Nat}(hc:X.calm=true)(h:PGs X es t)
  (hn:(assignEach es X.env).length=n:=by rfl) (hst:(assignEach es X.env).findIdx? (·.1)=none:=by rfl):PG X (.Tuple es k pos) (gLs X.K n t):=by
 intro pins s σ H v u Q I r hw
 obtain⟨a,xs,e1,hq,hl,hw⟩:=hw
 subst e1
 cases r
 obtain⟨its,rv,pl,hz⟩:=I.list hq
 rw[assign_Tuple]
 refine wpAny_bind (wpAny_standAt ?_)
 unfold unpack
 rw[show (assignEach es X.env).length=its.toArray.size by simp[hn,←hl,rv.length],hst]
 refine wpAny_bind (wpAny_holding (PySem.W.kun_itemsOf (I.ok.hd hc) pl.isList fun h' hx=>?_))
 have I1:Inv X pins σ H { s with heap:=h' }:=I.kept (t':=s.toks) fun b o e=>hx b o (zzA (zzq e)) e
 exact h pins _ σ H xs _ Q I1 (by simpa using rv) hw
def knV(H:Hp):V->Prop
 |.non=>True|.bl _=>True|.int _=>True|.str _=>True
 |.ref a=>(∃xs,H a=some (.lst xs))∨(∃o xs,H a=some (.frz o (.lst xs)))∨(∃xs,H a=some (.tup xs))∨(∃kvs,H a=some (.dK kvs))∨(∃kvs,H a=some (.dT kvs))
 |_=>False
def Bi:V->Bool
 |.int _=>true|.bl _=>true|_=>false
def EY:V->Bool
 |.bl _=>true|_=>false
def isTupO:Option HO->Bool
 |some (.tup _)=>true|_=>false
def fi(H:Hp):V->Bool
 |.ref a=>isTupO (H a)|_=>false
theorem bT{K:PySem.W.Frag}{t T:String}{b:Bool}
  (h:(if (Value.type t == Value.type T)=true then some true else if PySem.W.kitMeta T=true then(PySem.fastBuiltinMro t).map (·.contains (.type T)) else none)=some b):PySem.W.kitOne K (.type t) (.type T)=some b:=h
theorem jf{T:String}{f:Hp->V->Bool}
  (hn:∀(H:Hp),PySem.W.kitOne X.K (.type "NoneType") (.type T)=some (f H .non)) (hb:∀(H:Hp) c,PySem.W.kitOne X.K (.type "bool") (.type T)=some (f H (.bl c)))
  (hi:∀(H:Hp) i,PySem.W.kitOne X.K (.type "int") (.type T)=some (f H (.int i))) (hs:∀(H:Hp) x,PySem.W.kitOne X.K (.type "str") (.type T)=some (f H (.str x)))
  (hl:∀(H:Hp) a xs,H a=some (.lst xs)->PySem.W.kitOne X.K (.type "list") (.type T)=some (f H (.ref a)))
  (hf:∀(H:Hp) a o xs,H a=some (.frz o (.lst xs))->PySem.W.kitOne X.K (.type "list") (.type T)=some (f H (.ref a)))
  (ht:∀(H:Hp) a xs,H a=some (.tup xs)->PySem.W.kitOne X.K (.type "tuple") (.type T)=some (f H (.ref a)))
  (hd:∀(H:Hp) a kvs,H a=some (.dK kvs)->PySem.W.kitOne X.K (.type "dict") (.type T)=some (f H (.ref a)))
  (hd':∀(H:Hp) a kvs,H a=some (.dT kvs)->PySem.W.kitOne X.K (.type "dict") (.type T)=some (f H (.ref a))) :
  dO X (.builtin "isinstance") (fun xs H Q=>∃x,xs=[x,.ty T]/\knV H x/\Q (.bl (f H x)) H):=by
 intro pins s σ H xs us Q I r h
 obtain⟨x,rfl,kn,q⟩:=h
 obtain⟨u1,u2,rfl,r1,r2⟩:=EC r
 cases r2
 have fin:∀t,TyOf X.K H x t->PySem.W.kitOne X.K t (.type T)=some (f H x)->wpAny (model X.prog X.w) X.A (call (.builtin "isinstance") [u1,.type T]) (EP X pins σ Q) X.xe s :=
  fun t ty e=>xb I r1 ty e fun tk=>⟨.bl (f H x),H,I.tok tk,rfl,q⟩
 cases x with
 |non=>exact fin _ .non (hn H)
 |bl c=>exact fin _ (.bl c) (hb H c)
 |int i=>exact fin _ (.int i) (hi H i)
 |str y=>exact fin _ (.str y) (hs H y)
 |ref a =>
  rcases kn with ⟨ys,e⟩|⟨o,ys,e⟩|⟨ys,e⟩|⟨ys,e⟩|⟨ys,e⟩
  ·exact fin _ (.lst e) (hl H a ys e)
  ·exact fin _ (.frz e) (hf H a o ys e)
  ·exact fin _ (.tup e) (ht H a ys e)
  ·exact fin _ (.dK e) (hd H a ys e)
  ·exact fin _ (.dT e) (hd' H a ys e)
 |_=>exact kn.elim
theorem lu{K:PySem.W.Frag}:PySem.W.kitOne K (.type "NoneType") (.type "int")=some false:=bT (by decide +kernel)
theorem sA{K:PySem.W.Frag}:PySem.W.kitOne K (.type "bool") (.type "int")=some true:=bT (by decide +kernel)
theorem vU{K:PySem.W.Frag}:PySem.W.kitOne K (.type "int") (.type "int")=some true:=bT (by decide +kernel)
theorem vV{K:PySem.W.Frag}:PySem.W.kitOne K (.type "str") (.type "int")=some false:=bT (by decide +kernel)
theorem lw{K:PySem.W.Frag}:PySem.W.kitOne K (.type "list") (.type "int")=some false:=bT (by decide +kernel)
theorem qu{K:PySem.W.Frag}:PySem.W.kitOne K (.type "tuple") (.type "int")=some false:=bT (by decide +kernel)
theorem lx{K:PySem.W.Frag}:PySem.W.kitOne K (.type "dict") (.type "int")=some false:=bT (by decide +kernel)
theorem kx{K:PySem.W.Frag}:PySem.W.kitOne K (.type "NoneType") (.type "bool")=some false:=bT (by decide +kernel)
theorem qv{K:PySem.W.Frag}:PySem.W.kitOne K (.type "bool") (.type "bool")=some true:=bT (by decide +kernel)
theorem sB{K:PySem.W.Frag}:PySem.W.kitOne K (.type "int") (.type "bool")=some false:=bT (by decide +kernel)
theorem sC{K:PySem.W.Frag}:PySem.W.kitOne K (.type "str") (.type "bool")=some false:=bT (by decide +kernel)
theorem kf{K:PySem.W.Frag}:PySem.W.kitOne K (.type "list") (.type "bool")=some false:=bT (by decide +kernel)
theorem oD{K:PySem.W.Frag}:PySem.W.kitOne K (.type "tuple") (.type "bool")=some false:=bT (by decide +kernel)
theorem kg{K:PySem.W.Frag}:PySem.W.kitOne K (.type "dict") (.type "bool")=some false:=bT (by decide +kernel)
theorem jg{K:PySem.W.Frag}:PySem.W.kitOne K (.type "NoneType") (.type "tuple")=some false:=bT (by decide +kernel)
theorem oE{K:PySem.W.Frag}:PySem.W.kitOne K (.type "bool") (.type "tuple")=some false:=bT (by decide +kernel)
theorem qw{K:PySem.W.Frag}:PySem.W.kitOne K (.type "int") (.type "tuple")=some false:=bT (by decide +kernel)
theorem qx{K:PySem.W.Frag}:PySem.W.kitOne K (.type "str") (.type "tuple")=some false:=bT (by decide +kernel)
theorem ix{K:PySem.W.Frag}:PySem.W.kitOne K (.type "list") (.type "tuple")=some false:=bT (by decide +kernel)
theorem mX{K:PySem.W.Frag}:PySem.W.kitOne K (.type "tuple") (.type "tuple")=some true:=bT (by decide +kernel)
theorem iy{K:PySem.W.Frag}:PySem.W.kitOne K (.type "dict") (.type "tuple")=some false:=bT (by decide +kernel)
theorem sD:dO X (.builtin "isinstance") (fun xs H Q=>∃x,xs=[x,.ty "int"]/\knV H x/\Q (.bl (Bi x)) H) :=
 jf (f:=fun _ x=>Bi x) (fun _=>lu) (fun _ _=>sA) (fun _ _=>vU) (fun _ _=>vV) (fun _ _ _ _=>lw) (fun _ _ _ _ _=>lw) (fun _ _ _ _=>qu) (fun _ _ _ _=>lx) (fun _ _ _ _=>lx)
theorem qy:dO X (.builtin "isinstance") (fun xs H Q=>∃x,xs=[x,.ty "bool"]/\knV H x/\Q (.bl (EY x)) H) :=
 jf (f:=fun _ x=>EY x) (fun _=>kx) (fun _ _=>qv) (fun _ _=>sB) (fun _ _=>sC) (fun _ _ _ _=>kf) (fun _ _ _ _ _=>kf) (fun _ _ _ _=>oD) (fun _ _ _ _=>kg) (fun _ _ _ _=>kg)
theorem oF:dO X (.builtin "isinstance") (fun xs H Q=>∃x,xs=[x,.ty "tuple"]/\knV H x/\Q (.bl (fi H x)) H) :=
 jf (f:=fi) (fun _=>jg) (fun _ _=>oE) (fun _ _=>qw) (fun _ _=>qx) (fun H a xs e=>by simp only[fi,e,isTupO];exact ix) (fun H a o xs e=>by simp only[fi,e,isTupO];exact ix) (fun H a xs e=>by simp only[fi,e,isTupO];exact mX) (fun H a xs e=>by simp only[fi,e,isTupO];exact iy) (fun H a xs e=>by simp only[fi,e,isTupO];exact iy)
def Big(i:Int):Prop:=i.natAbs.log2<8000
theorem xz{i:Int}(h:i.natAbs<2^8000):Big i:=by
 unfold Big
 rcases Nat.eq_zero_or_pos i.natAbs with h0|hp
 ·rw[h0];decide
 ·exact(Nat.log2_lt (zyA hp)).mpr h
theorem Big.bits{i:Int}(h:Big i):Builtin.Int.intBits i <= 8000:=by
 unfold Builtin.Int.intBits
 unfold Big at h
 split
 ·exact zzG _
 ·omega
def CMulB(i j:Int):Prop:=(-(2^64)<i/\i<2^64)∨(-(2^64)<j/\j<2^64)∨(Big i/\Big j)
theorem CMulB.ok{i j:Int}(h:CMulB i j):IntMulOk i j:=by
 rcases h with ⟨h1,h2⟩|⟨h1,h2⟩|⟨h1,h2⟩
 ·exact .of_left (intBits_le_64 h1 h2)
 ·exact .of_right (intBits_le_64 h1 h2)
 ·have b1:=h1.bits
  have b2:=h2.bits
  unfold IntMulOk
  have:Builtin.Int.intTooBig (Builtin.Int.intBits i+Builtin.Int.intBits j)=false:=by
   unfold Builtin.Int.intTooBig
   refine decide_eq_false ?_
   have e:bitsLine=134217728:=by decide
   rw[e]
   omega
  rw[this]
  simp
theorem jh:OpR X (binaryOp .Mult) (rI CMulB fun i j=>.int (i*j)):=opI fun _ _ _ _ _ _ _ hc q=>mul_int q hc.ok
def GS(_ j:Int):Prop:=0<j/\Big j
theorem ul:OpR X (binaryOp .FloorDiv) (rI GS fun i j=>.int (i / j)):=opI fun i j _ _ _ _ _ hc q=>by
 have h1:(0:Int)<j:=hc.1
 exact floordiv_int (by omega) (by rw[Int.fdiv_eq_ediv_of_nonneg i (by omega)];exact q) (.inl (PyProof.noPylong_of_log2 (Nat.lt_trans hc.2 (by decide))))
end
structure Df(K:PySem.W.Frag)(mg:Str->Option Value)(x:Str)(st:Stmt)(ps:List Str)(f:Addr)(fd:FuncData):Prop where
 F:Fun K x x st f fd
 m:mg x=some (.ref f)
 b:Binds K fd ps []
def SBut(p:Addr)(H H':Hp):Prop:=∀b o,b≠p->H b=some o->H' b=some o
theorem SBut.trans{p:Addr}{H H1 H2:Hp}(x:SBut p H H1)(y:SBut p H1 H2):SBut p H H2:=fun b o n e=>y b o n (x b o n e)
theorem SBut.upd{p:Addr}{H:Hp}{o:HO}:SBut p H (upd H p o):=fun b u n e=>by rw[aq n];exact e
theorem oG{q:Addr}{H:Hp}{o:HO}(h:H q=none):Same H (upd H q o):=fun b u e=>by rw[aq (bL e h)];exact e
theorem ji{H:Hp}{p q:Addr}{o u:HO}(h:H p=none)(e:H q=some u):upd H p o q=some u:=by rw[aq (bL e h)];exact e
def Scr(K:PySem.W.Frag)(H:Hp)(a:Addr)(ns:List Int):Prop:=(∃o,H a=some (.frz o (.lst (ns.map V.int))))∨∀H',SqL K H' a (ns.map V.int)
theorem Scr.sq{K:PySem.W.Frag}{H:Hp}{a:Addr}{ns:List Int}(h:Scr K H a ns):SqL K H a (ns.map V.int):=by
 rcases h with ⟨o,h⟩|h
 ·exact .inl (.inr ⟨o,h⟩)
 ·exact h H
theorem EZ{K:PySem.W.Frag}{H:Hp}{a:Addr}{ns:List Int}(h1:Only H)(h:SqL K H a (ns.map V.int)):Scr K H a ns:=by
 rcases h with (h|⟨o,h⟩)|h
 ·rcases h1 a with z|⟨o,xs,z⟩
  ·rw[z]at h;cases h
  ·rw[z]at h;cases h
 ·exact .inl ⟨o,h⟩
 ·exact .inr fun H'=>.inr h
structure Pen(K:PySem.W.Frag)(H:Hp)(p a:Addr)(ns:List Int)(t l:Int):Prop where
 lst:H p=some (.lst [.ref a,.int t,.int l])
 scr:Scr K H a ns
 t0:0 <= t
theorem Pen.put{K:PySem.W.Frag}{H:Hp}{p a:Addr}{ns:List Int}{t l t' l':Int}(h:Pen K H p a ns t l)(h0:0 <= t'):Pen K (upd H p (.lst [.ref a,.int t',.int l'])) p a ns t' l':=by
 refine⟨ak,?_,h0⟩
 rcases h.scr with ⟨o,e⟩|e
 ·refine .inl ⟨o,?_⟩
  rw[aq (mW e h.lst (by intro z;cases z))]
  exact e
 ·exact .inr e
theorem Pen.same{K:PySem.W.Frag}{H H':Hp}{p a:Addr}{ns:List Int}{t l:Int}(h:Pen K H p a ns t l)(s:Same H H'):Pen K H' p a ns t l:=by
 refine⟨s _ _ h.lst,?_,h.t0⟩
 rcases h.scr with ⟨o,e⟩|e
 ·exact .inl ⟨o,s _ _ e⟩
 ·exact .inr e
theorem xA{ns:List Int}{i:Int}(h0:0 <= i)(h:i<(ns.length:Int)):atI (ns.map V.int) i=some (.int (ns.getD i.toNat 0)):=by
 obtain⟨j,rfl⟩:=Int.eq_ofNat_of_zero_le h0
 have hj:j<ns.length:=by omega
 refine sk ?_
 simp[zzn,hj]
section
variable{X:Cx}{pos:Pos}
def GT:R2:=fun x y H Q=>∃p xs i v,x=.ref p/\y=.int i/\H p=some (.tup xs)/\atI xs i=some v/\Q v H
def GU:R2:=fun x y H Q=>∃p xs i v,x=.ref p/\y=.int i/\H p=some (.lst xs)/\atI xs i=some v/\Q v H
theorem Cq:IxR X GT:=fun value slice pins s σ H x y v u Q I rx ry ⟨p,xs,i,z,e1,e2,h,e3,q⟩ hs=>EJ value slice pins s σ H x y v u Q I rx ry ⟨p,xs,i,z,e1,e2,SqT.of h,e3,q⟩ hs
theorem um:IxR X GU:=fun value slice pins s σ H x y v u Q I rx ry ⟨p,xs,i,z,e1,e2,h,e3,q⟩ hs=>oq value slice pins s σ H x y v u Q I rx ry ⟨p,xs,i,z,e1,e2,SqL.of h,e3,q⟩ hs
def lenO:Option HO->Option Nat
 |some (.lst xs)=>some xs.length|some (.tup xs)=>some xs.length|_=>none
def GV:List V->Hp->VK->Prop:=fun xs H Q=>∃p n,xs=[.ref p]/\lenO (H p)=some n/\Q (.int n) H
theorem xB:dO X (.builtin "len") GV:=by
 intro pins s σ H xs us Q I r h
 obtain⟨p,n,rfl,e,q⟩:=h
 cases o:H p with
 |none=>rw[o]at e;cases e
 |some ob =>
  rw[o]at e
  cases ob with
  |lst ys=>cases e;exact cL pins s σ H _ us Q I r ⟨p,ys,rfl,.inl (SqL.of o),q⟩
  |tup ys=>cases e;exact cL pins s σ H _ us Q I r ⟨p,ys,rfl,.inr (SqT.of o),q⟩
  |_=>cases e
def gLsH(n:Nat)(t:TGs):TG:=fun v σ H Q=>∃a xs,v=.ref a/\H a=some (.lst xs)/\xs.length=n/\t xs σ H Q
theorem Fa{es:List Expr}{k:Nat}{t:TGs}{n:Nat}(hc:X.calm=true)(h:PGs X es t)
  (hn:(assignEach es X.env).length=n:=by rfl) (hst:(assignEach es X.env).findIdx? (·.1)=none:=by rfl):PG X (.Tuple es k pos) (gLsH n t) :=
 fun pins s σ H v u Q I r ⟨a,xs,e1,e2,e3,q⟩=>GR hc h hn hst pins s σ H v u Q I r ⟨a,xs,e1,SqL.of e2,e3,q⟩
def GW(n:Nat)(t:TGs):TG:=fun v σ H Q=>∃a xs,v=.ref a/\H a=some (.tup xs)/\xs.length=n/\t xs σ H Q
theorem Cr{es:List Expr}{k:Nat}{t:TGs}{n:Nat}(hc:X.calm=true)(h:PGs X es t)
  (hn:(assignEach es X.env).length=n:=by rfl) (hst:(assignEach es X.env).findIdx? (·.1)=none:=by rfl):PG X (.Tuple es k pos) (GW n t) :=
 fun pins s σ H v u Q I r ⟨a,xs,e1,e2,e3,q⟩=>Er hc h hn hst pins s σ H v u Q I r ⟨a,xs,e1,SqT.of e2,e3,q⟩
end
def xC(K:PySem.W.Frag):Sp:=fun vs H Q _=>∃(p a:Addr) (ns:List Int) (t l m:Int),vs=[.ref p,.int m]/\Pen K H p a ns t l/\1 <= m/\m <= 10^60 /\
 ∀(r t' l':Int) (H':Hp),0 <= r->r<m->Pen K H' p a ns t' l'->SBut p H H'->Q (.int r) H'
def Bj(K:PySem.W.Frag):Sp:=fun vs H Q _=>∃(a:Addr) (ns:List Int),vs=[.ref a]/\Scr K H a ns/\∀(p:Addr) (H':Hp),H p=none->Pen K H' p a ns 0 0->Same H H'->Q (.ref p) H'
theorem oH{x d y:Int}(h0:0<d)(h:d <= 18446744073709551616):CMulB (x % d) y:=by
 have h1:=zyU x (show d≠0 by omega)
 have h2:=zyI x h0
 exact .inl ⟨by omega,by omega⟩
theorem zN{c y:Int}(h : -18446744073709551616<c/\c<18446744073709551616:=by decide):CMulB c y:=.inl h
theorem Fb{c y:Int}(h : -18446744073709551616<c/\c<18446744073709551616:=by decide):CMulB y c:=.inr (.inl h)
theorem mpos{c:Int}(h:0<c:=by decide):0<c:=h
theorem xD{c:Int}(h0:0 <= c)(h:c <= 10^60):Big c:=xz (zzz (zzD (show c.natAbs <= 10^60 by omega) (show 10^60<2^200 by decide)) (Nat.pow_le_pow_right (by decide) (by decide)))
theorem qz{c:Int}(h0:0 <= c)(h:c <= 18446744073709551616):Big c:=xz (zzz (zzD (show c.natAbs <= 18446744073709551616 by omega) (show 18446744073709551616<2^65 by decide)) (Nat.pow_le_pow_right (by decide) (by decide)))
def dA(cells:List (Str×Addr)):List (Str×NameKind)->List (Str×Addr)->Option (List (Str×Addr))
 |[],cs=>some cs
 | (n,k)::r,cs=>if k == .free then(match cells.lookup n with
  |some c=>dA cells r ((n,c)::cs)
  |none=>none) else dA cells r cs
theorem iz{scope:Scope}{env:Env}{cl:List (Str×Addr)}(h:dA env.cells scope.names []=some cl):closureFor scope env=pure cl:=by
 simp only[closureFor]
 generalize ([]:List (Str×Addr))=cs at h ⊢
 generalize scope.names=l at h ⊢
 induction l generalizing cs with
 |nil=>cases h;rfl
 |cons a r ih =>
  obtain⟨n,k⟩:=a
  unfold dA at h
  rw[List.forIn_cons]
  by_cases hk:(k == NameKind.free)=true
  ·rw[if_pos hk]at h
   cases e:env.cells.lookup n with
   |none=>rw[e]at h;cases h
   |some c =>
    rw[e]at h
    have:=ih _ h
    simp only[hk,if_true,cellOf,e,pure_bind]
    exact this
  ·rw[if_neg hk]at h
   have:=ih _ h
   simp only[hk,zyv,if_false,pure_bind]
   exact this
theorem jj{cells cl:List (Str×Addr)}:∀{l:List (Str×NameKind)}{cs:List (Str×Addr)},dA cells l cs=some cl->(∀y c,cs.lookup y=some c->cells.lookup y=some c)->∀y c,cl.lookup y=some c->cells.lookup y=some c
 |[],cs,h,hs,y,c,e=>by cases h;exact hs y c e
 | (n,k)::r,cs,h,hs,y,c,e=>by
  unfold dA at h
  by_cases hk:(k == NameKind.free)=true
  ·rw[if_pos hk]at h
   cases q:cells.lookup n with
   |none=>rw[q]at h;cases h
   |some c' =>
    rw[q]at h
    refine jj h (fun z d hz=>?_) y c e
    by_cases hzn:(z == n)=true
    ·rw[zys,hzn]at hz
     cases hz
     rw[eq_of_beq hzn];exact q
    ·rw[zys,(Bool.not_eq_true _).mp hzn]at hz
     exact hs z d hz
  ·rw[if_neg hk]at h
   exact jj h hs y c e
theorem gg{cells cl:List (Str×Addr)}:∀{l:List (Str×NameKind)}{cs:List (Str×Addr)},dA cells l cs=some cl->∀y,((y,NameKind.free)∈l∨∃c,cs.lookup y=some c)->∃c,cl.lookup y=some c
 |[],cs,h,y,e=>by
  cases h
  rcases e with e|e
  ·simp at e
  ·exact e
 | (n,k)::r,cs,h,y,e=>by
  unfold dA at h
  by_cases hk:(k == NameKind.free)=true
  ·rw[if_pos hk]at h
   cases q:cells.lookup n with
   |none=>rw[q]at h;cases h
   |some c' =>
    rw[q]at h
    refine gg h y ?_
    rcases e with e|⟨c,e⟩
    ·rcases zzi.mp e with e|e
     ·cases e
      exact .inr ⟨c',by rw[zys,beq_self_eq_true]⟩
     ·exact .inl e
    ·by_cases hyn:(y == n)=true
     ·exact .inr ⟨c',by rw[zys,hyn]⟩
     ·exact .inr ⟨c,by rw[zys,(Bool.not_eq_true _).mp hyn];exact e⟩
  ·rw[if_neg hk]at h
   refine gg h y ?_
   rcases e with e|e
   ·rcases zzi.mp e with e|e
    ·cases e
     exact absurd rfl hk
    ·exact .inl e
   ·exact .inr e
inductive Cap(X:Cx)(scope:Scope):List Str->List (Option Nat)->Prop where
 |nil:Cap X scope [] []
 |own {x:Str}{N:List Str}{js:List (Option Nat)} (h:Cap X scope N js):Cap X scope (x::N) (none::js)
 |cap {x:Str}{j:Nat}{N:List Str}{js:List (Option Nat)} (h1:X.N[j]? = some x) (h2:X.env.kindOf x=some .cell∨X.env.kindOf x=some .free)
   (h3:scope.names.lookup x=some .free) (h:Cap X scope N js):Cap X scope (x::N) (some j::js)
def sub1(σ:St):Option Nat->Option V
 |none=>none
 |some j=>(σ[j]?).join
def sub(js:List (Option Nat))(σ:St):St:=js.map (sub1 σ)
theorem Cap.len{X:Cx}{scope:Scope}{N:List Str}{js:List (Option Nat)}(h:Cap X scope N js):js.length=N.length:=by induction h<;>simp[*]
theorem Cap.at{X:Cx}{scope:Scope}{N:List Str}{js:List (Option Nat)}(h:Cap X scope N js):∀{i:Nat}{x:Str}{σ:St}{v:V},N[i]? = some x->(sub js σ)[i]? = some (some v) ->
  ∃j:Nat,X.N[j]? = some x/\σ[j]? = some (some v)/\(X.env.kindOf x=some .cell∨X.env.kindOf x=some .free)/\scope.names.lookup x=some .free:=by
 induction h with
 |nil=>intro i x σ v h;simp at h
 |own h ih =>
  intro i x σ v h1 h2
  cases i with
  |zero=>simp[sub,sub1]at h2
  |succ i=>exact ih (by simpa using h1) (by simpa[sub]using h2)
 |@cap x j N js k1 k2 k3 h ih =>
  intro i y σ v h1 h2
  cases i with
  |zero =>
   simp at h1
   subst h1
   simp[sub,sub1]at h2
   refine⟨j,k1,?_,k2,k3⟩
   cases q:σ[j]? with
   |none=>rw[q]at h2;simp at h2
   |some o=>rw[q]at h2;simp at h2;rw[h2]
  |succ i=>exact ih (by simpa using h1) (by simpa[sub]using h2)
def dD(X:Cx)(scope:Scope)(cl:List (Str×Addr))(C:Addr)(N':List Str)(s₃:Shared)(H₃:Hp)(fp:List Addr)(pins:List (Addr×Obj)):Cx :=
 { X with N:=N',s₀:=s₃,H₀:=H₃,env:=compEnvC scope cl C X.env,outer:=X.stack,ex:=fp,fn:=fun y=>scope.names.lookup y == some .cell,pn:=X.pn++pins,xe:=fun _ _=>False }
structure Blk where
 C:Addr
 s3:Shared
 H3:Hp
 fp:List Addr
 pins:List (Addr×Obj)
abbrev cxB(X:Cx)(scope:Scope)(cl:List (Str×Addr))(N':List Str)(B:Blk):Cx:=dD X scope (cellsFrom (B.C+1) scope.names cl) B.C N' B.s3 B.H3 B.fp B.pins
def PTs(X:Cx)(ifs:List Expr)(t:TT):Prop :=
 ∀(pins:List (Addr×Obj)) (s:Shared) (σ:St) (H:Hp) (Q:Bool->Hp->Prop),Inv X pins σ H s->t σ H Q ->
  wpAny (model X.prog X.w) X.A (forIn ifs true fun c r=>if r=true then do let ok ←isTrue c X.env (eval c X.env);pure (ForInStep.yield ok) else pure (ForInStep.yield r)) (TP X pins σ Q) X.xe s
def Cs:TT:=fun _ H Q=>Q true H
theorem Ct{X:Cx}:PTs X [] Cs:=fun _ _ _ H _ I h=>wpAny_tests_nil ⟨H,I,h⟩
theorem Cu{X:Cx}{c:Expr}{t:TT}(h:PT X c t):PTs X [c] t:=fun pins s σ H Q I q=>wpAny_tests_one (h pins s σ H Q I q)
def Cv(wi:TI)(js:List (Option Nat))(g:Blk->TG)(tc:Blk->TT)(te:Blk->TE):TE:=fun σ H Q=>wi σ H fun J H1=>∀(B:Blk) D,H1 D=none->∃W:Nat->Nat->St->Hp->Prop,(∃m,W 0 m (sub js σ) (upd H1 D (.lst [])))/\∀i m σ' H',W i m σ' H' ->
 (J.stop i H'/\Q (.ref D) H')∨(J.go i H'/\∃N:St->Hp->Prop,(∀σ2 H2,N σ2 H2->∃m',m'<m/\W (i+1) m' σ2 H2)/\∀y H2,J.yld i H' y H2->g B y σ' H2 fun σ3 H3=>tc B σ3 H3 fun b H4 =>
  if b=true then te B σ3 H4 fun v H5=>∃ys,H5 D=some (.lst ys)/\ys.length<sizeLine/\N σ3 (upd H5 D (.lst (ys++[v]))) else N σ3 H4)
theorem qA{scope:Scope}{env:Env}{y:Str}(h:(relabel scope env).names.lookup y=some .cell∨(relabel scope env).names.lookup y=some .free):(y,NameKind.free)∈scope.names∨(y,NameKind.cell)∈scope.names:=by
 have key:∀k,(y,k)∈(relabel scope env).names->(k=.cell∨k=.free)->(y,NameKind.free)∈scope.names∨(y,NameKind.cell)∈scope.names:=by
  intro k hm hk
  obtain⟨⟨n,q⟩,hn,e⟩:=zzb.mp hm
  dsimp only at e
  split at e
  ·rename_i c
   simp only[zzK]at c
   have:q=.free:=eq_of_beq c.1.1
   subst this
   cases e
   exact .inl hn
  ·cases e
   rcases hk with rfl|rfl
   ·exact .inr hn
   ·exact .inl hn
 rcases h with h|h
 ·exact key _ (zzT h) (.inl rfl)
 ·exact key _ (zzT h) (.inr rfl)
theorem ly{scope:Scope}{env:Env}{y:Str}(h:scope.names.lookup y=some .free):(relabel scope env).names.lookup y=some .cell∨(relabel scope env).names.lookup y=some .free:=by
 show (List.lookup y (scope.names.map _))=_∨(List.lookup y (scope.names.map _))=_
 generalize scope.names=l at h
 induction l with
 |nil=>simp at h
 |cons a r ih =>
  obtain⟨n,k⟩:=a
  rw[zys]at h
  rw[zze]
  cases e:y == n with
  |true =>
   rw[e]at h
   cases h
   dsimp only
   split
   ·left;rw[zys,e]
   ·right;rw[zys,e]
  |false =>
   rw[e]at h
   dsimp only
   split<;>(rw[zys,e];exact ih h)
theorem bM:∀(names:List (Str×NameKind)) (n:Nat) (acc:List (Str×Addr)),cellsFrom n names acc=cellsFrom n names []++acc
 |[],_,_=>rfl
 | (x,k)::r,n,acc=>by
  unfold cellsFrom
  split
  ·rw[bM r (n+1) ((x,n)::acc),bM r (n+1) [(x,n)],zyC];rfl
  ·exact bM r n acc
theorem dP:∀(names:List (Str×NameKind)) (n:Nat) (y:Str) (c:Addr),(y,c)∈cellsFrom n names []->(y,NameKind.cell)∈names
 |[],_,_,_,h=>(nomatch h)
 | (x,k)::r,n,y,c,h=>by
  unfold cellsFrom at h
  split at h
  ·rename_i hk
   rw[bM]at h
   rcases zzx.mp h with h|h
   ·exact zzc _ (dP r _ y c h)
   ·have e:=zzw.mp h
    cases e
    rw[show k=.cell from eq_of_beq hk]
    exact zzd
  ·exact zzc _ (dP r _ y c h)
theorem iA:∀{l:List (Str×Addr)}{y:Str}{c:Addr},(y,c)∈l->∃d,l.lookup y=some d
 | (x,k)::r,y,c,h=>by
  rw[zys]
  cases e:y == x with
  |true=>exact⟨_,rfl⟩
  |false =>
   rcases zzi.mp h with h|h
   ·cases h;simp at e
   ·exact iA h
theorem eI:∀(names:List (Str×NameKind)) (n:Nat) (y:Str),(y,NameKind.cell)∈names->∃c,(y,c)∈cellsFrom n names []
 | (x,k)::r,n,y,h=>by
  unfold cellsFrom
  split
  ·rw[bM]
   rcases zzi.mp h with h|h
   ·cases h
    exact⟨n,zzV _ (zzw.mpr rfl)⟩
   ·obtain⟨c,q⟩:=eI r (n+1) y h
    exact⟨c,List.mem_append_left _ q⟩
  ·rename_i hk
   rcases zzi.mp h with h|h
   ·cases h;exact absurd rfl hk
   ·exact eI r n y h
theorem dY{l r:List (Str×Addr)}{y:Str}{c:Addr}(h:(l++r).lookup y=some c):l.lookup y=some c∨(l.lookup y=none/\r.lookup y=some c):=by
 rw[List.lookup_append]at h
 cases e:l.lookup y with
 |none=>rw[e]at h;exact .inr ⟨rfl,h⟩
 |some d=>rw[e]at h;exact .inl h
theorem lz{l r:List (Str×Addr)}{y:Str}{c:Addr}(h:l.lookup y=some c):(l++r).lookup y=some c:=by rw[List.lookup_append,h];rfl
theorem lA{l r:List (Str×Addr)}{y:Str}(h:l.lookup y=none):(l++r).lookup y=r.lookup y:=by rw[List.lookup_append,h];rfl
theorem ky{M:Model}{A:Around}{E:Value->Shared->Prop}{s:Shared}{scope:Scope}{globals:Addr}{cl:List (Str×Addr)}{qual:Str}{outer:Env}{Q:Env->Shared->Prop}
  (h:∀h₁:Heap,h₁.Ns s.heap.objs.size (fun _=>none)->(∀b o,s.heap.get? b=some o->h₁.get? b=some o)->CellsOk h₁ (s.heap.objs.size+1) (cellsFrom (s.heap.objs.size+1) scope.names []) ->
   Q (newEnv scope s.heap.objs.size globals (cellsFrom (s.heap.objs.size+1) scope.names cl) qual none .none (some outer) builtinsNs) { s with heap:=h₁ }) :
  wpAny M A (newFunctionEnv scope globals cl [] qual none .none (some outer)) Q E s:=by
 simp only[newFunctionEnv,Option.isSome_some,if_true]
 refine wpAny_bind (wpAny_alloc ?_)
 refine wpAny_bind (wpAny_layCells _ (fun name kind cells=>by cases hkc:kind == NameKind.cell<;>simp[hkc]) _ _ _ _ ?_)
 have ok:=cellsFrom_ok scope.names (s.heap.push { cls:=.type "dict",data:=.dict #[] }) (s.heap.objs.size+1) [] ⟨fun _ _ hm=>(nomatch hm),List.Pairwise.nil⟩ (by rw[zye];exact zzj _)
 rw[zye]at ok
 rw[show ({ s with heap:=s.heap.push { cls:=.type "dict",data:=.dict #[] } }:Shared).heap.objs.size=s.heap.objs.size+1 from zye ..]
 rw[List.forIn_nil]
 exact wpAny_bind (wpAny_pure (wpAny_pure (h _ ((Heap.Ns.new s.heap (.type "dict")).keeps (pushCells_keeps _ _)) (fun b o e=>pushCells_keeps _ _ b o (zzf _ e)) ok)))
section
variable{X:Cx}{pins:List (Addr×Obj)}{σ:St}{H:Hp}{s:Shared}{scope:Scope}{cl:List (Str×Addr)}{N':List Str}{js:List (Option Nat)}
theorem zO{fp:List Addr}{h₁:Heap}(I:Inv X pins σ H s)(hclo:dA X.env.cells scope.names []=some cl)(hdis:∀y∈scope.names,y.2=.free->(y.1,NameKind.cell)∉scope.names)(hkind:scope.kind=.function)(cap:Cap X scope N' js)
  (hf:∀b∈fp,FpOk X pins H b) (ho:∀b∈fp,∃o,s.heap.get? b=some o)
  (hns:h₁.Ns s.heap.objs.size (fun _=>none)) (hk:∀b o,s.heap.get? b=some o->h₁.get? b=some o) (cok:CellsOk h₁ (s.heap.objs.size+1) (cellsFrom (s.heap.objs.size+1) scope.names [])) {t':Nat} :
  Inv (dD X scope (cellsFrom (s.heap.objs.size+1) scope.names cl) s.heap.objs.size N' s H fp pins) [] (sub js σ) H { s with heap:=h₁,toks:=t' }:=by
 have sb:=jj hclo (fun y c e=>by simp at e)
 rw[bM]
 generalize hnw:cellsFrom (s.heap.objs.size+1) scope.names []=nw at cok ⊢
 have nk:∀y c,(y,c)∈nw->(y,NameKind.cell)∈scope.names:=fun y c h=>by rw[←hnw]at h;exact dP _ _ y c h
 have nh:∀y,(y,NameKind.cell)∈scope.names->∃c,nw.lookup y=some c:=fun y h=>by
  obtain⟨c,q⟩:=eI scope.names (s.heap.objs.size+1) y h
  rw[hnw]at q
  exact iA q
 have ng:∀y c,nw.lookup y=some c->h₁.IsCell c none/\s.heap.objs.size+1 <= c:=fun y c h=>cok.empty y c (zzT h)
 have old:∀y c,cl.lookup y=some c->c<s.heap.objs.size:=fun y c h=>by
  obtain⟨v,o,q1,q2⟩:=I.cell y c (sb y c h)
  exact zzq q1
 have nf:∀y,(y,NameKind.free)∈scope.names->nw.lookup y=none:=fun y h=>by
  cases e:nw.lookup y with
  |none=>rfl
  |some c=>exact absurd (nk y c (zzT e)) (hdis _ h rfl)
 refine⟨⟨I.ok.mod,hkind,I.ok.glob,I.ok.blt,zzj _,fun y z c h1 h2=>?_,fun y hy=>?_,fun y c z h=>?_,I.ok.hd,I.ok.frames,.inl rfl,fun b hb=>⟨?_,fun y c h=>?_⟩,I.bs,zzk I.ok.bsz I.sz,fun b o e hb=>?_,fun b hb=>?_,I.stack,I.stkFree⟩,
  rfl,I.bare,Un.kept hk,⟨_,hns,fun i y v h1 h2 h3=>?_⟩,fun y c h=>?_,I.hok.fresh (zzj _),fun y c h=>?_,fun p hp=>?_,I.hok.kept hk,?_⟩
 ·rcases dY h1 with a|⟨_,a⟩<;>rcases dY h2 with b|⟨_,b⟩
  ·exact name_of_addr cok.apart (zzT a) (zzT b)
  ·exact absurd (zzz (old z c b) (Nat.le_of_succ_le (ng y c a).2)) (zyi _)
  ·exact absurd (zzz (old y c a) (Nat.le_of_succ_le (ng z c b).2)) (zyi _)
  ·exact I.ok.inj y z c (sb y c a) (sb z c b)
 ·show ∃c,(nw++cl).lookup y=some c
  rcases qA hy with q|q
  ·obtain⟨c,e⟩:=gg hclo y (.inl q)
   exact⟨c,by rw[lA (nf y q)];exact e⟩
  ·obtain⟨c,e⟩:=nh y q
   exact⟨c,lz e⟩
 ·have z:(y,NameKind.cell)∈scope.names:=zzT (eq_of_beq z)
  obtain⟨d,e⟩:=nh y z
  have h:(nw++cl).lookup y=some c:=h
  rw[lz e]at h
  have h:d=c:=zyj h
  rw[←h]
  exact Nat.le_of_succ_le (ng y d e).2
 ·obtain⟨o,e⟩:=ho b hb
  exact zzA (zzq e)
 ·rcases dY h with a|⟨_,a⟩
  ·obtain⟨o,e⟩:=ho b hb
   rintro rfl
   exact absurd (zzz (zzq e) (Nat.le_of_succ_le (ng y c a).2)) (zyi _)
  ·exact(hf b hb).2.2.2.2.1 y c (sb y c a)
 ·have fb:=hf b hb
  rcases fb.2.2.2.1 with z|z
  ·exact I.ok.noex b o e z
  ·have h1:b<X.base.objs.size:=zzq e
   exact absurd (zzz h1 (zzk I.ok.bsz z)) (zyi _)
 ·intro z
  have:=I.stkSub b z
  rcases zzi.mp this with z|z
  ·exact(hf b hb).2.1 z
  ·exact(hf b hb).2.2.1 z
 ·obtain⟨j,k1,k2,k3,k4⟩:=cap.at h1 h2
  obtain⟨m,hm,hl⟩:=I.loc
  have vis:Vis X.env.scope y:=by
   rcases k3 with k|k
   ·exact .inr (.inl k)
   ·exact .inr (.inr k)
  obtain⟨u,r,lk⟩:=hl j y v k1 k2 vis
  refine⟨u,r,.inr ⟨ly k4,?_⟩⟩
  have q4:(y,NameKind.free)∈scope.names:=zzT k4
  rcases lk with ⟨k5,_⟩|⟨_,c,e1,e2⟩
  ·rcases k3 with k|k<;>(rw[k]at k5;cases k5)
  ·obtain⟨c',e3⟩:=gg hclo y (.inl q4)
   have:=sb y c' e3
   rw[e1]at this
   cases this
   refine⟨c,by show (nw++cl).lookup y=some c;rw[lA (nf y q4)];exact e3,?_⟩
   obtain⟨o,q1,q2⟩:=e2
   exact⟨o,hk _ _ q1,q2⟩
 ·rcases dY h with a|⟨_,a⟩
  ·exact⟨_,(ng y c a).1⟩
  ·obtain⟨v,o,q1,q2⟩:=I.cell y c (sb y c a)
   exact⟨v,o,hk _ _ q1,q2⟩
 ·rcases dY h with a|⟨_,a⟩
  ·exact I.hok.fresh (Nat.le_of_succ_le (ng y c a).2)
  ·exact I.freeC y c (sb y c a)
 ·have hp:p∈X.pn++pins:=by simpa[dD]using hp
  obtain⟨q1,q2,q3,q4,q5⟩:=I.pin p hp
  refine⟨hk _ _ q1,q2,zzA (zzq q1),fun z=>?_,q5⟩
  have:=I.stkSub p.1 z
  rcases zzi.mp this with z|z
  ·exact q3 z
  ·exact q4 z
 ·simp[sub,cap.len];rfl
theorem Fc{fs ex:List Addr}{H:Hp}{h h':Heap}{C:Addr}(hC:C∈ex)(hs:Heap.SameBut C h h'):Un fs ex H H h h' where
 keep:=fun b o e _ _ nx=>by rw[hs.2 b (by rintro rfl;exact nx hC)];exact e
 slot:=fun b o e _ _ nx=>⟨o.slots,by rw[hs.2 b (by rintro rfl;exact nx hC)];exact e⟩
 free:=fun b o _ n _=>n
 there:=fun b o e nx=>⟨o,by rw[hs.2 b (by rintro rfl;exact nx hC)];exact e⟩
 tups:=fun _ _ h=>h
 frzs:=fun _ _ _ h=>h
 tbls:=fun b ps h=>⟨#[],by simpa using h⟩
theorem Inv.but{C:Addr}{h':Heap}(I:Inv X pins σ H s)(f:FpOk X pins H C)(hs:Heap.SameBut C s.heap h'):Inv X pins σ H { s with heap:=h' }:=by
 refine I.call' (s':={ s with heap:=h' }) (ch:=[C]) rfl (Fc zzd hs) ?_ I.bare (fun b hb=>?_)
 ·intro a o e
  refine ObjOk.stay (I.hok a o e) (fun b u hb q=>?_) (fun _ h=>h) (fun _ _ h=>h)
  show h'.get? b=some u
  rw[hs.2 b]
  ·exact q
  ·rintro rfl
   rcases hb with rfl|hb
   ·rw[f.1]at e;cases e
   ·rw[f.1]at hb;cases hb
 ·have:b=C:=by simpa using hb
  subst this
  exact⟨f.2.2.2.1,f.2.1,f.2.2.2.2.1,f.2.2.2.2.2⟩
variable{elt iter:Expr}{x:Str}{pos:Pos}{ifs:List Expr}{wi:TI}{g:TG}{tc:TT}{te:TE}{Q:VK}{gB:Blk->TG}{tcB:Blk->TT}{teB:Blk->TE}
theorem xE{prog:Program}{w:World}{A:Around}{R:Result->Shared->Prop}{e tg it0:Expr}{cs:List Expr}{sc:Scope}{ps:Pos}{itv av:Value}{cenv:Env}{z:Shared}(J:Nat->Shared->Prop)
  (turn:∀k z,J k z->wpAny (model prog w) A (pyNext itv) (fun r z1=>match r with
   |none=>R (.ok .next) z1
   |some u=>wpAny (model prog w) A (letOwnedTupleGo tg itv u) (fun _ z2=>wpAny (model prog w) A (assign tg cenv u) (fun _ z3 =>
     wpAny (model prog w) A (forIn cs true fun c r=>if r=true then do let ok ←isTrue c cenv (eval c cenv);pure (ForInStep.yield ok) else pure (ForInStep.yield r)) (fun b z4 =>
      if b=true then wpAny (model prog w) A (eval e cenv) (fun y z5 =>
       wpAny (model prog w) A (call (.builtin "list.append") [av,y]) (fun _ z6=>∃m,m<k/\J m z6) (fun _ _=>False) z5) (fun _ _=>False) z4
      else ∃m,m<k/\J m z4) (fun _ _=>False) z3) (fun _ _=>False) z2) (fun _ _=>False) z1) (fun _ _=>False) z)
  (k:Nat) (h:J k z):codeAny (model prog w) A (.compLoop (.ListComp e [⟨tg,it0,cs,0⟩] sc ps) 0 itv av cenv) R z:=by
 have no:∀{α:Type}{m:Sem α}{P:α->Shared->Prop}{E:Value->Shared->Prop}{z:Shared},wpAny (model prog w) A m P (fun _ _=>False) z->wpAny (model prog w) A m P E z:=fun h=>wpAny_mono h (fun _ _ q=>q) fun _ _ q=>q.elim
 refine codeAny_loop rfl J (fun k z hJ=>?_) k h
 show wpAny _ A ((compTurn (.ListComp e [⟨tg,it0,cs,0⟩] sc ps) 0 itv av cenv).onRaise (fun x=>do noteFrame x cenv;theTreesLotGoes x)) _ _ z
 refine wpAny_noted ?_
 rw[compTurn_list]
 refine wpAny_bind (wpAny_standAt (wpAny_bind (no (thn (turn k z hJ) fun r z1 q1=>?_))))
 cases r with
 |none=>exact wpAny_pure q1
 |some u =>
  refine wpAny_bind (no (thn q1 fun _ z2 q2=>wpAny_bind (no (thn q2 fun _ z3 q3=>wpAny_bind (no (thn q3 fun b z4 q4=>?_))))))
  cases b with
  |false=>exact wpAny_pure ⟨rfl,q4⟩
  |true=>exact wpAny_bind (wpAny_bind (no (thn q4 fun y z5 q5=>wpAny_bind (no (thn q5 fun _ z6 q6=>wpAny_pure (wpAny_pure ⟨rfl,q6⟩))))))
theorem vW{RR:Value->Addr->Result->Shared->Prop}{s3:Shared}{H3:Hp}{D it:Addr}{fp:List Addr}{tn:Nat->Heap->Prop}{J:It}{W:Nat->Nat->St->Hp->Prop}{m0 t':Nat}{h₁:Heap}{tg:Expr}
  (hc:X.calm=true) (hclo:dA X.env.cells scope.names []=some cl) (hdis:∀y∈scope.names,y.2=.free->(y.1,NameKind.cell)∉scope.names) (hkind:scope.kind=.function) (cap:Cap X scope N' js)
  (hb:PG (dD X scope (cellsFrom (s3.heap.objs.size+1) scope.names cl) s3.heap.objs.size N' s3 H3 fp pins) tg g/\PTs (dD X scope (cellsFrom (s3.heap.objs.size+1) scope.names cl) s3.heap.objs.size N' s3 H3 fp pins) ifs tc/\PE (dD X scope (cellsFrom (s3.heap.objs.size+1) scope.names cl) s3.heap.objs.size N' s3 H3 fp pins) elt te)
  (I3:Inv X pins σ H3 s3) (T:Turn X.prog X.w X.K tg J fp it tn) (st3:tn 0 s3.heap) (f3:∀b∈fp,FpOk X pins H3 b) (w0:W 0 m0 (sub js σ) H3)
  (turn:∀i m σ' H',W i m σ' H'->(J.stop i H'/\Q (.ref D) H')∨(J.go i H'/\∃N:St->Hp->Prop,(∀σ2 H2,N σ2 H2->∃m',m'<m/\W (i+1) m' σ2 H2)/\∀y H2,J.yld i H' y H2->g y σ' H2 fun σ3 H3=>tc σ3 H3 fun b H4 =>
   if b=true then te σ3 H4 fun v H5=>∃ys,H5 D=some (.lst ys)/\ys.length<sizeLine/\N σ3 (upd H5 D (.lst (ys++[v]))) else N σ3 H4))
  (hns:h₁.Ns s3.heap.objs.size (fun _=>none)) (hk:∀b o,s3.heap.get? b=some o->h₁.get? b=some o) (cok:CellsOk h₁ (s3.heap.objs.size+1) (cellsFrom (s3.heap.objs.size+1) scope.names []))
  (hR:∀s' H' m,Inv X pins σ H' s'->FpOk X pins H' s3.heap.objs.size->s'.heap.Ns s3.heap.objs.size m->Q (.ref D) H'->RR (.ref D) s3.heap.objs.size (.ok .next) s') :
  codeAny (model X.prog X.w) X.A (.compStart (.ListComp elt [⟨tg,iter,ifs,0⟩] scope pos) 0 (.ref it) (.ref D) (compEnvC scope (cellsFrom (s3.heap.objs.size+1) scope.names cl) s3.heap.objs.size X.env)) (RR (.ref D) s3.heap.objs.size) { s3 with heap:=h₁,toks:=t' }:=by
 have ob3:∀b∈fp,∃o,s3.heap.get? b=some o:=fun b hb=>let ⟨o,e,_⟩:=T.obj _ _ st3 b hb;⟨o,e⟩
 have I0:Inv (dD X scope (cellsFrom (s3.heap.objs.size+1) scope.names cl) s3.heap.objs.size N' s3 H3 fp pins) [] (sub js σ) H3 { s3 with heap:=h₁,toks:=t' }:=zO I3 hclo hdis hkind cap f3 ob3 hns hk cok
 have tn0:tn 0 h₁:=T.keep _ _ _ st3 fun b _ o e=>hk b o e
 have hC:FpOk X pins H3 s3.heap.objs.size:=I3.fpOk (zzj _) (I3.hok.fresh (zzj _))
 obtain⟨bg,bt,be⟩:=hb
 have stat:∀{H':Hp},(∀b∈fp,H' b=none)->∀b∈fp,FpOk (dD X scope (cellsFrom (s3.heap.objs.size+1) scope.names cl) s3.heap.objs.size N' s3 H3 fp pins) [] H' b:=fun {H'} hn b hb=>by
  obtain⟨o,e⟩:=ob3 b hb
  refine⟨hn b hb,zzA (zzq e),I0.ok.exfs b hb,.inl hb,fun y c h=>(I0.ok.exf b hb).2 y c h,fun p hp=>?_⟩
  exact(f3 b hb).2.2.2.2.2 p (by simpa[dD]using hp)
 have loop:codeAny (model X.prog X.w) X.A (.compLoop (.ListComp elt [⟨tg,iter,ifs,0⟩] scope pos) 0 (.ref it) (.ref D) (compEnvC scope (cellsFrom (s3.heap.objs.size+1) scope.names cl) s3.heap.objs.size X.env)) (RR (.ref D) s3.heap.objs.size) { s3 with heap:=h₁,toks:=t' }:=by
  refine xE (fun n s'=>∃i σ' H',Inv (dD X scope (cellsFrom (s3.heap.objs.size+1) scope.names cl) s3.heap.objs.size N' s3 H3 fp pins) [] σ' H' s'/\tn i s'.heap/\(∀b∈fp,H' b=none)/\W i n σ' H') (fun n s4 hJ=>?_) m0 ⟨0,sub js σ,H3,I0,tn0,fun b hb=>(f3 b hb).1,w0⟩
  obtain⟨i,σ4,H4,I4,st4,fr4,w4⟩:=hJ
  rcases turn i n σ4 H4 w4 with ⟨stop,q⟩|⟨go,N,hN,step⟩
  ·refine thn (T.done (dD X scope (cellsFrom (s3.heap.objs.size+1) scope.names cl) s3.heap.objs.size N' s3 H3 fp pins) rfl rfl rfl hc i [] s4 σ4 H4 _ I4 (stat fr4) st4 stop) fun r s5 ⟨hr,I5⟩=>?_
   subst hr
   have u:Un (frs X.stack) fp H3 H4 s3.heap s5.heap:=I5.base
   have free:H4 s3.heap.objs.size=none:=I5.free
   have back:Inv X pins σ H4 s5:=by
    refine I3.call' (s':=s5) (ch:=s3.heap.objs.size::fp) I5.os (u.mono (fun _ h=>h) fun b h=>zzc _ h) I5.hok I5.bare (fun b hb=>?_)
    rcases zzi.mp hb with rfl|hb
    ·exact⟨hC.2.2.2.1,hC.2.1,hC.2.2.2.2.1,hC.2.2.2.2.2⟩
    ·have:=f3 b hb
     exact⟨this.2.2.2.1,this.2.1,this.2.2.2.2.1,this.2.2.2.2.2⟩
   obtain⟨m,hm,_⟩:=I5.loc
   exact hR s5 H4 m back ⟨free,hC.2⟩ hm q
  ·refine thn (T.item (dD X scope (cellsFrom (s3.heap.objs.size+1) scope.names cl) s3.heap.objs.size N' s3 H3 fp pins) rfl rfl rfl hc i [] s4 σ4 H4 _ I4 (stat fr4) st4 go) fun r s5 ⟨u,hr,h5⟩=>?_
   subst hr
   refine thn h5 fun _ s6 ⟨y,H6,I6,r6,y6,st6,fr6⟩=>?_
   have I6':=I6.pinned (stat fr6) (T.obj _ _ st6)
   refine thn (bg _ s6 σ4 H6 y u _ I6' r6 (step y H6 y6)) fun _ s7 ⟨σ7,H7,I7,q7⟩=>?_
   refine thn (bt _ s7 σ7 H7 _ I7 q7) fun b s8 ⟨H8,I8,q8⟩=>?_
   have again:∀{H':Hp}{s':Shared},Inv (dD X scope (cellsFrom (s3.heap.objs.size+1) scope.names cl) s3.heap.objs.size N' s3 H3 fp pins) ([]++qh fp s6.heap) σ7 H' s'->N σ7 H'->∃m,m<n/\∃i σ' H',Inv (dD X scope (cellsFrom (s3.heap.objs.size+1) scope.names cl) s3.heap.objs.size N' s3 H3 fp pins) [] σ' H' s'/\tn i s'.heap/\(∀b∈fp,H' b=none)/\W i m σ' H':=fun {H' s'} I9 n9=>by
    obtain⟨m',hm,w9⟩:=hN σ7 H' n9
    refine⟨m',hm,i+1,σ7,H',I9.unpinned,T.keep _ _ _ st6 fun b hb o e=>(I9.pin (b,o) (zzV _ (zzV _ (gf hb e)))).1,fun b hb=>?_,w9⟩
    obtain⟨o,e,d⟩:=T.obj _ _ st6 b hb
    exact(I9.pin (b,o) (zzV _ (zzV _ (gf hb e)))).2.1
   cases b with
   |false=>exact iteF (again I8 q8)
   |true =>
    refine iteT (thn (be _ s8 σ7 H8 _ I8 q8) fun yv s9 ⟨v9,H9,I9,r9,ys,hD,hl,n9⟩=>?_)
    exact thn (lq _ s9 σ7 H9 (.ref D) [v9] (.ref D) [yv] (fun _ H'=>H'=upd H9 D (.lst (ys++[v9]))) I9 rfl (.cons r9 .nil) ⟨D,ys,v9,rfl,rfl,hD,hl,rfl⟩) fun _ s10 ⟨_,H10,I10,_,e10⟩=>by
     subst e10
     exact again I10 n9
 exact codeAny_compStart_list loop (T.self _ 0 _ _ _ tn0 loop)
theorem uo{RR:Value->Addr->Result->Shared->Prop}{tg:Expr}(hc:X.calm=true)(hclo:dA X.env.cells scope.names []=some cl)(hdis:∀y∈scope.names,y.2=.free->(y.1,NameKind.cell)∉scope.names)(hkind:scope.kind=.function)(cap:Cap X scope N' js)
  (hi:PI X tg iter wi)
  (hb:∀B:Blk,PG (cxB X scope cl N' B) tg (gB B)/\PTs (cxB X scope cl N' B) ifs (tcB B)/\PE (cxB X scope cl N' B) elt (teB B))
  (I:Inv X pins σ H s) (h:Cv wi js gB tcB teB σ H Q)
  (hR:∀D C s' H' m,Inv X pins σ H' s'->FpOk X pins H' C->s'.heap.Ns C m->Q (.ref D) H'->RR (.ref D) C (.ok .next) s') :
  wpAny (model X.prog X.w) X.A (eval iter X.env) (fun v s1=>wpAny (model X.prog X.w) X.A (pyIter v) (fun it s2=>wpAny (model X.prog X.w) X.A (newList []) (fun acc s3 =>
   wpAny (model X.prog X.w) X.A (newFunctionEnv scope X.env.globals cl [] X.env.qual none .none (some X.env)) (fun cenv s4 =>
    codeAny (model X.prog X.w) X.A (.compStart (.ListComp elt [⟨tg,iter,ifs,0⟩] scope pos) 0 it acc { cenv with scope:=relabel scope X.env }) (RR acc cenv.locals) s4) X.xe s3) X.xe s2) X.xe s1) X.xe s:=by
 refine thn (hi pins s σ H _ I h) fun v s1 h1=>thn h1 fun itv s2 h2=>?_
 obtain⟨it,fp,tn,J,H2,e,I2,T,st2,f2,h2⟩:=h2
 subst e
 have hD0:H2 s2.heap.objs.size=none:=I2.hok.fresh (zzj _)
 obtain⟨W,⟨m0,w0⟩,turn⟩:=h2 ⟨(s2.heap.push { cls:=.type "list",data:=.seq ([]:List Value).toArray }).objs.size,{ s2 with heap:=s2.heap.push { cls:=.type "list",data:=.seq ([]:List Value).toArray } },upd H2 s2.heap.objs.size (.lst []),fp,pins⟩ s2.heap.objs.size hD0
 refine wpAny_newObj_type (ky (fun h₁ hns₁ hk₁ cok₁=>?_))
 have I3:Inv X pins σ (upd H2 s2.heap.objs.size (.lst [])) { s2 with heap:=s2.heap.push { cls:=.type "list",data:=.seq ([]:List Value).toArray } }:=I2.lnew .nil (zzG _)
 refine vW (s3:={ s2 with heap:=s2.heap.push { cls:=.type "list",data:=.seq ([]:List Value).toArray } }) (cl:=cl) (fp:=fp) hc hclo hdis hkind cap (hb ⟨(s2.heap.push { cls:=.type "list",data:=.seq ([]:List Value).toArray }).objs.size,{ s2 with heap:=s2.heap.push { cls:=.type "list",data:=.seq ([]:List Value).toArray } },upd H2 s2.heap.objs.size (.lst []),fp,pins⟩) I3 T ?_ (fun b hb=>?_) w0 turn hns₁ hk₁ cok₁ (fun s' H' m=>hR _ _ s' H' m)
 ·exact T.keep _ _ _ st2 fun b _ o e=>zzf _ e
 ·have:=f2 b hb
  obtain⟨o,e,_⟩:=T.obj _ _ st2 b hb
  exact⟨by show upd H2 s2.heap.objs.size (.lst []) b=none;rw[aq (zzA (zzq e))];exact this.1,this.2⟩
theorem Cw{tg:Expr}(hc:X.calm=true)(hclo:dA X.env.cells scope.names []=some cl)(hdis:∀y∈scope.names,y.2=.free->(y.1,NameKind.cell)∉scope.names)(hkind:scope.kind=.function)(cap:Cap X scope N' js)
  (hnames:∀y∈scope.names,y.2=.local->scope.names.lookup y.1=some .local) (hi:PI X tg iter wi)
  (hb:∀B:Blk,PG (cxB X scope cl N' B) tg (gB B)/\PTs (cxB X scope cl N' B) ifs (tcB B)/\PE (cxB X scope cl N' B) elt (teB B))
  (hs:∀v,foldedSetIterable iter X.env v=pure v:=by intro _;rfl):PE X (.ListComp elt [⟨tg,iter,ifs,0⟩] scope pos) (Cv wi js gB tcB teB):=by
 intro pins s σ H Q I h
 rw[eval_ListComp]
 refine wpAny_comprehension_free (use:=none) rfl hs (iz hclo) hkind hnames (uo (RR:=fun acc C=>compPost (model X.prog X.w) X.A X.xe none (EP X pins σ Q) acc C) hc hclo hdis hkind cap hi hb I h ?_)
 intro D C s' H' m I' f hm q
 exact⟨m,hm,fun h' hs'=>⟨.ref D,H',I'.but f hs',rfl,q⟩⟩
theorem Cy{tg:Expr}{i:Nat}{y:Str}{py spos:Pos}(hN:X.N.Nodup)(hy:X.N[i]? = some y)(hl:X.env.scope.names.lookup y=some .local)(hc:X.calm=true)(hclo:dA X.env.cells scope.names []=some cl)(hdis:∀y∈scope.names,y.2=.free->(y.1,NameKind.cell)∉scope.names)(hkind:scope.kind=.function)(cap:Cap X scope N' js)
  (hnames:∀y∈scope.names,y.2=.local->scope.names.lookup y.1=some .local) (hi:PI X tg iter wi)
  (hb:∀B:Blk,PG (cxB X scope cl N' B) tg (gB B)/\PTs (cxB X scope cl N' B) ifs (tcB B)/\PE (cxB X scope cl N' B) elt (teB B))
  (hsw:swapsWith (.ListComp elt [⟨tg,iter,ifs,0⟩] scope pos) (some (.Name y py)) spos.line X.env=pure true:=by rfl)
  (hs:∀v,foldedSetIterable iter X.env v=pure v:=by intro _;rfl):PS X (.Assign [.Name y py] (.ListComp elt [⟨tg,iter,ifs,0⟩] scope pos) spos) (tAsg (Cv wi js gB tcB teB) (wR i)):=by
 intro pins s σ H D I h
 rw[exec_Assign_Name_used _ _ _ _ hsw]
 refine wpAny_bind (wpAny_standAt (wpAny_bind ?_))
 show wpAny _ X.A (do let _ ←comprehension (.ListComp elt [⟨tg,iter,ifs,0⟩] scope pos) scope X.env _ (newList []) false (eval iter X.env) (some (assign (.Name y py) X.env))) _ _ s
 refine wpAny_bind (thn (wpAny_comprehension_free (use:=some (assign (.Name y py) X.env)) (Q:=fun _ s'=>SP X pins D .next s') rfl hs (iz hclo) hkind hnames
  (uo (RR:=fun acc C=>compPost (model X.prog X.w) X.A X.xe (some (assign (.Name y py) X.env)) (fun _ s'=>SP X pins D .next s') acc C) hc hclo hdis hkind cap hi hb I h ?_)) fun _ s' q=>wpAny_pure (wpAny_pure q))
 intro Dl C s' H' m I' f hm q
 show wpAny _ X.A (assign (.Name y py) X.env (.ref Dl)) _ _ _
 refine wpAny_assign_Name (qe I' hN hy (.inl hl) (v:=.ref Dl) rfl (fun s2 I2 hch=>?_) (.inr hl))
 obtain⟨a,hsb,ha⟩:=hch
 have hCa:C≠a:=by
  rcases ha with rfl|ha
  ·exact f.2.1
  ·exact fun z=>f.2.2.2.2.1 y a ha z.symm
 refine⟨m,hm.sameBut hsb hCa,fun h' hs'=>⟨_,H',I2.but f hs',q⟩⟩
end
def excA(C:Addr)(dd:Option Addr)(ea:Addr):HO:=.ext fun h=>∃o,h.get? ea=some o/\o.cls=.ref C/\o.dict=dd/\∃vs,o.data=.fields vs
abbrev excO(C ea:Addr):HO:=excA C none ea
open PySem.W (Looks)
def exD(fs:List (Str×V))(dx:Addr):HO:=.ext fun h=>∃mA,h.Ns1 dx mA/\(∀f,RelO (fs.lookup f) (mA f))/\PySem.Within mA (fs.map (·.1))/\fs.length <= 1000
end L2
namespace DL
open PySem PySem.Spec L2
open PyProof.Rows hiding St
inductive D where
 |non|bl (b:Bool)|int (i:Int)|str (x:Str)|ty (n:String)|tup (ds:List D)|lst (ds:List D)
 |dK (ks:List Key) (ds:List D)|dT (ks:List (List Key)) (ds:List D)|pen|exc (C:Addr)|cls (C:Addr)|exa (C:Addr) (fs:List (Str×V))
inductive O where
 |val (d:D)|lst (os:List O)|dct (ks:List (List Key)) (os:List O)|tup (os:List O)|dck (ks:List Key) (os:List O)
inductive Sl where
 |nil|val (d:D)|own (ds:List D)|obj (o:O)|pin (v:V) (d:D)
section
variable(K:PySem.W.Frag)(pp:Option Addr)(M:List Addr)(H:Hp)
mutual
def Rep:D->V->Prop
 |.non,v=>v=.non
 |.bl b,v=>v=.bl b
 |.int i,v=>v=.int i
 |.str x,v=>v=.str x
 |.ty n,v=>v=.ty n
 |.tup ds,v=>∃a xs,v=.ref a/\H a=some (.tup xs)/\Reps ds xs
 |.lst ds,v=>∃a xs,v=.ref a/\a∉M/\pp≠some a/\H a=some (.lst xs)/\Reps ds xs
 |.dK ks ds,v=>∃a kvs,v=.ref a/\a∉M/\pp≠some a/\H a=some (.dK kvs)/\kvs.map (·.1)=ks/\Reps ds (kvs.map (·.2))
 |.dT ks ds,v=>∃a kvs,v=.ref a/\a∉M/\pp≠some a/\H a=some (.dT kvs)/\kvs.map (·.1)=ks/\Reps ds (kvs.map (·.2))
 |.pen,v=>∃p,v=.ref p/\pp=some p/\∃a ns t l,Pen K H p a ns t l
 |.exc C,v=>∃a,v=.ref a/\a∉M/\pp≠some a/\H a=some (excO C a)
 |.cls C,v=>v=.ref C
 |.exa C fs,v=>∃a dx,v=.ref a/\a∉M/\pp≠some a/\H a=some (excA C (some dx) a)/\dx∉M/\pp≠some dx/\H dx=some (exD fs dx)
def Reps:List D->List V->Prop
 |[],xs=>xs=[]
 |d::ds,xs=>∃x r,xs=x::r/\Rep d x/\Reps ds r
end
end
section
variable{K:PySem.W.Frag}{pp:Option Addr}{M M' M'':List Addr}{H H' H'':Hp}
class TB where
 tb:List (Addr×Str)
instance(priority:=low) TB.none:TB:=⟨[]⟩
def Tabs[TB](H:Hp):Prop:=∀P ql,TB.tb.lookup P=some ql->∃ps,H P=some (.tbl ps)/\TriplesOk ps.toList /\
 ∀pos cv,codeAmong pos ps.toList=some cv->∃c oc u vs t,cv=.ref c/\H c=some (.frz oc u)/\oc.data=.fields vs/\vs[1]? = some (.str ql t)
def TF(o:HO):Prop:=(∃ps,o=.tbl ps)∨∃ob u,o=.frz ob u
theorem Tabs.of[TB]{H H':Hp}(h:Tabs H)(k:∀b o,H b=some o->TF o->H' b=some o):Tabs H':=fun P ql hq =>
 let ⟨ps,e1,e2,e3⟩:=h P ql hq
 ⟨ps,k _ _ e1 (.inl ⟨_,rfl⟩),e2,fun pos cv e=>let ⟨c,oc,u,vs,t,f1,f2,f3⟩:=e3 pos cv e;⟨c,oc,u,vs,t,f1,k _ _ f2 (.inr ⟨_,_,rfl⟩),f3⟩⟩
theorem Tabs.upd[TB]{H:Hp}{l:Addr}{o o':HO}(h:Tabs H)(hl:H l=some o)(ht:¬TF o):Tabs (upd H l o') :=
 h.of fun b x e tf=>by
  rw[aq]
  ·exact e
  ·rintro rfl
   rw[hl]at e;cases e
   exact ht tf
theorem Tabs.new[TB]{H:Hp}{l:Addr}{o':HO}(h:Tabs H)(hl:H l=none):Tabs (L2.upd H l o') :=
 h.of fun b x e _=>ji hl e
theorem oI{xs:List V}:¬TF (.lst xs):=by rintro(⟨_,e⟩|⟨_,_,e⟩)<;>cases e
def NT(o:HO):Prop:=∀ps,o ≠ .tbl ps
def NP(pp:Option Addr)(a:Addr)(o:HO):Prop:=pp≠some a/\NT o
theorem np{pp:Option Addr}{a:Addr}{o:HO}(h:pp≠some a)(t:NT o:=by intro _ z;cases z):NP pp a o:=⟨h,t⟩
structure Mv[TB](K:PySem.W.Frag)(pp:Option Addr)(M:List Addr)(H:Hp)(M':List Addr)(H':Hp):Prop where
 tup:∀a xs,H a=some (.tup xs)->H' a=some (.tup xs)
 oth:∀a o,H a=some o->a∉M->NP pp a o->H' a=some o/\a∉M'
 pen:∀p,pp=some p->(∃a ns t l,Pen K H p a ns t l)->∃a ns t l,Pen K H' p a ns t l
 tb:Tabs H->Tabs H'
variable[TB]
theorem Mv.lst(m:Mv K pp M H M' H')(a:Addr)(xs:List V)(h:H a=some (.lst xs))(n:a∉M)(q:pp≠some a):H' a=some (.lst xs)/\a∉M':=m.oth a _ h n (np q)
theorem Mv.refl:Mv K pp M H M H:=⟨fun _ _ h=>h,fun _ _ h n _=>⟨h,n⟩,fun _ _ h=>h,fun h=>h⟩
theorem Mv.trans(x:Mv K pp M H M' H')(y:Mv K pp M' H' M'' H''):Mv K pp M H M'' H'' :=
 ⟨fun a xs h=>y.tup a xs (x.tup a xs h),fun a xs h n q=>y.oth a xs (x.oth a xs h n q).1 (x.oth a xs h n q).2 q,fun p e h=>y.pen p e (x.pen p e h),fun h=>y.tb (x.tb h)⟩
mutual
theorem Rep.mv(m:Mv K pp M H M' H'):∀(d:D) (v:V),Rep K pp M H d v->Rep K pp M' H' d v
 |.non,_,h=>by simp only[Rep]at h ⊢;exact h
 |.bl _,_,h=>by simp only[Rep]at h ⊢;exact h
 |.int _,_,h=>by simp only[Rep]at h ⊢;exact h
 |.str _,_,h=>by simp only[Rep]at h ⊢;exact h
 |.ty _,_,h=>by simp only[Rep]at h ⊢;exact h
 |.tup ds,_,h=>by
  simp only[Rep]at h ⊢
  obtain⟨a,xs,e,h1,h2⟩:=h
  exact⟨a,xs,e,m.tup a xs h1,Reps.mv m ds xs h2⟩
 |.lst ds,_,h=>by
  simp only[Rep]at h ⊢
  obtain⟨a,xs,e,h0,hp,h1,h2⟩:=h
  exact⟨a,xs,e,(m.lst a xs h1 h0 hp).2,hp,(m.lst a xs h1 h0 hp).1,Reps.mv m ds xs h2⟩
 |.dK ks ds,_,h=>by
  simp only[Rep]at h ⊢
  obtain⟨a,xs,e,h0,hp,h1,h2,h3⟩:=h
  exact⟨a,xs,e,(m.oth a _ h1 h0 (np hp)).2,hp,(m.oth a _ h1 h0 (np hp)).1,h2,Reps.mv m ds _ h3⟩
 |.dT ks ds,_,h=>by
  simp only[Rep]at h ⊢
  obtain⟨a,xs,e,h0,hp,h1,h2,h3⟩:=h
  exact⟨a,xs,e,(m.oth a _ h1 h0 (np hp)).2,hp,(m.oth a _ h1 h0 (np hp)).1,h2,Reps.mv m ds _ h3⟩
 |.pen,_,h=>by
  simp only[Rep]at h ⊢
  obtain⟨p,e,e2,h⟩:=h
  exact⟨p,e,e2,m.pen p e2 h⟩
 |.exc C,_,h=>by
  simp only[Rep]at h ⊢
  obtain⟨a,e,h0,hp,h1⟩:=h
  exact⟨a,e,(m.oth a _ h1 h0 (np hp)).2,hp,(m.oth a _ h1 h0 (np hp)).1⟩
 |.cls _,_,h=>by simp only[Rep]at h ⊢;exact h
 |.exa C fs,_,h=>by
  simp only[Rep]at h ⊢
  obtain⟨a,dx,e,h0,hp,h1,h2,h3,h4⟩:=h
  exact⟨a,dx,e,(m.oth a _ h1 h0 (np hp)).2,hp,(m.oth a _ h1 h0 (np hp)).1,(m.oth dx _ h4 h2 (np h3)).2,h3,(m.oth dx _ h4 h2 (np h3)).1⟩
theorem Reps.mv(m:Mv K pp M H M' H'):∀(ds:List D) (xs:List V),Reps K pp M H ds xs->Reps K pp M' H' ds xs
 |[],_,h=>by simp only[Reps]at h ⊢;exact h
 |d::ds,_,h=>by
  simp only[Reps]at h ⊢
  obtain⟨x,r,e,h1,h2⟩:=h
  exact⟨x,r,e,Rep.mv m d x h1,Reps.mv m ds r h2⟩
end
theorem Reps.length:∀{ds:List D}{xs:List V},Reps K pp M H ds xs->ds.length=xs.length
 |[],_,h=>by simp only[Reps]at h;subst h;rfl
 |_::_,_,h=>by
  simp only[Reps]at h
  obtain⟨x,r,rfl,_,h2⟩:=h
  simp[Reps.length h2]
theorem Reps.get':∀{ds:List D}{xs:List V}{i:Nat}{d:D},Reps K pp M H ds xs->ds[i]? = some d->∃x,xs[i]? = some x/\Rep K pp M H d x
 |[],_,_,_,h,e=>by simp at e
 |d::ds,_,0,x,h,e=>by
  simp only[Reps]at h
  obtain⟨y,r,rfl,h1,h2⟩:=h
  simp at e;subst e
  exact⟨y,rfl,h1⟩
 |d::ds,_,i+1,x,h,e=>by
  simp only[Reps]at h
  obtain⟨y,r,rfl,h1,h2⟩:=h
  obtain⟨d',e1,e2⟩:=Reps.get' (i:=i) h2 (by simpa using e)
  exact⟨d',by simpa using e1,e2⟩
theorem Reps.append:∀{ds es:List D}{xs ys:List V},Reps K pp M H ds xs->Reps K pp M H es ys->Reps K pp M H (ds++es) (xs++ys)
 |[],_,_,_,h,q=>by simp only[Reps]at h;subst h;exact q
 |d::ds,_,_,_,h,q=>by
  simp only[Reps]at h
  obtain⟨y,r,rfl,h1,h2⟩:=h
  simp only[List.cons_append,Reps]
  exact⟨y,_,rfl,h1,Reps.append h2 q⟩
theorem Reps.drop:∀{ds:List D}{xs:List V} (n:Nat),Reps K pp M H ds xs->Reps K pp M H (ds.drop n) (xs.drop n)
 |_,_,0,h=>h
 |[],_,n+1,h=>by simp only[Reps]at h;subst h;simp[Reps]
 |d::ds,_,n+1,h=>by
  simp only[Reps]at h
  obtain⟨y,r,rfl,h1,h2⟩:=h
  exact Reps.drop n h2
theorem Reps.take:∀{ds:List D}{xs:List V} (n:Nat),Reps K pp M H ds xs->Reps K pp M H (ds.take n) (xs.take n)
 |_,_,0,h=>by simp[Reps]
 |[],_,n+1,h=>by simp only[Reps]at h;subst h;simp[Reps]
 |d::ds,_,n+1,h=>by
  simp only[Reps]at h
  obtain⟨y,r,rfl,h1,h2⟩:=h
  simp only[List.take_succ_cons,Reps]
  exact⟨y,_,rfl,h1,Reps.take n h2⟩
theorem Reps.set{d:D}{x:V}(hd:Rep K pp M H d x):∀{ds:List D}{xs:List V} (n:Nat),Reps K pp M H ds xs->Reps K pp M H (ds.set n d) (xs.set n x)
 |[],_,n,h=>by simp only[Reps]at h;subst h;simp[Reps]
 |e::ds,_,0,h=>by
  simp only[Reps]at h
  obtain⟨y,r,rfl,h1,h2⟩:=h
  simp only[List.set_cons_zero,Reps]
  exact⟨x,r,rfl,hd,h2⟩
 |e::ds,_,n+1,h=>by
  simp only[Reps]at h
  obtain⟨y,r,rfl,h1,h2⟩:=h
  simp only[List.set_cons_succ,Reps]
  exact⟨y,_,rfl,h1,Reps.set hd n h2⟩
theorem Reps.one{d:D}{x:V}(h:Rep K pp M H d x):Reps K pp M H [d] [x]:=by simp only[Reps];exact⟨x,[],rfl,h,rfl⟩
theorem Reps.nil:Reps K pp M H [] []:=by simp only[Reps]
theorem Reps.cons{d:D}{x:V}{ds:List D}{xs:List V}(h:Rep K pp M H d x)(q:Reps K pp M H ds xs):Reps K pp M H (d::ds) (x::xs):=by simp only[Reps];exact⟨x,xs,rfl,h,q⟩
def NW(pp:Option Addr)(b:Addr)(o:HO):Prop:=(pp=some b->∀xs,o ≠ .lst xs)/\NT o
theorem nw{pp:Option Addr}{b:Addr}{o:HO}(h:pp≠some b)(t:NT o:=by intro _ z;cases z):NW pp b o:=⟨fun z=>absurd z h,t⟩
structure SameQ(K:PySem.W.Frag)(pp:Option Addr)(H H':Hp):Prop where
 keep:∀b o,H b=some o->NW pp b o->H' b=some o
 pen:∀p,pp=some p->(∃a ns t l,Pen K H p a ns t l)->∃a ns t l,Pen K H' p a ns t l
 live:∀b,H b≠none->H' b≠none
structure SameP(K:PySem.W.Frag)(pp:Option Addr)(H H':Hp):Prop extends SameQ K pp H H' where
 tb:Tabs H->Tabs H'
theorem SameQ.refl:SameQ K pp H H:=⟨fun _ _ h _=>h,fun _ _ h=>h,fun _ h=>h⟩
theorem SameP.refl:SameP K pp H H:=⟨.refl,fun h=>h⟩
theorem SameQ.trans(x:SameQ K pp H H')(y:SameQ K pp H' H''):SameQ K pp H H'' :=
 ⟨fun b o h n=>y.keep b o (x.keep b o h n) n,fun p e h=>y.pen p e (x.pen p e h),fun b h=>y.live b (x.live b h)⟩
theorem SameP.trans(x:SameP K pp H H')(y:SameP K pp H' H''):SameP K pp H H'':=⟨x.toSameQ.trans y.toSameQ,fun h=>y.tb (x.tb h)⟩
theorem SameP.of(s:Same H H'):SameP K pp H H':=⟨⟨fun b o h _=>s b o h,fun _ _ ⟨a,ns,t,l,h⟩=>⟨a,ns,t,l,h.same s⟩,fun b h e=>by
 cases q:H b with
 |none=>exact h q
 |some o=>rw[s b o q]at e;cases e⟩,fun h=>h.of fun b o e _=>s b o e⟩
theorem SameP.new{l:Addr}{o:HO}(h:H l=none):SameP K pp H (upd H l o):=.of (oG h)
theorem SameP.mv(s:SameP K pp H H'):Mv K pp M H M H' :=
 ⟨fun a xs h=>s.keep a _ h ⟨fun _ _ z=>(by cases z),fun _ z=>(by cases z)⟩,fun a xs h n q=>⟨s.keep a _ h ⟨fun z=>absurd z q.1,q.2⟩,n⟩,s.pen,s.tb⟩
theorem Mv.new{l:Addr}{o:HO}(h:H l=none):Mv K pp M H M (upd H l o):=(SameP.new h).mv
theorem Mv.newOwn{l:Addr}{o:HO}(h:H l=none):Mv K pp M H (l::M) (upd H l o) :=
 ⟨fun a xs e=>ji h e,fun a xs e n q=>⟨ji h e,by
  intro z
  rcases zzi.mp z with rfl|z
  ·rw[h]at e;cases e
  ·exact n z⟩,(SameP.new h).pen,fun t=>t.new h⟩
theorem Mv.less{l:List Addr}(h:∀a∈l,a∈M):Mv K pp M H l H:=⟨fun _ _ h=>h,fun a xs e n _=>⟨e,fun z=>n (h a z)⟩,fun _ _ h=>h,fun h=>h⟩
theorem Cz{p l:Addr}{xs ys:List V}(hl:H l=some (.lst xs))(hp:p≠l):(∃a ns t k,Pen K H p a ns t k)->∃a ns t k,Pen K (upd H l (.lst ys)) p a ns t k:=by
 rintro⟨a,ns,t,k,h⟩
 refine⟨a,ns,t,k,?_,?_,h.t0⟩
 ·rw[aq hp];exact h.lst
 ·rcases h.scr with ⟨o,e⟩|e
  ·refine .inl ⟨o,?_⟩
   rw[aq (mW e hl (by intro z;cases z))];exact e
  ·exact .inr e
theorem Mv.write{l:Addr}{xs ys:List V}(hl:H l=some (.lst xs))(hm:l∈M)(hp:pp≠some l):Mv K pp M H M (upd H l (.lst ys)) :=
 ⟨fun a zs e=>by rw[aq (mW e hl (by intro z;cases z))];exact e,
  fun a zs e n q=>⟨by rw[aq (by rintro rfl;exact n hm)];exact e,n⟩,
  fun p e h=>Cz hl (by rintro rfl;exact hp e) h,fun t=>t.upd hl oI⟩
end
section
variable(K:PySem.W.Frag)(pp:Option Addr)(M:List Addr)(H:Hp)
mutual
def RO:O->V->List Addr->Prop
 |.val d,v,A=>A=[]/\Rep K pp M H d v
 |.lst os,v,A=>∃a xs B,v=.ref a/\H a=some (.lst xs)/\A=a::B/\ROs os xs B
 |.dct ks os,v,A=>∃a kvs B,v=.ref a/\H a=some (.dT kvs)/\kvs.map (·.1)=ks/\A=a::B/\ROs os (kvs.map (·.2)) B
 |.tup os,v,A=>∃a xs,v=.ref a/\H a=some (.tup xs)/\ROs os xs A
 |.dck ks os,v,A=>∃a kvs B,v=.ref a/\H a=some (.dK kvs)/\kvs.map (·.1)=ks/\A=a::B/\ROs os (kvs.map (·.2)) B
def ROs:List O->List V->List Addr->Prop
 |[],xs,A=>xs=[]/\A=[]
 |o::os,xs,A=>∃x r B C,xs=x::r/\A=B++C/\RO o x B/\ROs os r C
end
end
section
variable{K:PySem.W.Frag}{pp:Option Addr}{M M':List Addr}{H H':Hp}[TB]
mutual
theorem RO.mv(m:Mv K pp M H M' H'):∀(q:O) (v:V) (A:List Addr),(∀a∈A,∀o,H a=some o->NT o->H' a=some o)->RO K pp M H q v A->RO K pp M' H' q v A
 |.val d,v,A,_,h=>by
  simp only[RO]at h ⊢
  exact⟨h.1,Rep.mv m d v h.2⟩
 |.lst os,v,A,k,h=>by
  simp only[RO]at h ⊢
  obtain⟨a,xs,B,e,ha,rfl,r⟩:=h
  exact⟨a,xs,B,e,k a zzd _ ha (by intro _ z;cases z),rfl,ROs.mv m os xs B (fun b hb=>k b (zzc _ hb)) r⟩
 |.dct ks os,v,A,k,h=>by
  simp only[RO]at h ⊢
  obtain⟨a,kvs,B,e,ha,e2,rfl,r⟩:=h
  exact⟨a,kvs,B,e,k a zzd _ ha (by intro _ z;cases z),e2,rfl,ROs.mv m os _ B (fun b hb=>k b (zzc _ hb)) r⟩
 |.tup os,v,A,k,h=>by
  simp only[RO]at h ⊢
  obtain⟨a,xs,e,ha,r⟩:=h
  exact⟨a,xs,e,m.tup a xs ha,ROs.mv m os xs A k r⟩
 |.dck ks os,v,A,k,h=>by
  simp only[RO]at h ⊢
  obtain⟨a,kvs,B,e,ha,e2,rfl,r⟩:=h
  exact⟨a,kvs,B,e,k a zzd _ ha (by intro _ z;cases z),e2,rfl,ROs.mv m os _ B (fun b hb=>k b (zzc _ hb)) r⟩
theorem ROs.mv(m:Mv K pp M H M' H'):∀(os:List O) (xs:List V) (A:List Addr),(∀a∈A,∀o,H a=some o->NT o->H' a=some o)->ROs K pp M H os xs A->ROs K pp M' H' os xs A
 |[],xs,A,_,h=>by simp only[ROs]at h ⊢;exact h
 |o::os,xs,A,k,h=>by
  simp only[ROs]at h ⊢
  obtain⟨x,r,B,C,e,rfl,h1,h2⟩:=h
  exact⟨x,r,B,C,e,rfl,RO.mv m o x B (fun b hb=>k b (zzx.mpr (.inl hb))) h1,ROs.mv m os r C (fun b hb=>k b (zzx.mpr (.inr hb))) h2⟩
end
mutual
def fzO:O->D
 |.val d=>d
 |.lst os=>.lst (fzOs os)
 |.dct ks os=>.dT ks (fzOs os)
 |.tup os=>.tup (fzOs os)
 |.dck ks os=>.dK ks (fzOs os)
def fzOs:List O->List D
 |[]=>[]
 |o::os=>fzO o::fzOs os
end
mutual
theorem RO.fz(m:Mv K pp M H M' H):∀(q:O) (v:V) (A:List Addr),(∀a∈A,a∉M'/\pp≠some a)->RO K pp M H q v A->Rep K pp M' H (fzO q) v
 |.val d,v,A,_,h=>by
  simp only[RO]at h
  simp only[fzO]
  exact Rep.mv m d v h.2
 |.lst os,v,A,k,h=>by
  simp only[RO]at h
  simp only[fzO,Rep]
  obtain⟨a,xs,B,e,ha,rfl,r⟩:=h
  exact⟨a,xs,e,(k a zzd).1,(k a zzd).2,ha,ROs.fz m os xs B (fun b hb=>k b (zzc _ hb)) r⟩
 |.dct ks os,v,A,k,h=>by
  simp only[RO]at h
  simp only[fzO,Rep]
  obtain⟨a,kvs,B,e,ha,e2,rfl,r⟩:=h
  exact⟨a,kvs,e,(k a zzd).1,(k a zzd).2,ha,e2,ROs.fz m os _ B (fun b hb=>k b (zzc _ hb)) r⟩
 |.tup os,v,A,k,h=>by
  simp only[RO]at h
  simp only[fzO,Rep]
  obtain⟨a,xs,e,ha,r⟩:=h
  exact⟨a,xs,e,ha,ROs.fz m os xs A k r⟩
 |.dck ks os,v,A,k,h=>by
  simp only[RO]at h
  simp only[fzO,Rep]
  obtain⟨a,kvs,B,e,ha,e2,rfl,r⟩:=h
  exact⟨a,kvs,e,(k a zzd).1,(k a zzd).2,ha,e2,ROs.fz m os _ B (fun b hb=>k b (zzc _ hb)) r⟩
theorem ROs.fz(m:Mv K pp M H M' H):∀(os:List O) (xs:List V) (A:List Addr),(∀a∈A,a∉M'/\pp≠some a)->ROs K pp M H os xs A->Reps K pp M' H (fzOs os) xs
 |[],xs,A,_,h=>by simp only[ROs]at h;simp only[fzOs,Reps];exact h.1
 |o::os,xs,A,k,h=>by
  simp only[ROs]at h
  simp only[fzOs,Reps]
  obtain⟨x,r,B,C,e,rfl,h1,h2⟩:=h
  exact⟨x,r,e,RO.fz m o x B (fun b hb=>k b (zzx.mpr (.inl hb))) h1,ROs.fz m os r C (fun b hb=>k b (zzx.mpr (.inr hb))) h2⟩
end
theorem oJ:∀os:List O,fzOs os=os.map fzO
 |[]=>rfl
 |o::os=>by simp only[fzOs,zze,oJ os]
end
structure Fx where
 pp:Option Addr
 M0:List Addr
 H0:Hp
abbrev DS:=List Sl
variable[TB]
class Frm where
 L:PySem.W.Frag->Fx->List Addr->Hp->Prop
 W:DS->Addr->Prop
 cl:∀K (F:Fx) M H M' H',L K F M H->Mv K F.pp M H M' H'->L K F M' H'
instance(priority:=low) Frm.free:Frm:=⟨fun _ _ _ _=>True,fun _ _=>False,fun _ _ _ _ _ _ h _=>h⟩
variable[Frm]
structure Lv0(pp:Option Addr)(M:List Addr)(H:Hp):Prop where
 m:∀a∈M,H a≠none
 p:∀p,pp=some p->H p≠none
structure Lv(pp:Option Addr)(M:List Addr)(H:Hp):Prop extends Lv0 pp M H where
 t:Tabs H
theorem Lv0.sameQ{K:PySem.W.Frag}{pp:Option Addr}{M:List Addr}{H H':Hp}(l:Lv0 pp M H)(s:SameQ K pp H H'):Lv0 pp M H' :=
 ⟨fun a ha=>s.live a (l.m a ha),fun p e=>s.live p (l.p p e)⟩
theorem Lv0.fresh{pp:Option Addr}{M:List Addr}{H:Hp}{a:Addr}(l:Lv0 pp M H)(h:H a=none):a∉M/\pp≠some a:=⟨fun z=>l.m a z h,fun z=>l.p a z h⟩
structure Lk(K:PySem.W.Frag)(F:Fx)(M:List Addr)(H:Hp):Prop where
 l:Frm.L K F M H
 t:Tabs H
theorem Lk.cl{K:PySem.W.Frag}{F:Fx}{M M':List Addr}{H H':Hp}(h:Lk K F M H)(m:Mv K F.pp M H M' H'):Lk K F M' H':=⟨Frm.cl _ _ _ _ _ _ h.l m,m.tb h.t⟩
section
variable(K:PySem.W.Frag)(F:Fx)(M:List Addr)(H:Hp)
def RSl:Sl->Option V->Prop
 |.nil,_=>True
 |.val d,o=>∃v,o=some v/\Rep K F.pp M H d v
 |.own ds,o=>∃l xs,o=some (.ref l)/\l∈M/\F.H0 l=none/\F.pp≠some l/\H l=some (.lst xs)/\Reps K F.pp M H ds xs
 |.obj _,o=>∃v,o=some v
 |.pin w d,o=>∃v,o=some v/\v=w/\Rep K F.pp M H d v
def Ow:Sl->Option V->List Addr->Prop
 |.own _,o,A=>∃l,o=some (.ref l)/\A=[l]
 |.obj q,o,A=>A.Nodup/\∃v,o=some v/\RO K F.pp M H q v A
 |_,_,_=>True
def OwF(σ:St)(ρ:DS):Prop:=∃As:Nat->List Addr,(∀(i:Nat) s o,ρ[i]? = some s->σ[i]? = some o->Ow K F M H s o (As i))/\(∀i,∀a∈As i,a∈M/\F.H0 a=none/\F.pp≠some a)/\∀i j,i≠j->∀a∈As i,a∉As j
structure RSt(σ:St)(ρ:DS):Prop where
 len:σ.length=ρ.length
 sl:∀(i:Nat) s o,ρ[i]? = some s->σ[i]? = some o->RSl K F M H s o
 ow:OwF K F M H σ ρ
 sub:∀a∈F.M0,a∈M
 same:SameQ K F.pp F.H0 H
 old:∀a∈F.M0,F.H0 a≠none
 liv0:Lv0 F.pp M H
 lk:Lk K F M H
end
section
variable{K:PySem.W.Frag}{F:Fx}{M M':List Addr}{H H':Hp}{σ:St}{ρ:DS}
theorem RSt.liv(r:RSt K F M H σ ρ):Lv F.pp M H:=⟨r.liv0,r.lk.t⟩
theorem RSt.sameT(r:RSt K F M H σ ρ):SameP K F.pp F.H0 H:=⟨r.same,fun _=>r.lk.t⟩
omit [Frm] in
theorem Ow.mv{s:Sl}{o:Option V}{A:List Addr}(m:Mv K F.pp M H M' H')(k:∀a∈A,∀x,H a=some x->NT x->H' a=some x)(h:Ow K F M H s o A):Ow K F M' H' s o A:=by
 cases s with
 |nil=>trivial
 |val d=>trivial
 |pin w d=>trivial
 |own ds=>exact h
 |obj q =>
  obtain⟨nd,v,e,h⟩:=h
  exact⟨nd,v,e,RO.mv m q v A k h⟩
omit [Frm] in
theorem OwF.keep(h:OwF K F M H σ ρ)(m:Mv K F.pp M H M' H')(k:∀a,a∈M->F.pp≠some a->F.H0 a=none->a∈M'/\∀x,H a=some x->NT x->H' a=some x):OwF K F M' H' σ ρ:=by
 obtain⟨As,h1,h2,h3⟩:=h
 refine⟨As,fun i s o e1 e2=>(h1 i s o e1 e2).mv m fun a ha=>(k a (h2 i a ha).1 (h2 i a ha).2.2 (h2 i a ha).2.1).2,fun i a ha=>⟨(k a (h2 i a ha).1 (h2 i a ha).2.2 (h2 i a ha).2.1).1,(h2 i a ha).2⟩,h3⟩
omit [Frm] in
theorem OwF.step{σ':St}{ρ':DS}(h:OwF K F M H σ ρ)(m:Mv K F.pp M H M' H')(i:Nat)(hσ:∀j,j≠i->σ'[j]? = σ[j]?)(hρ:∀j,j≠i->ρ'[j]? = ρ[j]?)
  (k:∀A,(∀s o,ρ[i]? = some s->σ[i]? = some o->Ow K F M H s o A)->(∀a∈A,a∈M/\F.H0 a=none/\F.pp≠some a)->∃B,(∀s o,ρ'[i]? = some s->σ'[i]? = some o->Ow K F M' H' s o B) /\
   (∀b∈B,b∈M'/\F.H0 b=none/\F.pp≠some b/\(b∈A∨b∉M))/\∀a,a∈M->F.pp≠some a->F.H0 a=none->a∉A->a∈M'/\∀x,H a=some x->NT x->H' a=some x):OwF K F M' H' σ' ρ':=by
 obtain⟨As,h1,h2,h3⟩:=h
 obtain⟨B,k1,k2,k3⟩:=k (As i) (h1 i) (h2 i)
 have old:∀j,j≠i->∀a∈As j,a∈M'/\∀x,H a=some x->NT x->H' a=some x:=fun j e a ha=>k3 a (h2 j a ha).1 (h2 j a ha).2.2 (h2 j a ha).2.1 (h3 j i e a ha)
 refine⟨fun j=>if j=i then B else As j,fun j s o e1 e2=>?_,fun j a ha=>?_,fun j l e a ha hb=>?_⟩
 ·show Ow K F M' H' s o (if j=i then B else As j)
  by_cases e:j=i
  ·subst e
   rw[if_pos rfl]
   exact k1 s o e1 e2
  ·rw[if_neg e]
   rw[hρ j e]at e1
   rw[hσ j e]at e2
   exact(h1 j s o e1 e2).mv m fun a ha=>(old j e a ha).2
 ·replace ha:a∈(if j=i then B else As j):=ha
  by_cases e:j=i
  ·subst e
   rw[if_pos rfl]at ha
   exact⟨(k2 a ha).1,(k2 a ha).2.1,(k2 a ha).2.2.1⟩
  ·rw[if_neg e]at ha
   exact⟨(old j e a ha).1,(h2 j a ha).2⟩
 ·replace ha:a∈(if j=i then B else As j):=ha
  replace hb:a∈(if l=i then B else As l):=hb
  by_cases e1:j=i
  ·subst e1
   rw[if_pos rfl]at ha
   rw[if_neg (Ne.symm e)]at hb
   rcases (k2 a ha).2.2.2 with z|z
   ·exact h3 j l e a z hb
   ·exact z (h2 l a hb).1
  ·rw[if_neg e1]at ha
   by_cases e2:l=i
   ·subst e2
    rw[if_pos rfl]at hb
    rcases (k2 a hb).2.2.2 with z|z
    ·exact h3 j l e a ha z
    ·exact z (h2 j a ha).1
   ·rw[if_neg e2]at hb
    exact h3 j l e a ha hb
omit [Frm] in
theorem OwF.none(h:∀(i:Nat) s,ρ[i]? = some s->(∀ds,s ≠ .own ds)/\∀q,s ≠ .obj q):OwF K F M H σ ρ:=by
 refine⟨fun _=>[],fun i s o e1 _=>?_,fun _ _ h=>(by simp at h),fun _ _ _ _ h=>(by simp at h)⟩
 cases s with
 |nil=>trivial
 |val d=>trivial
 |pin w d=>trivial
 |own ds=>exact absurd rfl ((h i _ e1).1 ds)
 |obj q=>exact absurd rfl ((h i _ e1).2 q)
theorem RSt.own(r:RSt K F M H σ ρ)(i j:Nat)(ds es:List D)(a:Addr)(h1:ρ[i]? = some (.own ds))(h2:ρ[j]? = some (.own es))(h3:σ[i]? = some (some (.ref a)))(h4:σ[j]? = some (some (.ref a))):i=j:=by
 obtain⟨As,k1,k2,k3⟩:=r.ow
 obtain⟨l,e,e2⟩:=k1 i _ _ h1 h3
 cases e
 obtain⟨l,e,e3⟩:=k1 j _ _ h2 h4
 cases e
 by_cases z:i=j
 ·exact z
 ·exact absurd (by rw[e3];simp) (k3 i j z a (by rw[e2];simp))
omit [Frm] in
theorem SameP.ow(s:SameP K F.pp H H')(a:Addr)(_:a∈M)(p:F.pp≠some a)(_:F.H0 a=none):a∈M/\∀x,H a=some x->NT x->H' a=some x:=⟨‹_›,fun x e n=>s.keep a x e (nw p n)⟩
theorem RSt.sameP(r:RSt K F M H σ ρ)(s:SameP K F.pp H H'):RSt K F M H' σ ρ:=by
 refine⟨r.len,fun i q o h1 h2=>?_,r.ow.keep s.mv fun a h1 h2 h3=>s.ow a h1 h2 h3,r.sub,r.same.trans s.toSameQ,r.old,r.liv0.sameQ s.toSameQ,r.lk.cl s.mv⟩
 have:=r.sl i q o h1 h2
 cases q with
 |nil=>trivial
 |val d=>obtain⟨v,e,h⟩:=this;exact⟨v,e,h.mv s.mv⟩
 |pin w d=>obtain⟨v,e,ew,h⟩:=this;exact⟨v,e,ew,h.mv s.mv⟩
 |own ds =>
  obtain⟨l,xs,e,hm,h0,hp,hl,hr⟩:=this
  exact⟨l,xs,e,hm,h0,hp,s.keep l _ hl (nw hp),hr.mv s.mv⟩
 |obj q=>exact this
theorem RSt.at(r:RSt K F M H σ ρ){i:Nat}{s:Sl}(h:ρ[i]? = some s):∃o,σ[i]? = some o/\RSl K F M H s o:=by
 have hi:i<σ.length:=by rw[r.len];exact(zzt.mp h).1
 exact⟨σ[i],by simp[hi],r.sl i s _ h (by simp[hi])⟩
omit [Frm] in
theorem OwF.drop{σ':St}{ρ':DS}(h:OwF K F M H σ ρ)(i:Nat)(hσ:∀j,j≠i->σ'[j]? = σ[j]?)(hρ:∀j,j≠i->ρ'[j]? = ρ[j]?)(hn:∀s,ρ'[i]? = some s->(∀ds,s ≠ .own ds)/\∀q,s ≠ .obj q):OwF K F M H σ' ρ' :=
 h.step .refl i hσ hρ fun A _ _=>⟨[],fun s o e _=>(by
  cases s with
  |nil=>trivial
  |val d=>trivial
  |pin w d=>trivial
  |own ds=>exact absurd rfl ((hn _ e).1 ds)
  |obj q=>exact absurd rfl ((hn _ e).2 q)),fun _ h=>(by simp at h),fun a ha _ _ _=>⟨ha,fun _ e _=>e⟩⟩
omit [Frm] in
theorem aZ{α:Type}{l:List α}{i:Nat}{x y:α}(h:(l.set i x)[i]? = some y):y=x:=by
 have hi:i<l.length:=by have:=(zzt.mp h).1;simpa using this
 simp[hi]at h
 exact h.symm
theorem RSt.set(r:RSt K F M H σ ρ){d:D}{v:V}(h:Rep K F.pp M H d v)(i:Nat):RSt K F M H (σ.set i (some v)) (ρ.set i (.val d)):=by
 refine⟨by simp[r.len],fun j s o h1 h2=>?_,r.ow.drop i (fun j e=>zzC (Ne.symm e)) (fun j e=>zzC (Ne.symm e)) (fun s e=>?_),r.sub,r.same,r.old,r.liv0,r.lk⟩
 ·by_cases e:i=j
  ·subst e
   rw[aZ h1,aZ h2]
   exact⟨v,rfl,h⟩
  ·rw[zzC e]at h1 h2
   exact r.sl j s o h1 h2
 ·rw[aZ e]
  exact⟨fun ds z=>(by cases z),fun q z=>(by cases z)⟩
end
abbrev DE:=DS->(D->DS->Prop)->Prop
abbrev DT:=DS->(Bool->DS->Prop)->Prop
abbrev DA:=DS->(List D->DS->Prop)->Prop
structure DEnds where
 nx:DS->Prop
 rt:D->Prop
 bk:DS->Prop:=fun _=>False
 ct:DS->Prop:=fun _=>False
abbrev DTS:=DEnds->DS->Prop
def slot:DS->Nat->Sl
 |[],_=>.nil
 |s::_,0=>s
 |_::r,n+1=>slot r n
theorem aR:∀{ρ:DS}{i:Nat}{s:Sl},slot ρ i=s->s ≠ .nil->ρ[i]? = some s
 |[],_,_,h,n=>absurd h.symm n
 |_::_,0,_,h,_=>by subst h;rfl
 |_::r,i+1,s,h,n=>by simpa using aR (ρ:=r) (i:=i) h n
section
variable{X:Cx}{F:Fx}
structure PED(X:Cx)(e:Expr)(t:DE):Prop where
 mono:∀ρ P P',(∀d ρ',P d ρ'->P' d ρ')->t ρ P->t ρ P'
 run:∃T:TE,PE X e T/\∀{F:Fx} M H σ ρ (Q:VK),RSt X.K F M H σ ρ ->
  (t ρ fun d ρ'=>∀M' H' v,Mv X.K F.pp M H M' H'->RSt X.K F M' H' σ ρ'->Rep X.K F.pp M' H' d v->Q v H')->T σ H Q
structure PTD(X:Cx)(e:Expr)(t:DT):Prop where
 mono:∀ρ P P',(∀b ρ',P b ρ'->P' b ρ')->t ρ P->t ρ P'
 run:∃T:TT,PT X e T/\∀{F:Fx} M H σ ρ (Q:Bool->Hp->Prop),RSt X.K F M H σ ρ ->
  (t ρ fun b ρ'=>∀M' H',Mv X.K F.pp M H M' H'->RSt X.K F M' H' σ ρ'->Q b H')->T σ H Q
structure PWD(X:Cx)(e:Expr)(t:DT):Prop where
 mono:∀ρ P P',(∀b ρ',P b ρ'->P' b ρ')->t ρ P->t ρ P'
 run:∃T:TT,PW X e T/\∀{F:Fx} M H σ ρ (Q:Bool->Hp->Prop),RSt X.K F M H σ ρ ->
  (t ρ fun b ρ'=>∀M' H',Mv X.K F.pp M H M' H'->RSt X.K F M' H' σ ρ'->Q b H')->T σ H Q
structure PAD(X:Cx)(es:List Expr)(t:DA):Prop where
 mono:∀ρ P P',(∀d ρ',P d ρ'->P' d ρ')->t ρ P->t ρ P'
 run:∃T:TA,PA X es T/\∀{F:Fx} M H σ ρ (Q:List V->Hp->Prop),RSt X.K F M H σ ρ ->
  (t ρ fun ds ρ'=>∀M' H' vs,Mv X.K F.pp M H M' H'->RSt X.K F M' H' σ ρ'->Reps X.K F.pp M' H' ds vs->Q vs H')->T σ H Q
abbrev dC(d:D):DE:=fun ρ Q=>Q d ρ
theorem PED.con{e:Expr}{d:D}{v:V}(h:PE X e (tC v))(r:∀pp M H,Rep X.K pp M H d v):PED X e (dC d) :=
 ⟨fun _ _ _ f h=>f _ _ h,_,h,fun {F} M H _ _ _ rs q=>q M H v .refl rs (r _ M H)⟩
theorem ae{i j pos}:PED X (.Constant (.int i) j pos) (dC (.int i)):=.con bO fun _ _ _=>by simp only[Rep]
theorem zP{i j pos}:PED X (.Constant (.bool i) j pos) (dC (.bl i)):=.con Gy fun _ _ _=>by simp only[Rep]
theorem nD{j pos}:PED X (.Constant .none j pos) (dC .non):=.con Eh fun _ _ _=>by simp only[Rep]
theorem lB{i j pos}:PED X (.Constant (.str i) j pos) (dC (.str i)):=.con Ei fun _ _ _=>by simp only[Rep]
theorem CA{x:Str}{n:String}{pos:Pos}(hg:Gl X x)(hm:X.mg x=none)(hv:bootBuiltins x=some (.type n))(hn:x ≠ "__name__":=by decide)(hd:(x == ("__debug__" : Str))=false:=by decide):PED X (.Name x pos) (dC (.ty n)) :=
 .con (BZ (v:=.ty n) hg hm hv rfl hn hd) fun _ _ _=>by simp only[Rep]
def Fd(i:Nat)(ρ:DS)(Q:D->DS->Prop):Sl->Prop
 |.val d=>Q d ρ
 |.own ds=>Q (.lst ds) (ρ.set i (.val (.lst ds)))
 |.obj q=>Q (fzO q) (ρ.set i (.val (fzO q)))
 |.pin _ d=>Q d ρ
 |.nil=>False
abbrev dVar(i:Nat):DE:=fun ρ Q=>Fd i ρ Q (slot ρ i)
theorem RSt.freeze{K:PySem.W.Frag}{M:List Addr}{H:Hp}{σ:St}{ρ:DS}{i:Nat}{ds:List D}(r:RSt K F M H σ ρ)(h:ρ[i]? = some (.own ds)) :
  ∃M' v,σ[i]? = some (some v)/\Mv K F.pp M H M' H/\RSt K F M' H σ (ρ.set i (.val (.lst ds)))/\Rep K F.pp M' H (.lst ds) v:=by
 obtain⟨o,ho,l,xs,rfl,hm,h0,hp,hl,hr⟩:=r.at h
 have m:Mv K F.pp M H (M.filter fun a=>decide (a≠l)) H:=.less fun a ha=>(zzv.mp ha).1
 have rl:Rep K F.pp (M.filter fun a=>decide (a≠l)) H (.lst ds) (.ref l):=by
  simp only[Rep]
  exact⟨l,xs,rfl,by simp,hp,hl,hr.mv m⟩
 refine⟨_,_,ho,m,⟨by simp[r.len],fun j s o h1 h2=>?_,r.ow.step m i (fun _ _=>rfl) (fun j e=>zzC (Ne.symm e)) (fun A hA _=>⟨[],fun s o e _=>?_,fun _ h=>(by simp at h),fun a ha _ _ hn=>⟨?_,fun _ e _=>e⟩⟩),fun a ha=>?_,r.same,r.old,?_,r.lk.cl m⟩,rl⟩
 ·by_cases e:i=j
  ·subst e
   rw[ho]at h2
   rw[aZ h1]
   cases h2
   exact⟨_,rfl,rl⟩
  ·rw[zzC e]at h1
   have q:=r.sl j s o h1 h2
   cases s with
   |nil=>trivial
   |val d=>obtain⟨v,e,q⟩:=q;exact⟨v,e,q.mv m⟩
   |pin w d=>obtain⟨v,e,ew,q⟩:=q;exact⟨v,e,ew,q.mv m⟩
   |own es =>
    obtain⟨l',ys,rfl,hm',h0',hp',hl',hr'⟩:=q
    refine⟨l',ys,rfl,zzv.mpr ⟨hm',?_⟩,h0',hp',hl',hr'.mv m⟩
    by_cases z:l'=l
    ·subst z
     exact absurd (r.own i j _ _ _ h h1 ho h2) e
    ·simpa using z
   |obj q=>exact ‹_›
 ·rw[aZ e]
  trivial
 ·obtain⟨l2,e2,e3⟩:=hA _ _ h ho
  cases e2
  refine zzv.mpr ⟨ha,?_⟩
  by_cases z:a=l
  ·subst z
   exact absurd (by rw[e3];simp) hn
  ·simpa using z
 ·refine zzv.mpr ⟨r.sub a ha,?_⟩
  by_cases z:a=l
  ·subst z
   exact absurd h0 (r.old a ha)
  ·simpa using z
 ·exact⟨fun a ha=>r.liv.m a (zzv.mp ha).1,r.liv.p⟩
theorem RSt.objAt{K:PySem.W.Frag}{M:List Addr}{H:Hp}{σ:St}{ρ:DS}{i:Nat}{q:O}(r:RSt K F M H σ ρ)(h:ρ[i]? = some (.obj q)) :
  ∃v A,σ[i]? = some (some v)/\A.Nodup/\RO K F.pp M H q v A/\(∀a∈A,a∈M/\F.H0 a=none/\F.pp≠some a)/\∀(j:Nat) s o,j≠i->ρ[j]? = some s->σ[j]? = some o->∀l,(∃ds,s=.own ds)->o=some (.ref l)->l∉A:=by
 obtain⟨o,ho,_⟩:=r.at h
 obtain⟨As,k1,k2,k3⟩:=r.ow
 obtain⟨nd,v,rfl,hq⟩:=k1 i _ _ h ho
 refine⟨v,As i,ho,nd,hq,k2 i,fun j s o e h1 h2 l hs ho' hl=>?_⟩
 obtain⟨ds,rfl⟩:=hs
 subst ho'
 obtain⟨l2,e2,e3⟩:=k1 j _ _ h1 h2
 cases e2
 exact k3 j i e l (by rw[e3];simp) hl
theorem RSt.freezeO{K:PySem.W.Frag}{M:List Addr}{H:Hp}{σ:St}{ρ:DS}{i:Nat}{q:O}(r:RSt K F M H σ ρ)(h:ρ[i]? = some (.obj q)) :
  ∃M' v,σ[i]? = some (some v)/\Mv K F.pp M H M' H/\RSt K F M' H σ (ρ.set i (.val (fzO q)))/\Rep K F.pp M' H (fzO q) v:=by
 obtain⟨As,k1,k2,k3⟩:=r.ow
 obtain⟨o,ho,_⟩:=r.at h
 obtain⟨nd,v,rfl,hq⟩:=k1 i _ _ h ho
 have m:Mv K F.pp M H (M.filter fun a=>decide (a∉As i)) H:=.less fun a ha=>(zzv.mp ha).1
 have rl:Rep K F.pp (M.filter fun a=>decide (a∉As i)) H (fzO q) v:=RO.fz m q v (As i) (fun a ha=>⟨fun z=>absurd ha (by simpa using(zzv.mp z).2),(k2 i a ha).2.2⟩) hq
 refine⟨_,_,ho,m,⟨by simp[r.len],fun j s o h1 h2=>?_,⟨fun j=>if j=i then[] else As j,fun j s o e1 e2=>?_,fun j a ha=>?_,fun j l e a ha hb=>?_⟩,fun a ha=>?_,r.same,r.old,?_,r.lk.cl m⟩,rl⟩
 ·by_cases e:i=j
  ·subst e
   rw[ho]at h2
   rw[aZ h1]
   cases h2
   exact⟨_,rfl,rl⟩
  ·rw[zzC e]at h1
   have q':=r.sl j s o h1 h2
   cases s with
   |nil=>trivial
   |val d=>obtain⟨v,e,q⟩:=q';exact⟨v,e,q.mv m⟩
   |pin w d=>obtain⟨v,e,ew,q⟩:=q';exact⟨v,e,ew,q.mv m⟩
   |own es =>
    obtain⟨l',ys,rfl,hm',h0',hp',hl',hr'⟩:=q'
    refine⟨l',ys,rfl,zzv.mpr ⟨hm',?_⟩,h0',hp',hl',hr'.mv m⟩
    obtain⟨l2,e2,e3⟩:=k1 j _ _ h1 h2
    cases e2
    simpa using k3 j i (Ne.symm e) l' (by rw[e3];simp)
   |obj q=>exact ‹_›
 ·show Ow K F _ H s o (if j=i then[] else As j)
  by_cases e:j=i
  ·subst e
   rw[aZ e1]
   trivial
  ·rw[if_neg e]
   rw[zzC (Ne.symm e)]at e1
   exact(k1 j s o e1 e2).mv m fun a _ x z _=>z
 ·replace ha:a∈(if j=i then[] else As j):=ha
  by_cases e:j=i
  ·rw[if_pos e]at ha;simp at ha
  ·rw[if_neg e]at ha
   exact⟨zzv.mpr ⟨(k2 j a ha).1,by simpa using k3 j i e a ha⟩,(k2 j a ha).2⟩
 ·replace ha:a∈(if j=i then[] else As j):=ha
  replace hb:a∈(if l=i then[] else As l):=hb
  by_cases e1:j=i
  ·rw[if_pos e1]at ha;simp at ha
  ·by_cases e2:l=i
   ·rw[if_pos e2]at hb;simp at hb
   ·rw[if_neg e1]at ha
    rw[if_neg e2]at hb
    exact k3 j l e a ha hb
 ·refine zzv.mpr ⟨r.sub a ha,?_⟩
  have:a∉As i:=fun z=>r.old a ha (k2 i a z).2.1
  simpa using this
 ·exact⟨fun a ha=>r.liv.m a (zzv.mp ha).1,r.liv.p⟩
theorem ac(i:Nat){e:Expr}(h:PE X e (tVar i)):PED X e (dVar i):=by
 refine⟨fun ρ P P' f h=>?_,_,h,fun {F} M H σ ρ Q rs h=>?_⟩
 ·unfold dVar at h ⊢
  cases e:slot ρ i with
  |nil=>rw[e]at h;exact h
  |val d=>rw[e]at h;exact f _ _ h
  |own ds=>rw[e]at h;exact f _ _ h
  |obj q=>rw[e]at h;exact f _ _ h
  |pin w d=>rw[e]at h;exact f _ _ h
 ·unfold dVar at h
  cases e:slot ρ i with
  |nil=>rw[e]at h;exact h.elim
  |val d =>
   rw[e]at h
   obtain⟨o,ho,v,rfl,r⟩:=rs.at (aR e (by intro z;cases z))
   exact⟨v,ho,h M H v .refl rs r⟩
  |pin w d =>
   rw[e]at h
   obtain⟨o,ho,v,rfl,_,r⟩:=rs.at (aR e (by intro z;cases z))
   exact⟨v,ho,h M H v .refl rs r⟩
  |own ds =>
   rw[e]at h
   obtain⟨M',v,ho,m,rs',r⟩:=rs.freeze (aR e (by intro z;cases z))
   exact⟨v,ho,h M' H v m rs' r⟩
  |obj q =>
   rw[e]at h
   obtain⟨M',v,ho,m,rs',r⟩:=rs.freezeO (aR e (by intro z;cases z))
   exact⟨v,ho,h M' H v m rs' r⟩
structure OpD(X:Cx)(f:Value->Value->Sem Value)(g:D->D->(D->Prop)->Prop):Prop where
 mono:∀x y P P',(∀d,P d->P' d)->g x y P->g x y P'
 run:∃r:R2,OpR X f r/\∀{pp:Option Addr} M H x y v u (Q:VK),Lv pp M H->Rep X.K pp M H x v->Rep X.K pp M H y u ->
  g x y (fun d=>∀H' w,SameP X.K pp H H'->Rep X.K pp M H' d w->Q w H')->r v u H Q
abbrev dOp(g:D->D->(D->Prop)->Prop)(ta tb:DE):DE:=fun ρ Q=>ta ρ fun x ρ1=>tb ρ1 fun y ρ2=>g x y fun d=>Q d ρ2
variable{a b c:Expr}{ta tb tc:DE}{pos:Pos}{g g':D->D->(D->Prop)->Prop}
theorem iB{g:D->D->(D->Prop)->Prop}(hg:∀x y P P',(∀d,P d->P' d)->g x y P->g x y P')(ha:PED X a ta)(hb:PED X b tb):∀ρ P P',(∀d ρ',P d ρ'->P' d ρ')->dOp g ta tb ρ P->dOp g ta tb ρ P' :=
 fun ρ _ _ f h=>ha.mono _ _ _ (fun _ _ h=>hb.mono _ _ _ (fun _ _ h=>hg _ _ _ _ (fun _ h=>f _ _ h) h) h) h
theorem oK{g:D->D->(D->Prop)->Prop}{r:R2}{Ta Tb:TE}(hg:∀M H x y v u (Q:VK),Lv F.pp M H->Rep X.K F.pp M H x v->Rep X.K F.pp M H y u ->
   g x y (fun d=>∀H' w,SameP X.K F.pp H H'->Rep X.K F.pp M H' d w->Q w H')->r v u H Q)
  (hgm:∀x y P P',(∀d,P d->P' d)->g x y P->g x y P') (ha:PED X a ta) (hb:PED X b tb)
  (ra:∀M H σ ρ (Q:VK),RSt X.K F M H σ ρ->(ta ρ fun d ρ'=>∀M' H' v,Mv X.K F.pp M H M' H'->RSt X.K F M' H' σ ρ'->Rep X.K F.pp M' H' d v->Q v H')->Ta σ H Q)
  (rb:∀M H σ ρ (Q:VK),RSt X.K F M H σ ρ->(tb ρ fun d ρ'=>∀M' H' v,Mv X.K F.pp M H M' H'->RSt X.K F M' H' σ ρ'->Rep X.K F.pp M' H' d v->Q v H')->Tb σ H Q)
  {M:List Addr}{H:Hp}{σ:St}{ρ:DS}{Q:VK} (rs:RSt X.K F M H σ ρ)
  (h:dOp g ta tb ρ fun d ρ'=>∀M' H' v,Mv X.K F.pp M H M' H'->RSt X.K F M' H' σ ρ'->Rep X.K F.pp M' H' d v->Q v H'):tOp r Ta Tb σ H Q:=by
 refine ra M H σ ρ _ rs (ha.mono _ _ _ (fun x ρ1 h M1 H1 v m1 rs1 r1=>?_) h)
 refine rb M1 H1 σ ρ1 _ rs1 (hb.mono _ _ _ (fun y ρ2 h M2 H2 u m2 rs2 r2=>?_) h)
 refine hg M2 H2 x y v u _ rs2.liv (r1.mv m2) r2 (hgm _ _ _ _ (fun d h H' w s r=>?_) h)
 exact h M2 H' w ((m1.trans m2).trans s.mv) (rs2.sameP s) r
theorem bu{op:Operator}(ho:OpD X (binaryOp op) g)(ha:PED X a ta)(hb:PED X b tb):PED X (.BinOp a op b pos) (dOp g ta tb):=by
 obtain⟨r,hr,hg⟩:=ho.run
 obtain⟨Ta,pa,ra⟩:=ha.run
 obtain⟨Tb,pb,rb⟩:=hb.run
 exact⟨iB ho.mono ha hb,_,cW hr pa pb,fun {F} M H σ ρ Q rs h=>oK hg ho.mono ha hb ra rb rs h⟩
theorem iC{op:CmpOp}(ho:OpD X (compareOp op) g)(ha:PED X a ta)(hb:PED X b tb)(hm:behindInMarks op b=false):PED X (.Compare a [op] [b] pos) (dOp g ta tb):=by
 obtain⟨r,hr,hg⟩:=ho.run
 obtain⟨Ta,pa,ra⟩:=ha.run
 obtain⟨Tb,pb,rb⟩:=hb.run
 exact⟨iB ho.mono ha hb,_,Cf hr pa pb hm,fun {F} M H σ ρ Q rs h=>oK hg ho.mono ha hb ra rb rs h⟩
def blD:D->(Bool->Prop)->Prop
 |.bl b,P=>P b
 |_,_=>False
theorem kK{d:D}{P P':Bool->Prop}(f:∀b,P b->P' b)(h:blD d P):blD d P':=by cases d<;>first|exact h|exact f _ h
abbrev dB(t:DE):DT:=fun ρ Q=>t ρ fun d ρ'=>blD d fun b=>Q b ρ'
theorem lC{K:PySem.W.Frag}{pp:Option Addr}{M:List Addr}{H:Hp}{d:D}{v:V}{P:Bool->Prop}(r:Rep K pp M H d v)(h:blD d P):∃k,v=.bl k/\P k:=by
 cases d<;>first|exact h.elim | (simp only[Rep]at r;exact⟨_,r,h⟩)
theorem xF(ha:PED X a ta):∀ρ P P',(∀b ρ',P b ρ'->P' b ρ')->dB ta ρ P->dB ta ρ P':=fun _ _ _ f h=>ha.mono _ _ _ (fun _ _ h=>kK (fun _ h=>f _ _ h) h) h
theorem aN{op:CmpOp}(ho:OpD X (compareOp op) g)(ha:PED X a ta)(hb:PED X b tb)(hm:behindInMarks op b=false):PTD X (.Compare a [op] [b] pos) (dB (dOp g ta tb)):=by
 obtain⟨r,hr,hg⟩:=ho.run
 obtain⟨Ta,pa,ra⟩:=ha.run
 obtain⟨Tb,pb,rb⟩:=hb.run
 refine⟨xF (X:=X) (a:=.Compare a [op] [b] pos) (iC ho ha hb hm),_,lh hr pa pb hm,fun {F} M H σ ρ Q rs h=>?_⟩
 refine oK hg ho.mono ha hb ra rb rs (iB ho.mono ha hb _ _ _ (fun d ρ' h M' H' v m rs' r=>?_) h)
 obtain⟨k,e,h⟩:=lC r h
 exact⟨k,e,h M' H' m rs'⟩
theorem lD{e:Expr}{t:DE}(h:PED X e t)(he:∀whole,isTrue e X.env whole=(do let v ←whole;standAt e.pos;holding [v] (truthy v)):=by intro _;rfl):PTD X e (dB t):=by
 obtain⟨T,p,r⟩:=h.run
 refine⟨xF h,_,Ej p he,fun {F} M H σ ρ Q rs q=>?_⟩
 refine r M H σ ρ _ rs (h.mono _ _ _ (fun d ρ' h M' H' v m rs' r=>?_) q)
 obtain⟨k,e,h⟩:=lC r h
 exact⟨k,e,h M' H' m rs'⟩
structure Br(b:Bool)(A B:Prop):Prop where
 yes:b=true->A
 no:b=false->B
theorem Br.t{A B:Prop}(h:A):Br true A B:=⟨fun _=>h,fun e=>nomatch e⟩
theorem Br.f{A B:Prop}(h:B):Br false A B:=⟨(fun e=>nomatch e),fun _=>h⟩
abbrev dNot(t:DT):DT:=fun ρ Q=>t ρ fun b ρ'=>Q (!b) ρ'
abbrev dOr(t u:DT):DT:=fun ρ Q=>t ρ fun b ρ'=>Br b (Q true ρ') (u ρ' Q)
variable{tA tB:DT}{rest:List Expr}
theorem nE(h:PTD X a tA):PTD X (.UnaryOp .Not a pos) (dNot tA):=by
 obtain⟨T,p,r⟩:=h.run
 exact⟨fun _ _ _ f q=>h.mono _ _ _ (fun _ _ q=>f _ _ q) q,_,El p,fun {F} M H σ ρ Q rs q=>r M H σ ρ _ rs q⟩
theorem PWD.pt{e:Expr}{t:DT}(h:PWD X e t):PTD X e t:=by
 obtain⟨T,p,r⟩:=h.run
 exact⟨h.mono,T,p.pt,r⟩
theorem lE(h:PTD X a tA):PWD X (.BoolOp .Or [a] pos) tA:=by
 obtain⟨T,p,r⟩:=h.run
 exact⟨h.mono,T,Bf p,r⟩
theorem sE(ha:PTD X a tA)(hb:PWD X (.BoolOp .Or (b::rest) pos) tB):PWD X (.BoolOp .Or (a::b::rest) pos) (dOr tA tB):=by
 obtain⟨T,p,r⟩:=ha.run
 obtain⟨U,q,s⟩:=hb.run
 refine⟨fun _ _ _ f h=>ha.mono _ _ _ (fun _ _ h=>⟨fun e=>f _ _ (h.yes e),fun e=>hb.mono _ _ _ f (h.no e)⟩) h,_,Ek p q,fun {F} M H σ ρ Q rs h=>?_⟩
 refine r M H σ ρ _ rs (ha.mono _ _ _ (fun c ρ1 h M1 H1 m1 rs1=>?_) h)
 cases c with
 |true=>exact iteT (h.yes rfl M1 H1 m1 rs1)
 |false=>exact iteF (s M1 H1 σ ρ1 _ rs1 (hb.mono _ _ _ (fun c ρ2 h M2 H2 m2 rs2=>h M2 H2 (m1.trans m2) rs2) (h.no rfl)))
abbrev GX(t:DE):DE:=fun ρ Q=>t ρ fun d ρ'=>blD d fun b=>Q (.bl (!b)) ρ'
abbrev GY(t u:DE):DE:=fun ρ Q=>t ρ fun d ρ'=>blD d fun b=>Br b (u ρ' Q) (Q (.bl false) ρ')
theorem de{K:PySem.W.Frag}{pp:Option Addr}{M:List Addr}{H:Hp}{b:Bool}:Rep K pp M H (.bl b) (.bl b):=by simp only[Rep]
theorem bE{K:PySem.W.Frag}{pp:Option Addr}{M:List Addr}{H:Hp}{b:Int}:Rep K pp M H (.int b) (.int b):=by simp only[Rep]
theorem Bl{op}{t:DE}(h:PED X a t):PED X (.BoolOp op [a] pos) t:=by
 obtain⟨T,p,r⟩:=h.run
 exact⟨h.mono,T,Em p,r⟩
theorem Fe(h:PED X a ta):PED X (.UnaryOp .Not a pos) (GX ta):=by
 obtain⟨T,p,r⟩:=h.run
 refine⟨fun _ _ _ f q=>h.mono _ _ _ (fun _ _ q=>kK (fun _ q=>f _ _ q) q) q,_,Eo p,fun {F} M H σ ρ Q rs q=>r M H σ ρ _ rs (h.mono _ _ _ (fun d ρ' q M' H' v m rs' r=>?_) q)⟩
 obtain⟨k,e,q⟩:=lC r q
 exact⟨k,e,q M' H' _ m rs' de⟩
theorem Bm(ha:PED X a ta)(hb:PED X (.BoolOp .And (b::rest) pos) tb):PED X (.BoolOp .And (a::b::rest) pos) (GY ta tb):=by
 obtain⟨T,p,r⟩:=ha.run
 obtain⟨U,q,s⟩:=hb.run
 refine⟨fun _ _ _ f h=>ha.mono _ _ _ (fun _ _ h=>kK (fun _ h=>⟨fun e=>hb.mono _ _ _ f (h.yes e),fun e=>f _ _ (h.no e)⟩) h) h,_,En p q,fun {F} M H σ ρ Q rs h=>?_⟩
 refine r M H σ ρ _ rs (ha.mono _ _ _ (fun d ρ1 h M1 H1 v m1 rs1 r1=>?_) h)
 obtain⟨c,e,h⟩:=lC r1 h
 refine⟨c,e,?_⟩
 cases c with
 |true=>exact iteT (s M1 H1 σ ρ1 _ rs1 (hb.mono _ _ _ (fun c ρ2 h M2 H2 v m2 rs2=>h M2 H2 v (m1.trans m2) rs2) (h.yes rfl)))
 |false=>exact iteF (h.no rfl M1 H1 _ m1 rs1 de)
abbrev dIf(t:DT)(ta tb:DE):DE:=fun ρ Q=>t ρ fun b ρ'=>Br b (ta ρ' Q) (tb ρ' Q)
theorem uq{c:Expr}(hc:PTD X c tA)(ha:PED X a ta)(hb:PED X b tb):PED X (.IfExp c a b pos) (dIf tA ta tb):=by
 obtain⟨T,p,r⟩:=hc.run
 obtain⟨U,q,s⟩:=ha.run
 obtain⟨U',q',s'⟩:=hb.run
 refine⟨fun _ _ _ f h=>hc.mono _ _ _ (fun _ _ h=>⟨fun e=>ha.mono _ _ _ f (h.yes e),fun e=>hb.mono _ _ _ f (h.no e)⟩) h,_,ue p q q',fun {F} M H σ ρ Q rs h=>?_⟩
 refine r M H σ ρ _ rs (hc.mono _ _ _ (fun c ρ1 h M1 H1 m1 rs1=>?_) h)
 cases c with
 |true=>exact iteT (s M1 H1 σ ρ1 _ rs1 (ha.mono _ _ _ (fun c ρ2 h M2 H2 v m2 rs2=>h M2 H2 v (m1.trans m2) rs2) (h.yes rfl)))
 |false=>exact iteF (s' M1 H1 σ ρ1 _ rs1 (hb.mono _ _ _ (fun c ρ2 h M2 H2 v m2 rs2=>h M2 H2 v (m1.trans m2) rs2) (h.no rfl)))
abbrev ur(g g':D->D->(D->Prop)->Prop)(ta tb tc:DE):DE:=fun ρ Q=>ta ρ fun x ρ1=>tb ρ1 fun y ρ2=>g x y fun d=>blD d fun k=>Br k (tc ρ2 fun z ρ3=>g' y z fun d=>Q d ρ3) (Q (.bl false) ρ2)
theorem sF(ho:∀x y P P',(∀d,P d->P' d)->g x y P->g x y P')(ho':∀x y P P',(∀d,P d->P' d)->g' x y P->g' x y P')(ha:PED X a ta)(hb:PED X b tb)(hc:PED X c tc) :
  ∀ρ P P',(∀d ρ',P d ρ'->P' d ρ')->ur g g' ta tb tc ρ P->ur g g' ta tb tc ρ P' :=
 fun _ _ _ f h=>ha.mono _ _ _ (fun _ _ h=>hb.mono _ _ _ (fun _ _ h=>ho _ _ _ _ (fun _ h=>kK (fun _ h=>⟨fun e=>hc.mono _ _ _ (fun _ _ h=>ho' _ _ _ _ (fun _ h=>f _ _ h) h) (h.yes e),fun e=>f _ _ (h.no e)⟩) h) h) h) h
theorem vX{op op':CmpOp}(ho:OpD X (compareOp op) g)(ho':OpD X (compareOp op') g')(ha:PED X a ta)(hb:PED X b tb)(hc:PED X c tc)  :
  ∃(r r':R2) (Ta Tb Tc:TE),OpR X (compareOp op) r/\OpR X (compareOp op') r'/\PE X a Ta/\PE X b Tb/\PE X c Tc/\∀{F:Fx} M H σ ρ (Q:VK),RSt X.K F M H σ ρ ->
  (ur g g' ta tb tc ρ fun d ρ'=>∀M' H' v,Mv X.K F.pp M H M' H'->RSt X.K F M' H' σ ρ'->Rep X.K F.pp M' H' d v->Q v H')->Bh r r' Ta Tb Tc σ H Q:=by
 obtain⟨r,hr,hg⟩:=ho.run
 obtain⟨r',hr',hg'⟩:=ho'.run
 obtain⟨Ta,pa,ra⟩:=ha.run
 obtain⟨Tb,pb,rb⟩:=hb.run
 obtain⟨Tc,pc,rc⟩:=hc.run
 refine⟨r,r',Ta,Tb,Tc,hr,hr',pa,pb,pc,fun {F} M H σ ρ Q rs h=>?_⟩
 refine ra M H σ ρ _ rs (ha.mono _ _ _ (fun x ρ1 h M1 H1 v m1 rs1 r1=>?_) h)
 refine rb M1 H1 σ ρ1 _ rs1 (hb.mono _ _ _ (fun y ρ2 h M2 H2 u m2 rs2 r2=>?_) h)
 refine hg M2 H2 x y v u _ rs2.liv (r1.mv m2) r2 (ho.mono _ _ _ _ (fun d h H' w s r=>?_) h)
 obtain⟨k,e,h⟩:=lC r h
 refine⟨k,e,?_⟩
 have rs3:=rs2.sameP s
 have m3:Mv X.K F.pp M H M2 H':=(m1.trans m2).trans s.mv
 cases k with
 |false=>exact iteF (h.no rfl M2 H' _ m3 rs3 de)
 |true =>
  refine iteT (rc M2 H' σ ρ2 _ rs3 (hc.mono _ _ _ (fun z ρ3 h M4 H4 w' m4 rs4 r4=>?_) (h.yes rfl)))
  refine hg' M4 H4 y z u w' _ rs4.liv ((r2.mv s.mv).mv m4) r4 (ho'.mono _ _ _ _ (fun d h H5 w s r=>?_) h)
  exact h M4 H5 w ((m3.trans m4).trans s.mv) (rs4.sameP s) r
theorem zQ{op op':CmpOp}(ho:OpD X (compareOp op) g)(ho':OpD X (compareOp op') g')(ha:PED X a ta)(hb:PED X b tb)(hc:PED X c tc)
  (hm:lastMarks [op,op'] [b,c]=false:=by with_unfolding_all rfl):PED X (.Compare a [op,op'] [b,c] pos) (ur g g' ta tb tc):=by
 obtain⟨r,r',Ta,Tb,Tc,hr,hr',pa,pb,pc,h⟩:=vX ho ho' ha hb hc
 exact⟨sF ho.mono ho'.mono ha hb hc,_,zD hr hr' pa pb pc hm,h⟩
variable{tL:DA}{es:List Expr}{e:Expr}
abbrev vY:DA:=fun ρ Q=>Q [] ρ
abbrev kh(t:DE)(u:DA):DA:=fun ρ Q=>t ρ fun x ρ1=>u ρ1 fun xs ρ2=>Q (x::xs) ρ2
theorem ad:PAD X [] vY:=⟨fun _ _ _ f h=>f _ _ h,_,cT,fun {F} M H _ _ _ rs h=>h M H [] .refl rs .nil⟩
theorem aa(ha:PED X e ta)(hr:PAD X es tL)(hs:starEach (e::es) X.env=(false,eval e X.env)::starEach es X.env:=by rfl):PAD X (e::es) (kh ta tL):=by
 obtain⟨T,p,r⟩:=ha.run
 obtain⟨U,q,s⟩:=hr.run
 refine⟨fun _ _ _ f h=>ha.mono _ _ _ (fun _ _ h=>hr.mono _ _ _ (fun _ _ h=>f _ _ h) h) h,_,bD p q hs,fun {F} M H σ ρ Q rs h=>?_⟩
 refine r M H σ ρ _ rs (ha.mono _ _ _ (fun x ρ1 h M1 H1 v m1 rs1 r1=>?_) h)
 exact s M1 H1 σ ρ1 _ rs1 (hr.mono _ _ _ (fun ds ρ2 h M2 H2 vs m2 rs2 r2=>h M2 H2 (v::vs) (m1.trans m2) rs2 (.cons (r1.mv m2) r2)) h)
abbrev dTup(t:DA):DE:=fun ρ Q=>t ρ fun xs ρ1=>xs.length <= sizeLine/\Q (.tup xs) ρ1
theorem aS{x1}(h:PAD X es tL):PED X (.Tuple es x1 pos) (dTup tL):=by
 obtain⟨T,p,r⟩:=h.run
 refine⟨fun _ _ _ f q=>h.mono _ _ _ (fun _ _ q=>⟨q.1,f _ _ q.2⟩) q,_,ED p,fun {F} M H σ ρ Q rs q=>?_⟩
 refine r M H σ ρ _ rs (h.mono _ _ _ (fun ds ρ1 q M1 H1 vs m1 rs1 r1=>?_) q)
 refine⟨by rw[←r1.length];exact q.1,fun l hl=>?_⟩
 refine q.2 M1 _ _ (m1.trans (.new hl)) (rs1.sameP (.new hl)) ?_
 simp only[Rep]
 exact⟨l,vs,rfl,ak,r1.mv (.new hl)⟩
structure PLD(X:Cx)(e:Expr)(t:DA):Prop where
 mono:∀ρ P P',(∀d ρ',P d ρ'->P' d ρ')->t ρ P->t ρ P'
 run:∃T:TE,PE X e T/\∀{F:Fx} M H σ ρ (Q:VK),RSt X.K F M H σ ρ ->
  (t ρ fun ds ρ'=>∀M' H1 H' l xs,Mv X.K F.pp M H M' H1->RSt X.K F M' H1 σ ρ'->H1 l=none->H'=upd H1 l (.lst xs)->Reps X.K F.pp M' H1 ds xs->Q (.ref l) H')->T σ H Q
abbrev dLst(t:DA):DA:=fun ρ Q=>t ρ fun xs ρ1=>xs.length <= sizeLine/\Q xs ρ1
theorem dE(h:PAD X es tL):PLD X (.List es pos) (dLst tL):=by
 obtain⟨T,p,r⟩:=h.run
 refine⟨fun _ _ _ f q=>h.mono _ _ _ (fun _ _ q=>⟨q.1,f _ _ q.2⟩) q,_,xc p,fun {F} M H σ ρ Q rs q=>?_⟩
 refine r M H σ ρ _ rs (h.mono _ _ _ (fun ds ρ1 q M1 H1 vs m1 rs1 r1=>?_) q)
 exact⟨by rw[←r1.length];exact q.1,fun l hl=>q.2 M1 H1 _ l vs m1 rs1 hl rfl r1⟩
abbrev dFrz(t:DA):DE:=fun ρ Q=>t ρ fun xs ρ1=>Q (.lst xs) ρ1
theorem aF(h:PLD X e tL):PED X e (dFrz tL):=by
 obtain⟨T,p,r⟩:=h.run
 refine⟨fun _ _ _ f q=>h.mono _ _ _ (fun _ _ q=>f _ _ q) q,T,p,fun {F} M H σ ρ Q rs q=>?_⟩
 refine r M H σ ρ _ rs (h.mono _ _ _ (fun ds ρ1 q M1 H1 H' l xs m1 rs1 hl e r1=>?_) q)
 subst e
 refine q M1 _ _ (m1.trans (.new hl)) (rs1.sameP (.new hl)) ?_
 simp only[Rep]
 exact⟨l,xs,rfl,(rs1.liv.fresh hl).1,(rs1.liv.fresh hl).2,ak,r1.mv (.new hl)⟩
end
abbrev DSp:=List D->(D->Prop)->Prop
def spD(K:PySem.W.Frag)(n:Nat)(g:DSp):Sp:=fun vs H Q _=>∃pp M ds,Lv pp M H/\Reps K pp M H ds vs/\ds.length=n/\g ds (fun d=>∀H' v,SameP K pp H H'->Rep K pp M H' d v->Q v H')
def bj(g:DSp):Prop:=∀ds P P',(∀d,P d->P' d)->g ds P->g ds P'
structure CallD(X:Cx)(f:Value)(g:DSp):Prop where
 mono:bj g
 run:∃r:List V->Hp->VK->Prop,dO X f r/\∀{pp:Option Addr} M H ds vs (Q:VK),Lv pp M H->Reps X.K pp M H ds vs->g ds (fun d=>∀H' w,SameP X.K pp H H'->Rep X.K pp M H' d w->Q w H')->r vs H Q
abbrev dCB(g:DSp)(t:DA):DE:=fun ρ Q=>t ρ fun ds ρ1=>g ds fun d=>Q d ρ1
abbrev CB(n:Nat)(g:DSp)(t:DA):DE:=fun ρ Q=>t ρ fun ds ρ1=>ds.length=n/\g ds fun d=>Q d ρ1
section
variable{X:Cx}{F:Fx}{x:Str}{p pos:Pos}{e:Expr}{es:List Expr}{t:DA}{id T:String}{g:DSp}
theorem aM(hc:CallD X (.builtin id) g)(hg:Gl X x)(hm:X.mg x=none)(hv:bootBuiltins x=some (.builtin id))(ha:PAD X (e::es) t)(hn:x ≠ "__name__":=by decide)(hdb:(x == ("__debug__" : Str))=false:=by decide)
  (he:starEach (e::es) X.env=(false,eval e X.env)::starEach es X.env:=by rfl) (hpl:(backTo pos (starEach es X.env)).any (·.1)=false:=by rfl):PED X (.Call (.Name x p) (e::es) [] pos) (dCB g t):=by
 obtain⟨r,hr,h⟩:=hc.run
 obtain⟨T,pa,ra⟩:=ha.run
 refine⟨fun _ _ _ f q=>ha.mono _ _ _ (fun _ _ q=>hc.mono _ _ _ (fun _ q=>f _ _ q) q) q,_,iq hr hg hm hv pa hn hdb he hpl,fun {F} M H σ ρ Q rs q=>?_⟩
 refine ra M H σ ρ _ rs (ha.mono _ _ _ (fun ds ρ1 q M1 H1 vs m1 rs1 r1=>?_) q)
 exact h M1 H1 ds vs _ rs1.liv r1 (hc.mono _ _ _ (fun d q H' w s r=>q M1 H' w (m1.trans s.mv) (rs1.sameP s) r) q)
theorem aO(hc:CallD X (.type T) g)(hg:Gl X x)(hm:X.mg x=none)(hv:bootBuiltins x=some (.type T))(ha:PAD X (e::es) t)(hn:x ≠ "__name__":=by decide)(hdb:(x == ("__debug__" : Str))=false:=by decide)
  (he:starEach (e::es) X.env=(false,eval e X.env)::starEach es X.env:=by rfl) (hpl:(backTo pos (starEach es X.env)).any (·.1)=false:=by rfl):PED X (.Call (.Name x p) (e::es) [] pos) (dCB g t):=by
 obtain⟨r,hr,h⟩:=hc.run
 obtain⟨T,pa,ra⟩:=ha.run
 refine⟨fun _ _ _ f q=>ha.mono _ _ _ (fun _ _ q=>hc.mono _ _ _ (fun _ q=>f _ _ q) q) q,_,ir hr hg hm hv pa hn hdb he hpl,fun {F} M H σ ρ Q rs q=>?_⟩
 refine ra M H σ ρ _ rs (ha.mono _ _ _ (fun ds ρ1 q M1 H1 vs m1 rs1 r1=>?_) q)
 exact h M1 H1 ds vs _ rs1.liv r1 (hc.mono _ _ _ (fun d q H' w s r=>q M1 H' w (m1.trans s.mv) (rs1.sameP s) r) q)
theorem ag{k n:Nat}{f:Addr}{fd:FuncData}{ps:List Str}(Fn:FnOk X.prog X.w X.K X.mg X.base CX0 k f fd ps (spD X.K n g))(gm:bj g)(hr:Room k X.A)(hg:Gl X x)(hm:X.mg x=some (.ref f))(hk:PySem.W.keepIn X.K (.ref f)=true)(hb:Binds X.K fd ps [])
  (ha:PAD X (e::es) t) (hdb:(x == ("__debug__" : Str))=false:=by decide) (he:starEach (e::es) X.env=(false,eval e X.env)::starEach es X.env:=by rfl) (hpl:(backTo pos (starEach es X.env)).any (·.1)=false:=by rfl) :
  PED X (.Call (.Name x p) (e::es) [] pos) (CB n g t):=by
 obtain⟨T,pa,ra⟩:=ha.run
 refine⟨fun _ _ _ f q=>ha.mono _ _ _ (fun _ _ q=>⟨q.1,gm _ _ _ (fun _ q=>f _ _ q) q.2⟩) q,_,sg Fn hr hg hm hk hb .nil Cp pa hdb he hpl,fun {F} M H σ ρ Q rs q=>?_⟩
 refine ra M H σ ρ _ rs (ha.mono _ _ _ (fun ds ρ1 q M1 H1 vs m1 rs1 r1=>?_) q)
 rw[zzM]
 exact⟨F.pp,M1,ds,rs1.liv,r1,q.1,gm _ _ _ (fun d q H' w s r=>q M1 H' w (m1.trans s.mv) (rs1.sameP s) r) q.2⟩
end
structure EO(K:PySem.W.Frag)(F:Fx)(M:List Addr)(H:Hp)(E:DEnds)(D:Ends):Prop where
 nx:∀M' H' σ' ρ',Mv K F.pp M H M' H'->RSt K F M' H' σ' ρ'->E.nx ρ'->D.nx σ' H'
 bk:∀M' H' σ' ρ',Mv K F.pp M H M' H'->RSt K F M' H' σ' ρ'->E.bk ρ'->D.bk σ' H'
 ct:∀M' H' σ' ρ',Mv K F.pp M H M' H'->RSt K F M' H' σ' ρ'->E.ct ρ'->D.ct σ' H'
 rt:∀M' H' σ' ρ' d v,Mv K F.pp M H M' H'->RSt K F M' H' σ' ρ'->Rep K F.pp M' H' d v->E.rt d->D.rt v H'
theorem EO.mv{K:PySem.W.Frag}{F:Fx}{M M1:List Addr}{H H1:Hp}{E:DEnds}{D:Ends}(o:EO K F M H E D)(m:Mv K F.pp M H M1 H1):EO K F M1 H1 E D :=
 ⟨fun _ _ _ _ m'=>o.nx _ _ _ _ (m.trans m'),fun _ _ _ _ m'=>o.bk _ _ _ _ (m.trans m'),fun _ _ _ _ m'=>o.ct _ _ _ _ (m.trans m'),fun _ _ _ _ _ _ m'=>o.rt _ _ _ _ _ _ (m.trans m')⟩
def PSD(X:Cx)(st:Stmt)(t:DTS):Prop:=∃T:TS,PS X st T/\∀{F:Fx} M H σ ρ (E:DEnds) (D:Ends),RSt X.K F M H σ ρ->EO X.K F M H E D->t E ρ->T D σ H
def PSsD(X:Cx)(st:List Stmt)(t:DTS):Prop:=∃T:TS,PSs X st T/\∀{F:Fx} M H σ ρ (E:DEnds) (D:Ends),RSt X.K F M H σ ρ->EO X.K F M H E D->t E ρ->T D σ H
section
variable{X:Cx}{F:Fx}{st:Stmt}{rest a b:List Stmt}{t u:DTS}{e c:Expr}{te:DE}{tc:DT}{tl:DA}{pos:Pos}
abbrev GZ:DTS:=fun E ρ=>E.nx ρ
abbrev dSeq(t u:DTS):DTS:=fun E ρ=>t { E with nx:=u E } ρ
abbrev dMid(t u:DTS):DTS:=fun E ρ=>∃N:DS->Prop,t { E with nx:=N } ρ/\∀ρ',N ρ'->u E ρ'
theorem aQ:PSsD X [] GZ:=⟨_,kZ,fun {F} M H σ ρ E D rs o h=>o.nx M H σ ρ .refl rs h⟩
theorem ai(h:PSD X st t):PSsD X [st] t:=by
 obtain⟨T,p,r⟩:=h
 exact⟨T,eG p,r⟩
theorem aj(h1:PSD X st t)(h2:PSsD X rest u):PSsD X (st::rest) (dSeq t u):=by
 obtain⟨T,p,r⟩:=h1
 obtain⟨U,q,s⟩:=h2
 refine⟨_,bA p q,fun {F} M H σ ρ E D rs o h=>r M H σ ρ { E with nx:=u E } { D with nx:=U D } rs ⟨fun M' H' σ' ρ' m rs' h=>?_,o.bk,o.ct,o.rt⟩ h⟩
 exact s M' H' σ' ρ' E D rs' (o.mv m) h
theorem aH(h1:PSD X st t)(h2:PSsD X rest u):PSsD X (st::rest) (dMid t u):=by
 obtain⟨T,p,r⟩:=h1
 obtain⟨U,q,s⟩:=h2
 refine⟨_,bA p q,fun {F} M H σ ρ E D rs o h=>?_⟩
 obtain⟨N,h,hn⟩:=h
 refine r M H σ ρ { E with nx:=N } { D with nx:=U D } rs ⟨fun M' H' σ' ρ' m rs' h=>?_,o.bk,o.ct,o.rt⟩ h
 exact s M' H' σ' ρ' E D rs' (o.mv m) (hn _ h)
abbrev Ff:DTS:=fun _ _=>False
theorem cK:PSD X st Ff:=⟨_,zB,fun _ _ _ _ _ _ _ _ h=>h⟩
abbrev dRet(te:DE):DTS:=fun E ρ=>te ρ fun d _=>E.rt d
theorem aE(h:PED X e te):PSD X (.Return (some e) pos) (dRet te):=by
 obtain⟨T,p,r⟩:=h.run
 refine⟨_,lc p,fun {F} M H σ ρ E D rs o q=>r M H σ ρ _ rs (h.mono _ _ _ (fun d ρ' q M' H' v m rs' r'=>?_) q)⟩
 exact o.rt M' H' σ ρ' d v m rs' r' q
abbrev Ha(te:DE):DTS:=fun E ρ=>te ρ fun _ ρ'=>E.nx ρ'
theorem fj(h:PED X e te)(hs:swapsWith e none pos.line X.env=pure false:=by rfl):PSD X (.Expr e pos) (Ha te):=by
 obtain⟨T,p,r⟩:=h.run
 refine⟨_,oj p hs,fun {F} M H σ ρ E D rs o q=>r M H σ ρ _ rs (h.mono _ _ _ (fun d ρ' q M' H' v m rs' r'=>?_) q)⟩
 exact o.nx M' H' σ ρ' m rs' q
abbrev dIfS(c:DT)(t u:DTS):DTS:=fun E ρ=>c ρ fun b ρ'=>Br b (t E ρ') (u E ρ')
theorem cG(hc:PTD X c tc)(ha:PSsD X a t)(hb:PSsD X b u):PSD X (.If c a b pos) (dIfS tc t u):=by
 obtain⟨T,p,r⟩:=hc.run
 obtain⟨U,q,s⟩:=ha
 obtain⟨U',q',s'⟩:=hb
 refine⟨_,wQ p q q',fun {F} M H σ ρ E D rs o h=>r M H σ ρ _ rs (hc.mono _ _ _ (fun k ρ1 h M1 H1 m1 rs1=>?_) h)⟩
 cases k with
 |true=>exact iteT (s M1 H1 σ ρ1 E D rs1 (o.mv m1) (h.yes rfl))
 |false=>exact iteF (s' M1 H1 σ ρ1 E D rs1 (o.mv m1) (h.no rfl))
abbrev dSet(i:Nat)(te:DE):DTS:=fun E ρ=>te ρ fun d ρ'=>E.nx (ρ'.set i (.val d))
theorem aC{i:Nat}{x:Str}{pos':Pos}(hN:X.N.Nodup)(hi:X.N[i]? = some x)(hx:Loc X.env.scope x)(h:PED X e te)(hs:swapsWith e (some (.Name x pos')) pos.line X.env=pure false:=by rfl)(hf:X.fn x=true∨X.env.scope.names.lookup x=some .local:=by first|exact .inl rfl|exact .inr rfl|assumption) :
  PSD X (.Assign [.Name x pos'] e pos) (dSet i te):=by
 obtain⟨T,p,r⟩:=h.run
 refine⟨_,ip hN hi hx p hs hf,fun {F} M H σ ρ E D rs o q=>r M H σ ρ _ rs (h.mono _ _ _ (fun d ρ' q M' H' v m rs' r'=>?_) q)⟩
 exact o.nx M' H' _ _ m (rs'.set r' i) q
abbrev dOwn(i:Nat)(t:DA):DTS:=fun E ρ=>t ρ fun ds ρ'=>E.nx (ρ'.set i (.own ds))
theorem RSt.newOwn{K:PySem.W.Frag}{M:List Addr}{H:Hp}{σ:St}{ρ:DS}{l:Addr}{xs:List V}{ds:List D}(r:RSt K F M H σ ρ)(hl:H l=none)(hd:Reps K F.pp M H ds xs)(i:Nat) :
  RSt K F (l::M) (upd H l (.lst xs)) (σ.set i (some (.ref l))) (ρ.set i (.own ds)):=by
 have m:Mv K F.pp M H (l::M) (upd H l (.lst xs)):=.newOwn hl
 have s:SameP K F.pp H (upd H l (.lst xs)):=.new hl
 have h0:F.H0 l=none:=by
  cases e:F.H0 l with
  |none=>rfl
  |some o=>exact absurd hl (r.same.live l (by rw[e];intro z;cases z))
 refine⟨by simp[r.len],fun j q o h1 h2=>?_,r.ow.step m i (fun j e=>zzC (Ne.symm e)) (fun j e=>zzC (Ne.symm e)) (fun A _ _=>⟨[l],fun s o e1 e2=>?_,fun b hb=>?_,fun a ha hp h0' _=>⟨zzc _ ha,fun x e _=>ji hl e⟩⟩),fun a ha=>zzc _ (r.sub a ha),r.same.trans s.toSameQ,r.old,?_,r.lk.cl m⟩
 ·by_cases e:i=j
  ·subst e
   rw[aZ h1,aZ h2]
   exact⟨l,xs,rfl,zzd,h0,(r.liv.fresh hl).2,ak,hd.mv m⟩
  ·rw[zzC e]at h1 h2
   have q':=r.sl j q o h1 h2
   cases q with
   |nil=>trivial
   |val d=>obtain⟨v,e,q⟩:=q';exact⟨v,e,q.mv m⟩
   |pin w d=>obtain⟨v,e,ew,q⟩:=q';exact⟨v,e,ew,q.mv m⟩
   |own es =>
    obtain⟨l',ys,rfl,hm',h0',hp',hl',hr'⟩:=q'
    exact⟨l',ys,rfl,zzc _ hm',h0',hp',ji hl hl',hr'.mv m⟩
   |obj q=>exact q'
 ·rw[aZ e1,aZ e2]
  exact⟨l,rfl,rfl⟩
 ·rw[zzw.mp hb]
  exact⟨zzd,h0,(r.liv.fresh hl).2,.inr (r.liv.fresh hl).1⟩
 ·refine⟨fun a ha=>?_,fun p e=>s.live p (r.liv.p p e)⟩
  rcases zzi.mp ha with rfl|ha
  ·rw[ak];intro z;cases z
  ·exact s.live a (r.liv.m a ha)
theorem lF{i:Nat}{x:Str}{pos':Pos}(hN:X.N.Nodup)(hi:X.N[i]? = some x)(hx:Loc X.env.scope x)(h:PLD X e tl)(hs:swapsWith e (some (.Name x pos')) pos.line X.env=pure false:=by rfl)(hf:X.fn x=true∨X.env.scope.names.lookup x=some .local:=by first|exact .inl rfl|exact .inr rfl|assumption) :
  PSD X (.Assign [.Name x pos'] e pos) (dOwn i tl):=by
 obtain⟨T,p,r⟩:=h.run
 refine⟨_,ip hN hi hx p hs hf,fun {F} M H σ ρ E D rs o q=>r M H σ ρ _ rs (h.mono _ _ _ (fun ds ρ' q M' H1 H' l xs m rs' hl e r'=>?_) q)⟩
 subst e
 exact o.nx _ _ _ _ (m.trans (.newOwn hl)) (rs'.newOwn hl r' i) q
abbrev DG:=D->DS->(DS->Prop)->Prop
structure PGD(X:Cx)(tg:Expr)(g:DG):Prop where
 mono:∀d ρ P P',(∀ρ',P ρ'->P' ρ')->g d ρ P->g d ρ P'
 run:∃G:TG,PG X tg G/\∀{F:Fx} M H σ ρ d v (Q:St->Hp->Prop),RSt X.K F M H σ ρ->Rep X.K F.pp M H d v->(g d ρ fun ρ'=>∀M' H' σ',Mv X.K F.pp M H M' H'->RSt X.K F M' H' σ' ρ'->Q σ' H')->G v σ H Q
abbrev dg(i:Nat):DG:=fun d ρ Q=>Q (ρ.set i (.val d))
theorem ao{i:Nat}{x:Str}(hN:X.N.Nodup)(hi:X.N[i]? = some x)(hx:Loc X.env.scope x)(hf:X.fn x=true∨X.env.scope.names.lookup x=some .local:=by first|exact .inl rfl|exact .inr rfl|assumption):PGD X (.Name x pos) (dg i) :=
 ⟨fun _ _ _ _ f h=>f _ h,_,ol hN hi hx hf,fun {F} M H σ ρ d v Q rs r h=>h M H _ .refl (rs.set r i)⟩
abbrev DGs:=List D->DS->(DS->Prop)->Prop
structure PGsD(X:Cx)(tg:List Expr)(g:DGs):Prop where
 mono:∀d ρ P P',(∀ρ',P ρ'->P' ρ')->g d ρ P->g d ρ P'
 run:∃G:TGs,PGs X tg G/\∀{F:Fx} M H σ ρ ds vs (Q:St->Hp->Prop),RSt X.K F M H σ ρ->Reps X.K F.pp M H ds vs->(g ds ρ fun ρ'=>∀M' H' σ',Mv X.K F.pp M H M' H'->RSt X.K F M' H' σ' ρ'->Q σ' H')->G vs σ H Q
def CC:DGs:=fun ds ρ Q=>match ds with
 |[]=>Q ρ
 |_=>False
def qB(g:DG)(u:DGs):DGs:=fun ds ρ Q=>match ds with
 |d::r=>g d ρ fun ρ'=>u r ρ' Q
 |[]=>False
theorem gD:PGsD X [] CC:=by
 refine⟨fun ds _ _ _ f h=>?_,_,wT,fun {F} M H σ ρ ds vs Q rs r h=>?_⟩
 ·cases ds with
  |nil=>exact f _ h
  |cons=>exact h
 ·cases ds with
  |nil=>simp only[Reps]at r;exact⟨r,h M H σ .refl rs⟩
  |cons=>exact h.elim
theorem bG{e:Expr}{es:List Expr}{g:DG}{u:DGs}(h1:PGD X e g)(h2:PGsD X es u)
  (hs:(assignEach (e::es) X.env).map (·.2)=assign e X.env::(assignEach es X.env).map (·.2):=by rfl):PGsD X (e::es) (qB g u):=by
 obtain⟨G,p,r⟩:=h1.run
 obtain⟨G',p',r'⟩:=h2.run
 refine⟨fun ds _ _ _ f h=>?_,_,kH p p' hs,fun {F} M H σ ρ ds vs Q rs rd h=>?_⟩
 ·cases ds with
  |nil=>exact h
  |cons=>exact h1.mono _ _ _ _ (fun _ h=>h2.mono _ _ _ _ f h) h
 ·cases ds with
  |nil=>exact h.elim
  |cons d ds =>
   simp only[Reps]at rd
   obtain⟨v,vr,rfl,rd,rr⟩:=rd
   refine⟨v,vr,rfl,r M H σ ρ d v _ rs rd (h1.mono _ _ _ _ (fun ρ' h M1 H1 σ1 m1 rs1=>?_) h)⟩
   exact r' M1 H1 σ1 ρ' ds vr _ rs1 (rr.mv m1) (h2.mono _ _ _ _ (fun ρ2 h M2 H2 σ2 m2 rs2=>h M2 H2 σ2 (m1.trans m2) rs2) h)
def CD(n:Nat)(g:DGs):DG:=fun d ρ Q=>match d with
 |.tup ds=>ds.length=n/\g ds ρ Q
 |_=>False
theorem lG{es:List Expr}{k:Nat}{g:DGs}{n:Nat}(hc:X.calm=true)(h:PGsD X es g)
  (hn:(assignEach es X.env).length=n:=by rfl) (hst:(assignEach es X.env).findIdx? (·.1)=none:=by rfl):PGD X (.Tuple es k pos) (CD n g):=by
 obtain⟨G,p,r⟩:=h.run
 refine⟨fun d _ _ _ f q=>?_,_,Cr hc p hn hst,fun {F} M H σ ρ d v Q rs rd q=>?_⟩
 ·cases d<;>first|exact q.elim|exact⟨q.1,h.mono _ _ _ _ f q.2⟩
 ·cases d with
  |tup ds =>
   simp only[Rep]at rd
   obtain⟨a,xs,rfl,ha,rd⟩:=rd
   exact⟨a,xs,rfl,ha,by rw[←rd.length];exact q.1,r M H σ ρ ds xs _ rs rd q.2⟩
  |_=>exact q.elim
abbrev dAsg(te:DE)(g:DG):DTS:=fun E ρ=>te ρ fun d ρ'=>g d ρ' E.nx
theorem Fg{tg:Expr}{g:DG}(he:PED X e te)(hg:PGD X tg g)(hs:swapsWithSole [tg] e pos.line X.env=pure false:=by rfl)(hw:swappedStores [tg] e X.env=pure none:=by rfl)(hh:PS X (.Assign [tg] e pos) (tAsg (Classical.choose he.run) (Classical.choose hg.run)):=by exact qf (zzI he.run).1 (zzI hg.run).1):PSD X (.Assign [tg] e pos) (dAsg te g):=by
 obtain⟨_,r⟩:=zzI he.run
 obtain⟨_,r'⟩:=zzI hg.run
 refine⟨_,hh,fun {F} M H σ ρ E D rs o q=>r M H σ ρ _ rs (he.mono _ _ _ (fun d ρ' q M' H' v m rs' rd=>?_) q)⟩
 exact r' M' H' σ ρ' d v _ rs' rd (hg.mono _ _ _ _ (fun ρ2 q M2 H2 σ2 m2 rs2=>o.nx M2 H2 σ2 ρ2 (m.trans m2) rs2 q) q)
def kA(g:DG)(b:DTS):List D->DEnds->DS->Prop
 |[],E,ρ=>E.nx ρ
 |d::r,E,ρ=>g d ρ fun ρ1=>b { E with nx:=fun ρ'=>kA g b r E ρ',ct:=fun ρ'=>kA g b r E ρ',bk:=E.nx } ρ1
structure ItOkV(K:PySem.W.Frag)(pp:Option Addr)(J:It)(M:List Addr)(H:Hp)(vs:List V):Prop where
 yld:∀M2 H2,Mv K pp M H M2 H2->∀i x H3,i<vs.length->J.yld i H2 x H3->H3=H2/\vs[i]? = some x
 go:∀M2 H2,Mv K pp M H M2 H2->∀i,i<vs.length->J.go i H2
 stop:∀M2 H2,Mv K pp M H M2 H2->∀i,vs.length <= i->J.stop i H2
structure ItOk(K:PySem.W.Frag)(pp:Option Addr)(J:It)(M:List Addr)(H:Hp)(ds:List D):Prop where
 yld:∀M2 H2,Mv K pp M H M2 H2->∀i d x H3,ds[i]? = some d->J.yld i H2 x H3->SameP K pp H2 H3/\Rep K pp M2 H3 d x
 go:∀M2 H2,Mv K pp M H M2 H2->∀i,i<ds.length->J.go i H2
 stop:∀M2 H2,Mv K pp M H M2 H2->∀i,ds.length <= i->J.stop i H2
theorem ItOkV.of{K:PySem.W.Frag}{pp:Option Addr}{J:It}{M:List Addr}{H:Hp}{vs:List V}{ds:List D}(o:ItOkV K pp J M H vs)(rd:Reps K pp M H ds vs):ItOk K pp J M H ds where
 yld:=fun M2 H2 m i d x H3 e y=>by
  obtain⟨v,e1,r⟩:=rd.get' e
  obtain⟨rfl,e2⟩:=o.yld M2 H2 m i x H3 (zzt.mp e1).1 y
  rw[e1]at e2
  cases e2
  exact⟨.refl,r.mv m⟩
 go:=fun M2 H2 m i h=>o.go M2 H2 m i (by rw[←rd.length];exact h)
 stop:=fun M2 H2 m i h=>o.stop M2 H2 m i (by rw[←rd.length];exact h)
structure PID(X:Cx)(tg iter:Expr)(t:DA):Prop where
 mono:∀ρ P P',(∀d ρ',P d ρ'->P' d ρ')->t ρ P->t ρ P'
 run:∃wi:TI,PI X tg iter wi/\∀{F:Fx} M H σ ρ (R:It->Hp->Prop),RSt X.K F M H σ ρ ->
  (t ρ fun ds ρ'=>∀M' H' J,Mv X.K F.pp M H M' H'->RSt X.K F M' H' σ ρ'->ItOk X.K F.pp J M' H' ds->R J H')->wi σ H R
abbrev dFor(t:DA)(g:DG)(b:DTS):DTS:=fun E ρ=>t ρ fun ds ρ'=>kA g b ds E ρ'
theorem dZ{tg iter:Expr}{body:List Stmt}{t:DA}{g:DG}{tb:DTS}{pos:Pos}(hp:PassesOwn (model X.prog X.w) X.A X.env X.xe)(hc:X.calm=true)(hi:PID X tg iter t)(hg:PGD X tg g)(hb:PSsD X body tb)
  (hs:∀x,foldedSetIterable iter X.env x=pure x:=by intro _;rfl):PSD X (.For tg iter body [] pos) (dFor t g tb):=by
 obtain⟨wi,pi,ri⟩:=hi.run
 obtain⟨G,pg,rg⟩:=hg.run
 obtain⟨T,p,r⟩:=hb
 refine⟨_,Eu hp hc pi pg p hs,fun {F} M H σ ρ E D rs o h=>ri M H σ ρ _ rs (hi.mono _ _ _ (fun ds ρ1 h M1 H1 J m1 rs1 ok=>?_) h)⟩
 refine⟨fun i m σ2 H2=>∃M2 ρ2,m=ds.length - i/\i <= ds.length/\Mv X.K F.pp M1 H1 M2 H2/\RSt X.K F M2 H2 σ2 ρ2/\kA g tb (ds.drop i) E ρ2,⟨ds.length,M1,ρ1,rfl,zzG _,.refl,rs1,h⟩,?_⟩
 rintro i m σ2 H2 ⟨M2,ρ2,rfl,hi2,m2,rs2,h2⟩
 by_cases hlt:i<ds.length
 ·have e1:ds[i]? = some ds[i]:=by simp[hlt]
  rw[List.drop_eq_getElem_cons hlt]at h2
  refine .inr ⟨ok.go M2 H2 m2 i hlt,fun σ' H'=>∃M' ρ',Mv X.K F.pp M1 H1 M' H'/\RSt X.K F M' H' σ' ρ'/\kA g tb (ds.drop (i+1)) E ρ',fun σ' H' ⟨M',ρ',mm,rs',h'⟩=>⟨ds.length - (i+1),by omega,M',ρ',rfl,hlt,mm,rs',h'⟩,fun x H3 y=>?_⟩
  obtain⟨sp,rx⟩:=ok.yld M2 H2 m2 i _ x H3 e1 y
  have m23:=m2.trans (sp.mv (M:=M2))
  refine rg M2 H3 σ2 ρ2 _ _ _ (rs2.sameP sp) rx (hg.mono _ _ _ _ (fun ρ3 h3 M3 H3 σ3 m3 rs3=>?_) h2)
  refine r M3 H3 σ3 ρ3 _ _ rs3 ⟨fun M4 H4 σ4 ρ4 m4 rs4 h4=>⟨M4,ρ4,(m23.trans m3).trans m4,rs4,h4⟩,fun M4 H4 σ4 ρ4 m4 rs4 h4=>?_,fun M4 H4 σ4 ρ4 m4 rs4 h4=>⟨M4,ρ4,(m23.trans m3).trans m4,rs4,h4⟩,fun M4 H4 σ4 ρ4 d' v m4 rs4 r4 h4=>?_⟩ h3
  ·exact o.nx M4 H4 σ4 ρ4 (((m1.trans m23).trans m3).trans m4) rs4 h4
  ·exact o.rt M4 H4 σ4 ρ4 d' v (((m1.trans m23).trans m3).trans m4) rs4 r4 h4
 ·have e:i=ds.length:=by omega
  refine .inl ⟨ok.stop M2 H2 m2 i (by omega),?_⟩
  have hd:ds.drop i=[]:=by rw[List.drop_eq_nil_iff];omega
  rw[hd]at h2
  exact o.nx M2 H2 σ2 ρ2 (m1.trans m2) rs2 h2
abbrev Hb(te:DE):DA:=fun ρ Q=>te ρ fun d ρ'=>match d with
 |.lst ds=>Q ds ρ'
 |_=>False
abbrev Hc(te:DE):DA:=fun ρ Q=>te ρ fun d ρ'=>match d with
 |.tup ds=>Q ds ρ'
 |_=>False
theorem bF{tg l:Expr}(hl:PED X l te):PID X tg l (Hb te):=by
 obtain⟨T,p,r⟩:=hl.run
 refine⟨fun _ _ _ f h=>hl.mono _ _ _ (fun d _ h=>?_) h,_,Cb p,fun {F} M H σ ρ R rs h=>r M H σ ρ _ rs (hl.mono _ _ _ (fun d ρ' h M' H' v m rs' rd=>?_) h)⟩
 ·cases d<;>first|exact h.elim|exact f _ _ h
 ·cases d with
  |lst ds =>
   simp only[Rep]at rd
   obtain⟨a,xs,rfl,hm,hp,ha,rd⟩:=rd
   refine⟨a,rfl,⟨xs,SqL.of ha⟩,h M' H' _ m rs' (ItOkV.of (vs:=xs) ⟨fun M2 H2 m2 i x H3 _ y=>?_,fun M2 H2 m2 i hi=>?_,fun M2 H2 m2 i hi=>?_⟩ rd)⟩
   ·exact⟨y.1,y.2 xs (SqL.of (m2.lst a xs ha hm hp).1)⟩
   ·exact⟨xs,xs[i],SqL.of (m2.lst a xs ha hm hp).1,by simp[hi]⟩
   ·exact⟨xs,SqL.of (m2.lst a xs ha hm hp).1,hi⟩
  |_=>exact h.elim
theorem ee{tg l:Expr}(hl:PED X l te):PID X tg l (Hc te):=by
 obtain⟨T,p,r⟩:=hl.run
 refine⟨fun _ _ _ f h=>hl.mono _ _ _ (fun d _ h=>?_) h,_,Et p,fun {F} M H σ ρ R rs h=>r M H σ ρ _ rs (hl.mono _ _ _ (fun d ρ' h M' H' v m rs' rd=>?_) h)⟩
 ·cases d<;>first|exact h.elim|exact f _ _ h
 ·cases d with
  |tup ds =>
   simp only[Rep]at rd
   obtain⟨a,xs,rfl,ha,rd⟩:=rd
   refine⟨a,rfl,⟨xs,SqT.of ha⟩,h M' H' _ m rs' (ItOkV.of (vs:=xs) ⟨fun M2 H2 m2 i x H3 _ y=>?_,fun M2 H2 m2 i hi=>?_,fun M2 H2 m2 i hi=>?_⟩ rd)⟩
   ·exact⟨y.1,y.2 xs (SqT.of (m2.tup a xs ha))⟩
   ·exact⟨xs,xs[i],SqT.of (m2.tup a xs ha),by simp[hi]⟩
   ·exact⟨xs,SqT.of (m2.tup a xs ha),hi⟩
  |_=>exact h.elim
def eJ(lo:Int):Nat->List D
 |0=>[]
 |n+1=>.int lo::eJ (lo+1) n
theorem jl{K:PySem.W.Frag}{pp:Option Addr}{M:List Addr}{H:Hp}:∀(n:Nat) (lo:Int),Reps K pp M H (eJ lo n) ((List.range n).map fun(i:Nat)=>V.int (lo+i))
 |0,_=>by simp[eJ,Reps]
 |n+1,lo=>by
  rw[zyX,zze,eJ]
  refine .cons (by simp[Rep]) ?_
  have:=jl (K:=K) (pp:=pp) (M:=M) (H:=H) n (lo+1)
  rw[zzh]
  refine(congrArg (Reps K pp M H (eJ (lo+1) n)) (zzp fun i _=>?_)).mp this
  simp only[Function.comp]
  congr 1
  omega
abbrev diR1(t:DA):DA:=fun ρ Q=>t ρ fun ds ρ'=>match ds with
 |[.int j]=>(-(2^62) <= j/\j<2^62)/\Q (eJ 0 j.toNat) ρ'
 |_=>False
abbrev diR2(t:DA):DA:=fun ρ Q=>t ρ fun ds ρ'=>match ds with
 |[.int i,.int j]=>(-(2^62) <= i/\i<2^62/\-(2^62) <= j/\j<2^62)/\Q (eJ i (j - i).toNat) ρ'
 |_=>False
theorem itOk_range{K:PySem.W.Frag}{pp:Option Addr}{M:List Addr}{H:Hp}{lo:Int}{n:Nat}:ItOkV K pp (Itr lo n) M H ((List.range n).map fun(i:Nat)=>V.int (lo+i)) where
 yld:=fun M2 H2 _ i x H3 hi y=>by
  obtain⟨e1,e2⟩:=y
  refine⟨e1,?_⟩
  have hi':i<n:=by simpa using hi
  simp[hi',e2]
 go:=fun _ _ _ i hi=>by show i<n;simpa using hi
 stop:=fun _ _ _ i hi=>by show n <= i;simpa using hi
variable{ea eb:Expr}
theorem cg{tg:Expr}{p:Pos}(hg:Gl X "range")(hm:X.mg "range" = none)(ha:PAD X [ea] tl)(hs:starEach [ea] X.env=[(false,eval ea X.env)]:=by rfl):PID X tg (.Call (.Name "range" p) [ea] [] pos) (diR1 tl):=by
 obtain⟨T,pa,r⟩:=ha.run
 refine⟨fun _ _ _ f h=>ha.mono _ _ _ (fun d _ h=>?_) h,_,wV hg hm pa hs,fun {F} M H σ ρ R rs h=>r M H σ ρ _ rs (ha.mono _ _ _ (fun d ρ' h M' H' v m rs' rd=>?_) h)⟩
 ·split at h
  ·exact⟨h.1,f _ _ h.2⟩
  ·exact h.elim
 ·split at h
  ·rename_i j
   simp only[Reps,Rep]at rd
   obtain⟨x,r,rfl,rfl,rfl⟩:=rd
   exact⟨j,rfl,h.1.1,h.1.2,h.2 M' H' _ m rs' (itOk_range.of (jl _ _))⟩
  ·exact h.elim
theorem qC{tg:Expr}{p:Pos}(hg:Gl X "range")(hm:X.mg "range" = none)(ha:PAD X [ea,eb] tl)(hs:starEach [ea,eb] X.env=[(false,eval ea X.env),(false,eval eb X.env)]:=by rfl)(hs2:starEach [eb] X.env=[(false,eval eb X.env)]:=by rfl):PID X tg (.Call (.Name "range" p) [ea,eb] [] pos) (diR2 tl):=by
 obtain⟨T,pa,r⟩:=ha.run
 refine⟨fun _ _ _ f h=>ha.mono _ _ _ (fun d _ h=>?_) h,_,wW hg hm pa hs hs2,fun {F} M H σ ρ R rs h=>r M H σ ρ _ rs (ha.mono _ _ _ (fun d ρ' h M' H' v m rs' rd=>?_) h)⟩
 ·split at h
  ·exact⟨h.1,f _ _ h.2⟩
  ·exact h.elim
 ·split at h
  ·rename_i i j
   simp only[Reps,Rep]at rd
   obtain⟨x,r,rfl,rfl,y,r',rfl,rfl,rfl⟩:=rd
   exact⟨i,j,rfl,h.1,h.2 M' H' _ m rs' (itOk_range.of (jl _ _))⟩
  ·exact h.elim
def fm(c:DT)(b:DTS):Nat->DEnds->DS->Prop
 |0,_,_=>False
 |n+1,E,ρ=>c ρ fun k ρ'=>Br k (b { E with nx:=fun ρ2=>fm c b n E ρ2,ct:=fun ρ2=>fm c b n E ρ2,bk:=E.nx } ρ') (E.nx ρ')
abbrev Bn(c:DT)(b:DTS):DTS:=fun E ρ=>∃n,fm c b n E ρ
theorem zS{body:List Stmt}{tb:DTS}(hp:PassesOwn (model X.prog X.w) X.A X.env X.xe)(hc:PTD X c tc)(hb:PSsD X body tb):PSD X (.While c body [] pos) (Bn tc tb):=by
 obtain⟨C,pc,rc⟩:=hc.run
 obtain⟨T,p,r⟩:=hb
 refine⟨_,zC hp pc p,fun {F} M H σ ρ E D rs o h=>?_⟩
 obtain⟨n,h⟩:=h
 refine⟨fun m σ2 H2=>∃M2 ρ2,Mv X.K F.pp M H M2 H2/\RSt X.K F M2 H2 σ2 ρ2/\fm tc tb m E ρ2,⟨n,M,ρ,.refl,rs,h⟩,?_⟩
 rintro m σ2 H2 ⟨M2,ρ2,m2,rs2,h2⟩
 cases m with
 |zero=>exact h2.elim
 |succ m =>
  refine rc M2 H2 σ2 ρ2 _ rs2 (hc.mono _ _ _ (fun k ρ3 h3 M3 H3 m3 rs3=>?_) h2)
  cases k with
  |false=>exact iteF (o.nx M3 H3 σ2 ρ3 (m2.trans m3) rs3 (h3.no rfl))
  |true =>
   refine iteT ⟨fun σ' H'=>∃M' ρ',Mv X.K F.pp M H M' H'/\RSt X.K F M' H' σ' ρ'/\fm tc tb m E ρ',fun σ' H' h'=>⟨m,Nat.lt_succ_self _,h'⟩,?_⟩
   refine r M3 H3 σ2 ρ3 { E with nx:=fun ρ2=>fm tc tb m E ρ2,ct:=fun ρ2=>fm tc tb m E ρ2,bk:=E.nx } _ rs3 ⟨fun M4 H4 σ4 ρ4 m4 rs4 h4=>⟨M4,ρ4,(m2.trans m3).trans m4,rs4,h4⟩,fun M4 H4 σ4 ρ4 m4 rs4 h4=>o.nx M4 H4 σ4 ρ4 ((m2.trans m3).trans m4) rs4 h4,fun M4 H4 σ4 ρ4 m4 rs4 h4=>⟨M4,ρ4,(m2.trans m3).trans m4,rs4,h4⟩,fun M4 H4 σ4 ρ4 d' v m4 rs4 r4 h4=>o.rt M4 H4 σ4 ρ4 d' v ((m2.trans m3).trans m4) rs4 r4 h4⟩ (h3.yes rfl)
end
def qD(n:Nat)(ds:List D):DS:=ds.map .val++List.replicate (n - ds.length) .nil
theorem nF{K:PySem.W.Frag}{F:Fx}{M:List Addr}{H:Hp}:∀{ds:List D}{vs:List V},Reps K F.pp M H ds vs->∀(i:Nat) s o,(ds.map Sl.val)[i]? = some s->(vs.map some)[i]? = some o->RSl K F M H s o
 |[],_,_,_,_,_,h1,_=>by simp at h1
 |d::ds,_,h,0,s,o,h1,h2=>by
  simp only[Reps]at h
  obtain⟨x,r,rfl,h,_⟩:=h
  simp at h1 h2
  subst h1 h2
  exact⟨x,rfl,h⟩
 |d::ds,_,h,i+1,s,o,h1,h2=>by
  simp only[Reps]at h
  obtain⟨x,r,rfl,_,h⟩:=h
  exact nF h i s o (by simpa using h1) (by simpa using h2)
theorem sG{ds:List D}{n i:Nat}{es:List D}(h:(ds.map Sl.val++List.replicate n Sl.nil)[i]? = some (.own es)):False:=by
 have:=zzH h
 rcases zzx.mp this with h|h
 ·obtain⟨d,_,e⟩:=zzb.mp h;cases e
 ·have:=zyk h;cases this
theorem sH{ds:List D}{n i:Nat}{q:O}(h:(ds.map Sl.val++List.replicate n Sl.nil)[i]? = some (.obj q)):False:=by
 have:=zzH h
 rcases zzx.mp this with h|h
 ·obtain⟨d,_,e⟩:=zzb.mp h;cases e
 ·have:=zyk h;cases this
theorem qE{K:PySem.W.Frag}{pp:Option Addr}{M:List Addr}{H:Hp}{ds:List D}{vs:List V}{N:List Str}(lv:Lv pp M H)(r:Reps K pp M H ds vs)(lk:Frm.L K ⟨pp,M,H⟩ M H):RSt K ⟨pp,M,H⟩ M H (L2.start N vs) (qD N.length ds):=by
 have hl:=r.length
 refine⟨by simp[L2.start,qD,hl],fun i s o h1 h2=>?_,OwF.none (fun i s e=>⟨fun ds z=>(sG (z ▸ e)).elim,fun q z=>(sH (z ▸ e)).elim⟩),fun a h=>h,.refl,lv.m,lv.toLv0,⟨lk,lv.t⟩⟩
 unfold qD at h1
 unfold L2.start at h2
 by_cases hi:i<ds.length
 ·rw[zzE (by simpa using hi)]at h1
  rw[zzE (by simpa[←hl]using hi)]at h2
  exact nF (F:=⟨pp,M,H⟩) r i s o h1 h2
 ·rw[zzF (by simp;omega)]at h1
  have:=zyk (zzH h1)
  subst this
  trivial
omit [Frm] in
theorem fnD{P:Program}{w:World}{K:PySem.W.Frag}{mg:Str->Option Value}{base:Heap}{x qual:Str}{st:Stmt}{f:Addr}{fd:FuncData}{N ps:List Str}{k:Nat}{g:DSp}{t:DTS}(Fn:Fun K x qual st f fd)(S:FnScope N ps (ah st))
  (hb:∀(cdv:Value) (A:Around) (outer:List Env) (s:Shared) (H:Hp) (E:XK),Room k (A.deeper (envOfC qual (ah st) s.heap.objs.size f cdv)) -> @PSsD _ Frm.free (cxOf CX0 P w K mg base N qual (ah st) f cdv A outer s H E).nox (db st) t)
  (hg:∀ds Q,ds.length=ps.length->g ds Q->t { nx:=fun _=>Q .non,rt:=Q } (qD N.length ds)):FnOk P w K mg base CX0 (k+1) f fd ps (spD K ps.length g):=by
 refine Fn.ok S (fun vs H Q E h=>?_) (fun cdv A outer s H vs Q E hr h=>?_)
 ·obtain⟨pp,M,ds,_,r,e,_⟩:=h
  rw[←r.length,e]
 ·obtain⟨pp,M,ds,lv,r,e,h⟩:=h
  obtain⟨T,p,run⟩:=hb cdv A outer s H E hr
  refine⟨T,p,run M H _ _ _ _ (qE lv r trivial) ⟨fun M' H' σ' ρ' m rs q=>?_,fun _ _ _ _ _ _ q=>q,fun _ _ _ _ _ _ q=>q,fun M' H' σ' ρ' d v m rs rd q=>?_⟩ (hg ds _ e h)⟩
  ·exact q H' .non rs.sameT (by simp only[Rep])
  ·exact q H' v rs.sameT (rd.mv (.less rs.sub))
section
variable{X:Cx}{pp:Option Addr}
def g2I(C:Int->Int->Prop)(f:Int->Int->D):D->D->(D->Prop)->Prop
 |.int i,.int j,P=>C i j/\P (f i j)
 |_,_,_=>False
def g2I0(f:Int->Int->D):D->D->(D->Prop)->Prop
 |.int i,.int j,P=>P (f i j)
 |_,_,_=>False
theorem OpD.ofI{f:Value->Value->Sem Value}{C:Int->Int->Prop}{h:Int->Int->V}{h':Int->Int->D}(o:OpR X f (rI C h))(e:∀pp M H i j,Rep X.K pp M H (h' i j) (h i j)):OpD X f (g2I C h'):=by
 refine⟨fun x y P P' f h=>?_,_,o,fun {pp} M H x y v u Q _ rx ry h=>?_⟩
 ·cases x<;>cases y<;>first|exact h.elim|exact⟨h.1,f _ h.2⟩
 ·cases x<;>first|exact h.elim|skip
  cases y<;>first|exact h.elim|skip
  simp only[Rep]at rx ry
  exact⟨_,_,rx,ry,h.1,h.2 H _ .refl (e _ M H _ _)⟩
theorem OpD.ofI0{f:Value->Value->Sem Value}{h:Int->Int->V}{h':Int->Int->D}(o:OpR X f (rI0 h))(e:∀pp M H i j,Rep X.K pp M H (h' i j) (h i j)):OpD X f (g2I0 h'):=by
 refine⟨fun x y P P' f h=>?_,_,o,fun {pp} M H x y v u Q _ rx ry h=>?_⟩
 ·cases x<;>cases y<;>first|exact h.elim|exact f _ h
 ·cases x<;>first|exact h.elim|skip
  cases y<;>first|exact h.elim|skip
  simp only[Rep]at rx ry
  exact⟨_,_,rx,ry,h H _ .refl (e _ M H _ _)⟩
theorem dh:OpD X (binaryOp .Add) (g2I0 fun i j=>.int (i+j)):=.ofI0 lg fun _ _ _ _ _=>bE
theorem fq:OpD X (binaryOp .Sub) (g2I0 fun i j=>.int (i - j)):=.ofI0 Ev fun _ _ _ _ _=>bE
theorem qF:OpD X (binaryOp .Mult) (g2I CMulB fun i j=>.int (i*j)):=.ofI jh fun _ _ _ _ _=>bE
theorem Fh:OpD X (binaryOp .Mod) (g2I (fun _ j=>0<j) fun i j=>.int (i % j)):=.ofI jZ fun _ _ _ _ _=>bE
theorem Bo:OpD X (binaryOp .Pow) (g2I CPow fun i j=>.int (i^j.toNat)):=.ofI Bg fun _ _ _ _ _=>bE
theorem zT:OpD X (compareOp .Lt) (g2I0 fun i j=>.bl (decide (i<j))):=.ofI0 Ey fun _ _ _ _ _=>de
theorem Fi:OpD X (compareOp .LtE) (g2I0 fun i j=>.bl (decide (i <= j))):=.ofI0 GJ fun _ _ _ _ _=>de
theorem vZ:OpD X (compareOp .Gt) (g2I0 fun i j=>.bl (decide (j<i))):=.ofI0 Ez fun _ _ _ _ _=>de
theorem Hd:OpD X (compareOp .GtE) (g2I0 fun i j=>.bl (decide (j <= i))):=.ofI0 EA fun _ _ _ _ _=>de
def CF:D->Bool
 |.non=>true
 |_=>false
theorem xG{K:PySem.W.Frag}{M:List Addr}{H:Hp}{d:D}{v:V}(r:Rep K pp M H d v):decide (v=.non)=CF d:=by
 cases d<;>simp only[Rep]at r
 case non=>subst r;rfl
 case bl=>subst r;rfl
 case int=>subst r;rfl
 case str=>subst r;rfl
 case ty=>subst r;rfl
 case tup=>obtain⟨a,xs,rfl,_⟩:=r;rfl
 case lst=>obtain⟨a,xs,rfl,_⟩:=r;rfl
 case dK=>obtain⟨a,xs,rfl,_⟩:=r;rfl
 case dT=>obtain⟨a,xs,rfl,_⟩:=r;rfl
 case pen=>obtain⟨a,rfl,_⟩:=r;rfl
 case exc=>obtain⟨a,rfl,_⟩:=r;rfl
 case exa=>obtain⟨a,dx,rfl,_⟩:=r;rfl
 case cls=>subst r;rfl
def gIsN(n:Bool):D->D->(D->Prop)->Prop
 |x,.non,P=>P (.bl (if n then !CF x else CF x))
 |_,_,_=>False
theorem Bp:OpD X (compareOp .Is) (gIsN false):=by
 refine⟨fun x y P P' f h=>?_,_,EB,fun {pp} M H x y v u Q _ rx ry h=>?_⟩
 ·cases y<;>first|exact h.elim|exact f _ h
 ·cases y<;>first|exact h.elim|skip
  simp only[Rep]at ry
  exact⟨ry,h H _ .refl (by rw[xG rx];exact de)⟩
structure UnD(X:Cx)(f:Value->Sem Value)(g:D->(D->Prop)->Prop):Prop where
 mono:∀x P P',(∀d,P d->P' d)->g x P->g x P'
 run:∃r,UnR X f r/\∀{pp:Option Addr} M H x v (Q:VK),Lv pp M H->Rep X.K pp M H x v->g x (fun d=>∀H' w,SameP X.K pp H H'->Rep X.K pp M H' d w->Q w H')->r v H Q
abbrev dUn(g:D->(D->Prop)->Prop)(ta:DE):DE:=fun ρ Q=>ta ρ fun x ρ1=>g x fun d=>Q d ρ1
theorem mY{op:UnaryOp}{g:D->(D->Prop)->Prop}{a:Expr}{ta:DE}{pos:Pos}(ho:UnD X (unaryOp op) g)(ha:PED X a ta):PED X (.UnaryOp op a pos) (dUn g ta):=by
 obtain⟨r,hr,hg⟩:=ho.run
 obtain⟨Ta,pa,ra⟩:=ha.run
 refine⟨fun _ _ _ f h=>ha.mono _ _ _ (fun _ _ h=>ho.mono _ _ _ (fun _ h=>f _ _ h) h) h,_,GH hr pa,fun {F} M H σ ρ Q rs h=>ra M H σ ρ _ rs (ha.mono _ _ _ (fun x ρ1 h M1 H1 v m1 rs1 r1=>?_) h)⟩
 exact hg M1 H1 x v _ rs1.liv r1 (ho.mono _ _ _ (fun d h H' w s r=>h M1 H' w (m1.trans s.mv) (rs1.sameP s) r) h)
def gNeg:D->(D->Prop)->Prop
 |.int i,P=>P (.int (-i))
 |_,_=>False
theorem gx:UnD X (unaryOp .USub) gNeg:=by
 refine⟨fun x P P' f h=>?_,_,Ew,fun {pp} M H x v Q _ rx h=>?_⟩
 ·cases x<;>first|exact h.elim|exact f _ h
 ·cases x<;>first|exact h.elim|skip
  simp only[Rep]at rx
  exact⟨_,rx,h H _ .refl bE⟩
def Fj:D->Bool
 |.int _=>true
 |.bl _=>true
 |_=>false
def CG:D->Bool
 |.bl _=>true
 |_=>false
def qG:D->Bool
 |.tup _=>true
 |_=>false
def zU:D->Bool
 |.pen=>false
 |.exc _=>false
 |.exa _ _=>false
 |.cls _=>false
 |.ty _=>false
 |_=>true
theorem Fk{K:PySem.W.Frag}{M:List Addr}{H:Hp}{d:D}{v:V}(r:Rep K pp M H d v)(f:zU d=true):knV H v:=by
 cases d<;>first|cases f|skip
 all_goals simp only[Rep]at r
 case non=>subst r;trivial
 case bl=>subst r;trivial
 case int=>subst r;trivial
 case str=>subst r;trivial
 case tup=>obtain⟨a,xs,rfl,h,_⟩:=r;exact .inr (.inr (.inl ⟨xs,h⟩))
 case lst=>obtain⟨a,xs,rfl,_,_,h,_⟩:=r;exact .inl ⟨xs,h⟩
 case dK=>obtain⟨a,xs,rfl,_,_,h,_⟩:=r;exact .inr (.inr (.inr (.inl ⟨xs,h⟩)))
 case dT=>obtain⟨a,xs,rfl,_,_,h,_⟩:=r;exact .inr (.inr (.inr (.inr ⟨xs,h⟩)))
def gIs(T:String)(f:D->Bool):DSp:=fun ds P=>match ds with
 |[d,.ty T']=>T'=T/\zU d=true/\P (.bl (f d))
 |_=>False
theorem CallD.isOf{T:String}{f:Hp->V->Bool}{fD:D->Bool}(hc:dO X (.builtin "isinstance") (fun xs H Q=>∃x,xs=[x,.ty T]/\knV H x/\Q (.bl (f H x)) H))
  (e:∀pp M H d v,Rep X.K pp M H d v->zU d=true->f H v=fD d):CallD X (.builtin "isinstance") (gIs T fD):=by
 refine⟨fun ds P P' f h=>?_,_,hc,fun {pp} M H ds vs Q _ r h=>?_⟩
 ·unfold gIs at h ⊢;split at h
  ·exact⟨h.1,h.2.1,f _ h.2.2⟩
  ·exact h.elim
 ·unfold gIs at h;split at h
  case h_2=>exact h.elim
  ·rename_i d T'
   obtain⟨e1,e2,h⟩:=h
   simp only[Reps]at r
   obtain⟨x,r,rfl,rx,y,r',rfl,ry,rfl⟩:=r
   simp only[Rep]at ry
   subst ry e1
   exact⟨x,rfl,Fk rx e2,h H _ .refl (by rw[e _ M H d x rx e2];exact de)⟩
theorem xH:CallD X (.builtin "isinstance") (gIs "int" Fj):=.isOf sD fun pp M H d v r _=>by
 cases d<;>simp only[Rep]at r
 case non=>subst r;rfl
 case bl=>subst r;rfl
 case int=>subst r;rfl
 case str=>subst r;rfl
 case ty=>subst r;rfl
 case tup=>obtain⟨a,xs,rfl,_⟩:=r;rfl
 case lst=>obtain⟨a,xs,rfl,_⟩:=r;rfl
 case dK=>obtain⟨a,xs,rfl,_⟩:=r;rfl
 case dT=>obtain⟨a,xs,rfl,_⟩:=r;rfl
 case pen=>obtain⟨a,rfl,_⟩:=r;rfl
 case exc=>obtain⟨a,rfl,_⟩:=r;rfl
 case exa=>obtain⟨a,dx,rfl,_⟩:=r;rfl
 case cls=>subst r;rfl
theorem wc:CallD X (.builtin "isinstance") (gIs "bool" CG):=.isOf qy fun pp M H d v r _=>by
 cases d<;>simp only[Rep]at r
 case non=>subst r;rfl
 case bl=>subst r;rfl
 case int=>subst r;rfl
 case str=>subst r;rfl
 case ty=>subst r;rfl
 case tup=>obtain⟨a,xs,rfl,_⟩:=r;rfl
 case lst=>obtain⟨a,xs,rfl,_⟩:=r;rfl
 case dK=>obtain⟨a,xs,rfl,_⟩:=r;rfl
 case dT=>obtain⟨a,xs,rfl,_⟩:=r;rfl
 case pen=>obtain⟨a,rfl,_⟩:=r;rfl
 case exc=>obtain⟨a,rfl,_⟩:=r;rfl
 case exa=>obtain⟨a,dx,rfl,_⟩:=r;rfl
 case cls=>subst r;rfl
theorem sI:CallD X (.builtin "isinstance") (gIs "tuple" qG):=.isOf oF fun pp M H d v r f=>by
 cases d<;>first|cases f|skip
 all_goals simp only[Rep]at r
 case non=>subst r;rfl
 case bl=>subst r;rfl
 case int=>subst r;rfl
 case str=>subst r;rfl
 case tup=>obtain⟨a,xs,rfl,h,_⟩:=r;simp[fi,h,isTupO,qG]
 case lst=>obtain⟨a,xs,rfl,_,_,h,_⟩:=r;simp[fi,h,isTupO,qG]
 case dK=>obtain⟨a,xs,rfl,_,_,h,_⟩:=r;simp[fi,h,isTupO,qG]
 case dT=>obtain⟨a,xs,rfl,_,_,h,_⟩:=r;simp[fi,h,isTupO,qG]
def gLen:DSp:=fun ds P=>match ds with
 |[.tup xs]=>P (.int xs.length)
 |[.lst xs]=>P (.int xs.length)
 |_=>False
theorem ft:CallD X (.builtin "len") gLen:=by
 refine⟨fun ds P P' f h=>?_,_,xB,fun {pp} M H ds vs Q _ r h=>?_⟩
 ·unfold gLen at h ⊢;split at h
  ·exact f _ h
  ·exact f _ h
  ·exact h.elim
 ·unfold gLen at h;split at h
  case h_3=>exact h.elim
  ·simp only[Reps,Rep]at r
   obtain⟨x,r,rfl,⟨a,ys,rfl,ha,ry⟩,rfl⟩:=r
   exact⟨a,ys.length,rfl,by rw[ha];rfl,h H _ .refl (by rw[←ry.length];exact bE)⟩
  ·simp only[Reps,Rep]at r
   obtain⟨x,r,rfl,⟨a,ys,rfl,_,_,ha,ry⟩,rfl⟩:=r
   exact⟨a,ys.length,rfl,by rw[ha];rfl,h H _ .refl (by rw[←ry.length];exact bE)⟩
def CH:DSp:=fun ds P=>match ds with
 |[.int i]=>P (.int i)
 |[.bl b]=>P (.int (if b then 1 else 0))
 |_=>False
theorem ut:CallD X (.type "int") CH:=by
 refine⟨fun ds P P' f h=>?_,_,wZ,fun {pp} M H ds vs Q _ r h=>?_⟩
 ·unfold CH at h ⊢;split at h
  ·exact f _ h
  ·exact f _ h
  ·exact h.elim
 ·unfold CH at h;split at h
  case h_3=>exact h.elim
  ·rename_i i
   simp only[Reps,Rep]at r
   obtain⟨x,r,rfl,rfl,rfl⟩:=r
   exact .inl ⟨i,rfl,h H _ .refl bE⟩
  ·rename_i i
   simp only[Reps,Rep]at r
   obtain⟨x,r,rfl,rfl,rfl⟩:=r
   exact .inr ⟨i,rfl,h H _ .refl bE⟩
def qH:DSp:=fun ds P=>match ds with
 |[.tup xs]=>P (.tup xs)
 |[.lst xs]=>P (.tup xs)
 |_=>False
theorem bH:CallD X (.type "tuple") qH:=by
 refine⟨fun ds P P' f h=>?_,_,oB,fun {pp} M H ds vs Q _ r h=>?_⟩
 ·unfold qH at h ⊢;split at h
  ·exact f _ h
  ·exact f _ h
  ·exact h.elim
 ·unfold qH at h;split at h
  case h_3=>exact h.elim
  ·simp only[Reps]at r
   obtain⟨x,r,rfl,rx,rfl⟩:=r
   have rx':=rx
   simp only[Rep]at rx
   obtain⟨a,ys,rfl,ha,ry⟩:=rx
   exact⟨a,ys,rfl,.inr ⟨SqT.of ha,h H _ .refl rx'⟩⟩
  ·simp only[Reps,Rep]at r
   obtain⟨x,r,rfl,⟨a,ys,rfl,_,_,ha,ry⟩,rfl⟩:=r
   refine⟨a,ys,rfl,.inl ⟨SqL.of ha,fun l hl=>h _ _ (.new hl) ?_⟩⟩
   simp only[Rep]
   exact⟨l,ys,rfl,ak,ry.mv (.new hl)⟩
abbrev CI(te:DE):DA:=fun ρ Q=>te ρ fun d ρ'=>match d with
 |.tup xs=>Q xs ρ'
 |.lst xs=>Q xs ρ'
 |_=>False
theorem sJ{x:Str}{e:Expr}{p pos:Pos}{te:DE}(hg:Gl X x)(hm:X.mg x=none)(hv:bootBuiltins x=some (.type "list"))(he:PED X e te)(hn:x ≠ "__name__":=by decide)(hdb:(x == ("__debug__" : Str))=false:=by decide)
  (hs:starEach [e] X.env=(false,eval e X.env)::starEach [] X.env:=by rfl) (hpl:(backTo pos (starEach [] X.env)).any (·.1)=false:=by rfl):PLD X (.Call (.Name x p) [e] [] pos) (CI te):=by
 obtain⟨T,pa,ra⟩:=he.run
 refine⟨fun _ _ _ f h=>he.mono _ _ _ (fun d _ h=>?_) h,_,ir qq hg hm hv (bD pa cT hs) hn hdb hs hpl,fun {F} M H σ ρ Q rs h=>ra M H σ ρ _ rs (he.mono _ _ _ (fun d ρ1 h M1 H1 v m1 rs1 r1=>?_) h)⟩
 ·cases d<;>first|exact h.elim|exact f _ _ h
 ·cases d<;>first|exact h.elim|skip
  all_goals simp only[Rep]at r1
  case tup xs =>
   obtain⟨a,ys,rfl,ha,ry⟩:=r1
   exact⟨a,ys,rfl,.inr (SqT.of ha),fun l hl=>h M1 H1 _ l ys m1 rs1 hl rfl ry⟩
  case lst xs =>
   obtain⟨a,ys,rfl,_,_,ha,ry⟩:=r1
   exact⟨a,ys,rfl,.inl (SqL.of ha),fun l hl=>h M1 H1 _ l ys m1 rs1 hl rfl ry⟩
def opt(o:Option D)(P:D->Prop):Prop:=match o with
 |some d=>P d
 |none=>False
theorem uu{o:Option D}{P P':D->Prop}(f:∀d,P d->P' d)(h:opt o P):opt o P':=by cases o<;>first|exact h.elim|exact f _ h
theorem uv{o:Option D}{P:D->Prop}(h:opt o P):∃d,o=some d/\P d:=by cases o<;>first|exact h.elim|exact⟨_,rfl,h⟩
def gIx:D->D->(D->Prop)->Prop
 |.tup xs,.int i,P=>opt (atI xs i) P
 |.lst xs,.int i,P=>opt (atI xs i) P
 |_,_,_=>False
theorem sK{K:PySem.W.Frag}{M:List Addr}{H:Hp}{ds:List D}{xs:List V}{i:Int}{d:D}(r:Reps K pp M H ds xs)(h:atI ds i=some d):∃v,atI xs i=some v/\Rep K pp M H d v:=by
 unfold atI at h ⊢
 rw[r.length]at h
 cases q:ixN xs.length i with
 |none=>rw[q]at h;cases h
 |some j =>
  rw[q]at h
  obtain⟨v,e1,e2⟩:=r.get' (i:=j) h
  exact⟨v,e1,e2⟩
theorem ar{a b:Expr}{ta tb:DE}{pos:Pos}(ha:PED X a ta)(hb:PED X b tb)(hs:sn b):PED X (.Subscript a b pos) (dOp gIx ta tb):=by
 have gm:∀x y P P',(∀d,P d->P' d)->gIx x y P->gIx x y P':=fun x y P P' f h=>by
  cases x<;>first|exact h.elim|skip
  all_goals cases y<;>first|exact h.elim|exact uu f h
 obtain⟨Ta,pa,ra⟩:=ha.run
 obtain⟨Tb,pb,rb⟩:=hb.run
 refine⟨iB gm ha hb,_,xl (IxR.or Cq um) pa pb hs,fun {F} M H σ ρ Q rs h=>oK (fun M H x y v u Q _ rx ry h=>?_) gm ha hb ra rb rs h⟩
 cases x<;>first|exact h.elim|skip
 all_goals cases y<;>first|exact h.elim|skip
 all_goals
  obtain⟨d,e,h⟩:=uv h
  simp only[Rep]at rx ry
 ·obtain⟨p,xs,rfl,hp,r⟩:=rx
  obtain⟨z,e2,rz⟩:=sK r e
  exact .inl ⟨p,xs,_,z,rfl,ry,hp,e2,h H z .refl rz⟩
 ·obtain⟨p,xs,rfl,_,_,hp,r⟩:=rx
  obtain⟨z,e2,rz⟩:=sK r e
  exact .inr ⟨p,xs,_,z,rfl,ry,hp,e2,h H z .refl rz⟩
end
section
variable{X:Cx}{F:Fx}
def He(i:Nat)(E:DEnds)(ρ:DS)(d:D):Sl->Prop
 |.own ds=>ds.length<sizeLine/\E.nx (ρ.set i (.own (ds++[d])))
 |_=>False
def zV:Sl->Prop
 |.own _=>True
 |_=>False
abbrev dApp(i:Nat)(te:DE):DTS:=fun E ρ=>zV (slot ρ i)/\te ρ fun d ρ'=>He i E ρ' d (slot ρ' i)
theorem RSt.write{K:PySem.W.Frag}{M:List Addr}{H:Hp}{σ:St}{ρ:DS}{l:Addr}{ys:List V}{ds es:List D}{i:Nat}(r:RSt K F M H σ ρ)(h:ρ[i]? = some (.own ds))(hl:σ[i]? = some (some (.ref l)))(hd:Reps K F.pp M H es ys) :
  Mv K F.pp M H M (upd H l (.lst ys))/\RSt K F M (upd H l (.lst ys)) σ (ρ.set i (.own es)):=by
 obtain⟨l',xs,e,hm,h0,hp,hl',hr⟩:=r.sl i _ _ h hl
 cases e
 have m:Mv K F.pp M H M (upd H l (.lst ys)):=.write hl' hm hp
 refine⟨m,⟨by simp[r.len],fun j q o h1 h2=>?_,r.ow.step m i (fun _ _=>rfl) (fun j e=>zzC (Ne.symm e)) (fun A hA hB=>⟨A,fun s o e1 e2=>?_,fun b hb=>⟨(hB b hb).1,(hB b hb).2.1,(hB b hb).2.2,.inl hb⟩,fun a ha _ _ hn=>⟨ha,fun x e _=>?_⟩⟩),r.sub,?_,r.old,?_,r.lk.cl m⟩⟩
 ·by_cases e:i=j
  ·subst e
   rw[hl]at h2
   rw[aZ h1]
   cases h2
   exact⟨l,ys,rfl,hm,h0,hp,ak,hd.mv m⟩
  ·rw[zzC e]at h1
   have q':=r.sl j q o h1 h2
   cases q with
   |nil=>trivial
   |val d=>obtain⟨v,e,q⟩:=q';exact⟨v,e,q.mv m⟩
   |pin w d=>obtain⟨v,e,ew,q⟩:=q';exact⟨v,e,ew,q.mv m⟩
   |own es =>
    obtain⟨l',zs,rfl,hm',h0',hp',hl'',hr'⟩:=q'
    refine⟨l',zs,rfl,hm',h0',hp',?_,hr'.mv m⟩
    rw[aq]
    ·exact hl''
    ·rintro rfl
     exact e (r.own i j _ _ _ h h1 hl h2)
   |obj q=>exact q'
 ·rw[aZ e1]
  exact hA _ _ h e2
 ·obtain⟨l2,e2,e3⟩:=hA _ _ h hl
  cases e2
  rw[aq (by rintro rfl;exact hn (by rw[e3];simp))]
  exact e
 ·refine⟨fun b o e n=>?_,fun p e h=>m.pen p e (r.same.pen p e h),fun b e=>?_⟩
  ·rw[aq (by rintro rfl;rw[h0]at e;cases e)]
   exact r.same.keep b o e n
  ·by_cases z:b=l
   ·subst z;rw[ak];intro z;cases z
   ·rw[aq z];exact r.same.live b e
 ·refine⟨fun a ha=>?_,fun p e=>?_⟩
  ·by_cases z:a=l
   ·subst z;rw[ak];intro z;cases z
   ·rw[aq z];exact r.liv.m a ha
  ·by_cases z:p=l
   ·subst z;rw[ak];intro z;cases z
   ·rw[aq z];exact r.liv.p p e
theorem uw{i:Nat}{o e:Expr}{apos cpos pos:Pos}{te:DE}(ho:PE X o (tVar i))(he:PED X e te)
  (hbase:attributeBase o "append" X.env (eval o X.env)=eval o X.env:=by rfl)
  (hfew:((backTo cpos (starEach [e] X.env)).all (fun x=>!x.1) && (backToKw cpos (keywordEach [] X.env)).all (fun x=>x.1.isSome)
   && decide ([e].length+([]:List Keyword).length+(if ([]:List Keyword).isEmpty then 0 else 1)<30))=true:=by rfl)
  (hline:(apos.endLine == cpos.line)=true:=by rfl) (hst:starEach [e] X.env=(false,eval e X.env)::starEach [] X.env:=by rfl) (hpl:(backTo cpos (starEach [] X.env)).any (·.1)=false:=by rfl)
  (hs:swapsWith (.Call (.Attribute o "append" apos) [e] [] cpos) none pos.line X.env=pure false:=by rfl):PSD X (.Expr (.Call (.Attribute o "append" apos) [e] [] cpos) pos) (dApp i te):=by
 have hm:PE X (.Call (.Attribute o "append" apos) [e] [] cpos) (tBM X.K "list" xo (tVar i) (zE (Classical.choose he.run) tNil)):=xm zyS PySem.F.slot_list_append PySem.F.type_list_append lq ho (bD (zzI he.run).1 cT hst) hbase hfew hline hst hpl
 obtain⟨_,r⟩:=zzI he.run
 refine⟨_,oj hm hs,fun {F} M H σ ρ E D rs oo h=>?_⟩
 obtain⟨h0,h⟩:=h
 cases q:slot ρ i with
 |nil=>rw[q]at h0;exact h0.elim
 |val d=>rw[q]at h0;exact h0.elim
 |pin w d=>rw[q]at h0;exact h0.elim
 |obj z=>rw[q]at h0;exact h0.elim
 |own ds =>
  obtain⟨oo1,ho1,l,xs,rfl,hm1,h01,hp1,hl1,hr1⟩:=rs.at (aR q (by intro z;cases z))
  refine⟨.ref l,ho1,.inl ⟨rfl,xs,SqL.of hl1⟩,?_⟩
  refine r M H σ ρ _ rs (he.mono _ _ _ (fun d ρ' h M' H' v m rs' rd=>?_) h)
  cases q':slot ρ' i with
  |nil=>rw[q']at h;exact h.elim
  |val d=>rw[q']at h;exact h.elim
  |pin w d=>rw[q']at h;exact h.elim
  |obj z=>rw[q']at h;exact h.elim
  |own ds' =>
   rw[q']at h
   have g1:=aR q' (by intro z;cases z)
   obtain⟨l',xs',e',hm',h0',hp',hl',hr'⟩:=rs'.sl i _ _ g1 ho1
   cases e'
   obtain⟨m2,rs2⟩:=rs'.write g1 ho1 (hr'.append (.one rd))
   exact⟨l,xs',v,rfl,rfl,hl',by rw[←hr'.length];exact h.1,oo.nx M' _ _ _ (m.trans m2) rs2 h.2⟩
end
def we:DSp:=fun ds P=>match ds with
 |[.pen,.int m]=>(1 <= m/\m <= 10^60)/\∀r,0 <= r->r<m->P (.int r)
 |_=>False
theorem xI:bj we:=fun ds P P' f h=>by
 unfold we at h ⊢
 split at h
 ·exact⟨h.1,fun r h0 h1=>f _ (h.2 r h0 h1)⟩
 ·exact h.elim
theorem CJ{P:Program}{w:World}{K:PySem.W.Frag}{mg:Str->Option Value}{base:Heap}{k:Nat}{f:Addr}{fd:FuncData}{ps:List Str}(h:FnOk P w K mg base CX0 k f fd ps (xC K)):FnOk P w K mg base CX0 k f fd ps (spD K 2 we) :=
 h.imp fun vs H Q E h=>by
  obtain⟨pp,M,ds,lv,r,e,h⟩:=h
  unfold we at h
  split at h
  case h_2=>exact h.elim
  ·rename_i m
   obtain⟨⟨m1,m2⟩,h⟩:=h
   simp only[Reps,Rep]at r
   obtain⟨x,_,rfl,⟨p,rfl,ep,a,ns,t,l,pen⟩,y,_,rfl,rfl,rfl⟩:=r
   refine⟨p,a,ns,t,l,m,rfl,pen,m1,m2,fun r t' l' H' h0 h1 pen' sb=>h r h0 h1 H' _ ⟨⟨fun b o hb n=>?_,fun q e _=>?_,fun b hb=>?_⟩,fun tb=>tb.of fun b o e tf=>sb b o (by rintro rfl;rw[pen.lst]at e;cases e;exact oI tf) e⟩ bE⟩
   ·by_cases z:b=p
    ·subst z
     rw[pen.lst]at hb
     cases hb
     exact absurd rfl (n.1 ep _)
    ·exact sb b o z hb
   ·rw[ep]at e;cases e
    exact⟨a,ns,t',l',pen'⟩
   ·by_cases z:b=p
    ·subst z;rw[pen'.lst];intro z;cases z
    ·cases q:H b with
     |none=>exact absurd q hb
     |some o=>rw[sb b o z q];intro z;cases z
def spLaw(K:PySem.W.Frag):Sp:=fun vs H Q _=>∃a ns,vs=[.ref a]/\Scr K H a ns/\Tabs H/\∀H',Q (.bl true) H'
omit [TB] [Frm] in
theorem law_sp(K:PySem.W.Frag)(H:Hp)(a:Addr)(ns:List Int)(_:ns.length <= 63)(h1:Only H)(h:SqL K H a (ns.map V.int)) : @spLaw TB.none K [.ref a] H (fun v _=>v=.bl true) fun _ _ _=>False :=
 ⟨a,ns,rfl,EZ h1 h,fun _ _ e=>(by cases e),fun _=>rfl⟩
omit [Frm] in
theorem lawD{P:Program}{w:World}{K:PySem.W.Frag}{mg:Str->Option Value}{base:Heap}{st:Stmt}{f:Addr}{fd:FuncData}{N:List Str}{x:Str}{k:Nat}{t:DTS}{s1:Stmt}{rest:List Stmt}(Fn:Fun K "law" "law" st f fd)(S:FnScope N [x] (ah st))(hs:db st=s1::rest)(hN:2 <= N.length)
  (h1:∀(cdv:Value) (A:Around) (outer:List Env) (s:Shared) (H:Hp) (E:XK),Room k (A.deeper (envOfC "law" (ah st) s.heap.objs.size f cdv))->PS (cxOf CX0 P w K mg base N "law" (ah st) f cdv A outer s H E).nox s1 (tAsg (EE (Bj K) [] E0 (zE (tVar 0) tNil)) (wR 1)))
  (hb:∀(cdv:Value) (A:Around) (outer:List Env) (s:Shared) (H:Hp) (E:XK),Room k (A.deeper (envOfC "law" (ah st) s.heap.objs.size f cdv)) -> @PSsD _ Frm.free (cxOf CX0 P w K mg base N "law" (ah st) f cdv A outer s H E).nox rest t)
  (hg:t { nx:=fun _=>False,rt:=fun d=>d=.bl true } (.nil :: .val .pen::List.replicate (N.length - 2) .nil)):FnOk P w K mg base CX0 (k+1) f fd [x] (spLaw K):=by
 refine Fn.ok S (fun vs H Q E h=>?_) (fun cdv A outer s H vs Q E hr h=>?_)
 ·obtain⟨a,ns,rfl,_⟩:=h
  rfl
 ·obtain⟨a,ns,rfl,hs',hT,h⟩:=h
  rw[hs]
  refine⟨_,bA (u:=fun D σ H'=>∃p:Addr,@RSt _ Frm.free K ⟨some p,[],H'⟩ [] H' σ (.nil :: .val .pen::List.replicate (N.length - 2) .nil)/\∀H'',D.rt (.bl true) H'') (h1 cdv A outer s H E hr) ?_,?_⟩
  ·intro pins s' σ H' D I ⟨p,rs,q⟩
   obtain⟨T,pT,run⟩:=hb cdv A outer s H E hr
   refine pT pins s' σ H' D I (run [] H' σ _ { nx:=fun _=>False,rt:=fun d=>d=.bl true } D rs ⟨fun _ _ _ _ _ _ q=>q.elim,fun _ _ _ _ _ _ q=>q.elim,fun _ _ _ _ _ _ q=>q.elim,fun M2 H2 σ2 ρ2 d v _ _ rd e=>?_⟩ hg)
   subst e
   simp only[Rep]at rd
   subst rd
   exact q H2
  ·refine⟨.ref a,?_,a,ns,rfl,hs',fun p H' hp pen sm=>⟨p,⟨?_,fun i s o e1 e2=>?_,OwF.none (fun i s e1=>?_),fun a z=>by simp at z,.refl,fun a z=>by simp at z,⟨fun a z=>by simp at z,fun q e=>?_⟩,⟨trivial,hT.of fun b o e _=>sm b o e⟩⟩,h⟩⟩
   ·simp[L2.start]
   ·simp[L2.start];omega
   ·match i,e1 with
    |0,e1=>simp at e1;subst e1;trivial
    |1,e1 =>
     simp at e1
     subst e1
     have hi:1<(L2.start N [V.ref a]).length:=by simp[L2.start];omega
     simp[hi]at e2
     subst e2
     refine⟨_,rfl,?_⟩
     simp only[Rep]
     exact⟨p,rfl,rfl,a,ns,0,0,pen⟩
    |i+2,e1 =>
     have:=zyk (zzH (by simpa using e1))
     subst this
     trivial
   ·have:=zzH e1
    simp at this
    rcases this with rfl|rfl|⟨_,rfl⟩<;>exact⟨fun ds z=>(by cases z),fun q z=>(by cases z)⟩
   ·cases e
    rw[pen.lst];intro z;cases z
mutual
def toPy:D->PyData
 |.non=>.none
 |.bl b=>.bool b
 |.int i=>.int i
 |.str x=>.str x
 |.tup ds=>.tuple (lH ds)
 |.lst ds=>.list (lH ds)
 |.ty _=>.none
 |.dK _ _=>.none
 |.dT _ _=>.none
 |.pen=>.none
 |.exc _=>.none
 |.exa _ _=>.none
 |.cls _=>.none
def lH:List D->List PyData
 |[]=>[]
 |d::ds=>toPy d::lH ds
def pln:D->Bool
 |.pen=>false
 |.exc _=>false
 |.exa _ _=>false
 |.cls _=>false
 |.ty _=>false
 |.dK _ _=>false
 |.dT _ _=>false
 |.tup ds=>plns ds
 |.lst ds=>plns ds
 |_=>true
def plns:List D->Bool
 |[]=>true
 |d::ds=>pln d && plns ds
end
def eqD(x y:D):Bool:=PyData.eqv (toPy x) (toPy y)
def shp(d:D):Bool:=pln d && SeqAt.shaped (toPy d)
mutual
theorem eK{P:Program}{w:World}{K:PySem.W.Frag}{pp:Option Addr}{M:List Addr}{H:Hp}{h:Heap}(ok:HOk P w H h):∀(d:D) (v:V) (u:Value),pln d=true->Rep K pp M H d v->RelV v u->∃as,Reads h u (toPy d) as
 |.non,_,_,_,r,q=>by simp only[Rep]at r;subst r;cases q;exact⟨_,.none⟩
 |.bl b,_,_,_,r,q=>by simp only[Rep]at r;subst r;cases q;exact⟨_,.bool b⟩
 |.int i,_,_,_,r,q=>by simp only[Rep]at r;subst r;obtain⟨t,rfl⟩:=q;exact⟨_,.int i t⟩
 |.str x,_,_,_,r,q=>by simp only[Rep]at r;subst r;obtain⟨t,rfl⟩:=q;exact⟨_,.str x t⟩
 |.tup ds,_,_,p,r,q=>by
  simp only[Rep]at r
  obtain⟨a,xs,rfl,ha,r⟩:=r
  cases q
  obtain⟨_,its,vs,o,ho,hc,n,hd⟩:=ok a _ ha
  obtain⟨as,z⟩:=lI ok ds xs its (by simpa only[pln]using p) r vs
  exact⟨_,by rw[toPy];exact .tuple ho hc hd (by simpa using z)⟩
 |.lst ds,_,_,p,r,q=>by
  simp only[Rep]at r
  obtain⟨a,xs,rfl,_,_,ha,r⟩:=r
  cases q
  obtain⟨_,its,n,vs,ho⟩:=ok a _ ha
  obtain⟨as,z⟩:=lI ok ds xs its (by simpa only[pln]using p) r vs
  exact⟨_,by rw[toPy];exact .list ho rfl rfl (by simpa using z)⟩
 |.ty _,_,_,p,_,_=>by simp[pln]at p
 |.dK _ _,_,_,p,_,_=>by simp[pln]at p
 |.dT _ _,_,_,p,_,_=>by simp[pln]at p
 |.pen,_,_,p,_,_=>by simp[pln]at p
 |.exc _,_,_,p,_,_=>by simp[pln]at p
 |.exa _ _,_,_,p,_,_=>by simp[pln]at p
 |.cls _,_,_,p,_,_=>by simp[pln]at p
theorem lI{P:Program}{w:World}{K:PySem.W.Frag}{pp:Option Addr}{M:List Addr}{H:Hp}{h:Heap}(ok:HOk P w H h):∀(ds:List D) (vs:List V) (us:List Value),plns ds=true->Reps K pp M H ds vs->Vals vs us->∃as,ReadsAll h us (lH ds) as
 |[],_,_,_,r,q=>by simp only[Reps]at r;subst r;cases q;exact⟨_,.nil⟩
 |d::ds,_,_,p,r,q=>by
  simp only[Reps]at r
  obtain⟨x,r',rfl,r1,r2⟩:=r
  simp only[plns,zzK]at p
  cases q with
  |cons q1 q2 =>
   obtain⟨as,z1⟩:=eK ok d _ _ p.1 r1 q1
   obtain⟨bs,z2⟩:=lI ok ds _ _ p.2 r2 q2
   exact⟨_,by rw[lH];exact .cons z1 z2⟩
end
section
variable{X:Cx}{pp:Option Addr}{k:Nat}
def rEqD(K:PySem.W.Frag)(n:Bool):R2:=fun x y H Q=>∃pp M dx dy,Rep K pp M H dx x/\Rep K pp M H dy y/\shp dx=true/\shp dy=true/\Q (.bl (if n then !eqD dx dy else eqD dx dy)) H
theorem Fl(hr:Room k X.A):OpR X (compareOp .Eq) (rEqD X.K false):=by
 intro pins s σ H x y v u Q I rx ry h
 obtain⟨pp,M,dx,dy,r1,r2,s1,s2,q⟩:=h
 unfold shp at s1 s2
 rw[zzK]at s1 s2
 obtain⟨as,z1⟩:=eK I.hok dx x v s1.1 r1 rx
 obtain⟨bs,z2⟩:=eK I.hok dy y u s2.1 r2 ry
 exact SeqAt.compareEq_shaped z1 z2 s1.2 s2.2 (by have:=hr.un;omega) (cf I q rfl)
theorem Fm(hr:Room k X.A):OpR X (compareOp .NotEq) (rEqD X.K true):=by
 intro pins s σ H x y v u Q I rx ry h
 obtain⟨pp,M,dx,dy,r1,r2,s1,s2,q⟩:=h
 unfold shp at s1 s2
 rw[zzK]at s1 s2
 obtain⟨as,z1⟩:=eK I.hok dx x v s1.1 r1 rx
 obtain⟨bs,z2⟩:=eK I.hok dy y u s2.1 r2 ry
 exact SeqAt.compareNe_shaped z1 z2 s1.2 s2.2 (by have:=hr.un;omega) (cf I q rfl)
def gEq(n:Bool):D->D->(D->Prop)->Prop:=fun x y P=>(shp x=true/\shp y=true)/\P (.bl (if n then !eqD x y else eqD x y))
theorem eL(hr:Room k X.A):OpD X (compareOp .Eq) (gEq false) :=
 ⟨fun _ _ _ _ f h=>⟨h.1,f _ h.2⟩,_,Fl hr,fun {pp} M H x y v u Q _ rx ry h=>⟨pp,M,x,y,rx,ry,h.1.1,h.1.2,h.2 H _ .refl de⟩⟩
theorem kB(hr:Room k X.A):OpD X (compareOp .NotEq) (gEq true) :=
 ⟨fun _ _ _ _ f h=>⟨h.1,f _ h.2⟩,_,Fm hr,fun {pp} M H x y v u Q _ rx ry h=>⟨pp,M,x,y,rx,ry,h.1.1,h.1.2,h.2 H _ .refl de⟩⟩
end
section
variable{X:Cx}{F:Fx}{pp:Option Addr}
abbrev DO:=DS->(Option Int->DS->Prop)->Prop
structure POD(X:Cx)(e:Option Expr)(t:DO):Prop where
 mono:∀ρ P P',(∀b ρ',P b ρ'->P' b ρ')->t ρ P->t ρ P'
 run:∃T:TO,PO X e T/\∀{F:Fx} M H σ ρ (Q:Option Int->Hp->Prop),RSt X.K F M H σ ρ ->
  (t ρ fun o ρ'=>∀M' H',Mv X.K F.pp M H M' H'->RSt X.K F M' H' σ ρ'->Q o H')->T σ H Q
abbrev Fo:DO:=fun ρ Q=>Q none ρ
abbrev Bq(te:DE):DO:=fun ρ Q=>te ρ fun d ρ'=>match d with
 |.int i=>Q (some i) ρ'
 |_=>False
theorem sL:POD X none Fo:=⟨fun _ _ _ f h=>f _ _ h,_,sh,fun {F} M H σ ρ Q rs h=>h M H .refl rs⟩
theorem oM{e:Expr}{te:DE}(he:PED X e te):POD X (some e) (Bq te):=by
 obtain⟨T,p,r⟩:=he.run
 refine⟨fun _ _ _ f h=>he.mono _ _ _ (fun d _ h=>?_) h,_,Ci p,fun {F} M H σ ρ Q rs h=>r M H σ ρ _ rs (he.mono _ _ _ (fun d ρ' h M' H' v m rs' rd=>?_) h)⟩
 ·cases d<;>first|exact h.elim|exact f _ _ h
 ·cases d<;>first|exact h.elim|skip
  simp only[Rep]at rd
  exact⟨_,rd,h M' H' m rs'⟩
def cutD(xs:List D)(lo hi:Option Int):List D:=(xs.drop (HT.sIx xs.length 0 lo)).take (HT.sIx xs.length xs.length hi - HT.sIx xs.length 0 lo)
theorem Reps.cut{K:PySem.W.Frag}{M:List Addr}{H:Hp}{ds:List D}{xs:List V}(lo hi:Option Int)(r:Reps K pp M H ds xs):Reps K pp M H (cutD ds lo hi) (cutV xs lo hi):=by
 unfold cutD cutV
 rw[r.length]
 exact(r.drop _).take _
end
theorem qI{g:DG}{b:DTS}{E:DEnds}{ds:List D}(N:DS->Prop)(hn:∀ρ,N ρ->E.nx ρ)
  (hs:∀d∈ds,∀(ρ:DS) (X:DS->Prop),N ρ->(∀ρ',N ρ'->X ρ')->g d ρ fun ρ1=>b { E with nx:=X,ct:=X,bk:=E.nx } ρ1):∀ρ,N ρ->kA g b ds E ρ:=by
 induction ds with
 |nil=>exact hn
 |cons d r ih=>exact fun ρ h=>hs d zzd ρ _ h (ih fun d hd=>hs d (zzc _ hd))
theorem iD{g:DG}{b:DTS}{E:DEnds}{ds:List D}(N:List D->DS->Prop)(hn:∀ρ,N ds ρ->E.nx ρ)
  (hs:∀(pre:List D) (d:D) (post:List D) (ρ:DS) (X:DS->Prop),ds=pre++d::post->N pre ρ->(∀ρ',N (pre++[d]) ρ'->X ρ')->g d ρ fun ρ1=>b { E with nx:=X,ct:=X,bk:=E.nx } ρ1) (ρ:DS) (h:N [] ρ):kA g b ds E ρ:=by
 have key:∀(post pre:List D),ds=pre++post->∀ρ,N pre ρ->kA g b post E ρ:=by
  intro post
  induction post with
  |nil=>intro pre e ρ h;rw[zzM]at e;subst e;exact hn ρ h
  |cons d r ih=>intro pre e ρ h;exact hs pre d r ρ _ e h (ih (pre++[d]) (by rw[e,zyC];rfl))
 exact key ds [] rfl ρ h
theorem wf{c:DT}{b:DTS}{E:DEnds}(N:DS->Prop)(μ:DS->Nat)
  (hs:∀(ρ:DS) (X:DS->Prop),N ρ->(∀ρ',N ρ'->μ ρ'<μ ρ->X ρ')->c ρ fun k ρ'=>Br k (b { E with nx:=X,ct:=X,bk:=E.nx } ρ') (E.nx ρ')) (ρ:DS) (h:N ρ):Bn c b E ρ:=by
 have key:∀n ρ,N ρ->μ ρ<n->fm c b n E ρ:=by
  intro n
  induction n with
  |zero=>intro ρ _ h;exact absurd h (zyf _)
  |succ n ih=>intro ρ h hl;exact hs ρ _ h fun ρ' h' hl'=>ih ρ' h' (by omega)
 exact⟨_,key _ ρ h (Nat.lt_succ_self _)⟩
theorem Fp{α:Type}{xs:List α}{r:Int}(h0:0 <= r)(h1:r<xs.length):∃d,atI xs r=some d/\xs[r.toNat]? = some d:=by
 obtain⟨j,rfl⟩:=Int.eq_ofNat_of_zero_le h0
 have hj:j<xs.length:=by omega
 exact⟨xs[j],sk (by simp[hj]),by simp[hj]⟩
theorem CK{xs:List D}{r:Int}{Q:D->Prop}(h0:0 <= r)(h1:r<xs.length)(h:∀d∈xs,Q d):opt (atI xs r) Q:=by
 obtain⟨d,e,e2⟩:=Fp h0 h1
 rw[e]
 exact h d (zzH e2)
theorem eh{xs:List D}{r:Int}{d:D}{Q:D->Prop}(h0:0 <= r)(e:xs[r.toNat]? = some d)(h:Q d):opt (atI xs r) Q:=by
 obtain⟨j,rfl⟩:=Int.eq_ofNat_of_zero_le h0
 rw[sk (show xs[j]? = some d from e)]
 exact h
theorem cpow{i j:Int}(h:0 <= j/\j <= 1000000/\i.natAbs<2^64:=by decide):CPow i j:=h
theorem sz{n:Nat}(h:Nat.ble n 1000=true:=by rfl):n <= sizeLine:=zzk (Nat.le_of_ble_eq_true h) (by decide)
theorem bB{i j:Int}:eqD (.int i) (.int j)=decide (i=j):=by
 show (i == j)=_
 by_cases h:i=j<;>simp[h]
def Bd(n:Nat)(i:Int):Prop:=i.natAbs<2^n
theorem Bd.mono{m n:Nat}{i:Int}(h:Bd m i)(l:m <= n):Bd n i:=zzz h (Nat.pow_le_pow_right (by decide) l)
theorem Bd.le{m:Nat}{i j:Int}(h:Bd m j)(l:i.natAbs <= j.natAbs):Bd m i:=zzD l h
theorem Bd.big{m:Nat}{i:Int}(h:Bd m i)(l:m <= 8000):Big i:=xz (h.mono l)
theorem Bd.cmul{m n:Nat}{i j:Int}(h:Bd m i)(q:Bd n j)(l:m <= 8000:=by decide)(l':n <= 8000:=by decide):CMulB i j:=.inr (.inr ⟨h.big l,q.big l'⟩)
end DL
namespace DL
open PySem PySem.Spec L2
open PyProof.Rows hiding St
variable[TB]
def qJ:Sl->Sl
 |.own _=>.nil
 |.obj _=>.nil
 |s=>s
theorem gE(s:Sl):(∀ds,qJ s ≠ .own ds)/\∀q,qJ s ≠ .obj q:=by
 cases s<;>exact⟨fun ds z=>(by cases z),fun q z=>(by cases z)⟩
def cj(ρ:DS):DS:=ρ.map qJ
def Fq(ρ:DS):Option Nat->Sl
 |none=>.nil
 |some j=>qJ (slot ρ j)
def subD(js:List (Option Nat))(ρ:DS):DS:=js.map (Fq ρ)
def cE(g:DG)(tc:DT)(te:DE):List D->List D->DS->(List D->Prop)->Prop
 |[],acc,_,Q=>Q acc
 |d::r,acc,ρ,Q=>g d ρ fun ρ1=>tc ρ1 fun b ρ2=>Br b (te ρ2 fun y ρ3=>acc.length<sizeLine/\cE g tc te r (acc++[y]) (cj ρ3) Q) (cE g tc te r acc (cj ρ2) Q)
abbrev Hf(t:DA)(js:List (Option Nat))(g:DG)(tc:DT)(te:DE):DA:=fun ρ Q=>t ρ fun ds ρ1=>cE g tc te ds [] (subD js ρ1) fun ys=>Q ys ρ1
def delH(H:Hp)(a:Addr):Hp:=fun b=>if b=a then none else H b
theorem xJ{H:Hp}{a:Addr}:delH H a a=none:=by simp[delH]
theorem dQ{H:Hp}{a b:Addr}(h:b≠a):delH H a b=H b:=by simp[delH,h]
theorem Tabs.del{H:Hp}{l:Addr}{o:HO}(h:Tabs H)(hl:H l=some o)(ht:¬TF o):Tabs (delH H l) :=
 h.of fun b x e tf=>by
  rw[dQ]
  ·exact e
  ·rintro rfl
   rw[hl]at e;cases e
   exact ht tf
theorem zW{H:Hp}{a:Addr}{o:HO}(h:H a=some o):upd (delH H a) a o=H:=by
 funext b
 by_cases e:b=a
 ·subst e;rw[ak,h]
 ·rw[aq e,dQ e]
section
variable{X:Cx}{F:Fx}{K:PySem.W.Frag}{pp:Option Addr}
theorem RSt.rebase{M:List Addr}{H:Hp}{σ:St}{ρ:DS}(r:RSt K F M H σ ρ):RSt K ⟨F.pp,M,H⟩ M H σ (cj ρ):=by
 refine⟨by simp[cj,r.len],fun i s o h1 h2=>?_,OwF.none (fun i s h1=>?_),fun a h=>h,.refl,r.liv.m,r.liv0,⟨trivial,r.lk.t⟩⟩
 ·simp only[cj,zzn]at h1
  cases q:ρ[i]? with
  |none=>rw[q]at h1;cases h1
  |some s' =>
   rw[q]at h1
   cases h1
   have:=r.sl i s' o q h2
   cases s' with
   |nil=>trivial
   |val d=>exact this
   |pin w d=>exact this
   |own ds=>trivial
   |obj q=>trivial
 ·simp only[cj,zzn]at h1
  cases q:ρ[i]? with
  |none=>rw[q]at h1;cases h1
  |some s' =>
   rw[q]at h1
   cases h1
   exact gE s'
theorem RSt.writeFree{M:List Addr}{H:Hp}{σ:St}{ρ:DS}{D:Addr}{xs ys:List V}(r:RSt K ⟨F.pp,M,H⟩ M H σ (cj ρ))(hD:D∈M)(hp:F.pp≠some D)(h:H D=some (.lst xs)) :
  RSt K ⟨F.pp,M,upd H D (.lst ys)⟩ M (upd H D (.lst ys)) σ (cj ρ):=by
 have m:Mv K F.pp M H M (upd H D (.lst ys)):=.write h hD hp
 have lv:Lv0 F.pp M (upd H D (.lst ys)):=by
  refine⟨fun a ha=>?_,fun p e=>?_⟩
  ·by_cases z:a=D
   ·subst z;rw[ak];intro z;cases z
   ·rw[aq z];exact r.liv.m a ha
  ·by_cases z:p=D
   ·subst z;rw[ak];intro z;cases z
   ·rw[aq z];exact r.liv.p p e
 refine⟨r.len,fun i s o h1 h2=>?_,OwF.none (fun i s h1=>?_),fun a h=>h,.refl,lv.m,lv,⟨trivial,m.tb r.lk.t⟩⟩
 rotate_left
 ·simp only[cj,zzn]at h1
  cases q:ρ[i]? with
  |none=>rw[q]at h1;cases h1
  |some s' =>
   rw[q]at h1
   cases h1
   exact gE s'
 have q:=r.sl i s o h1 h2
 cases s with
 |nil=>trivial
 |val d=>obtain⟨v,e,q⟩:=q;exact⟨v,e,q.mv m⟩
 |pin w d=>obtain⟨v,e,ew,q⟩:=q;exact⟨v,e,ew,q.mv m⟩
 |obj z=>exact q
 |own ds =>
  exfalso
  simp only[cj,zzn]at h1
  cases q:ρ[i]? with
  |none=>rw[q]at h1;cases h1
  |some s'=>rw[q]at h1;cases s'<;>cases h1
theorem sM(ρ:DS):cj (cj ρ)=cj ρ:=by
 simp only[cj,zzh]
 refine zzp fun s _=>?_
 cases s<;>rfl
theorem nG(js:List (Option Nat))(ρ:DS):cj (subD js ρ)=subD js ρ:=by
 simp only[cj,subD,zzh]
 refine zzp fun o _=>?_
 cases o with
 |none=>rfl
 |some j=>simp only[Function.comp,Fq];cases slot ρ j<;>rfl
theorem RSt.block{M:List Addr}{H:Hp}{σ:St}{ρ:DS}{D:Addr}(r:RSt K F M H σ ρ)(js:List (Option Nat))(hD:H D=none) :
  RSt K ⟨F.pp,D::M,upd H D (.lst [])⟩ (D::M) (upd H D (.lst [])) (L2.sub js σ) (subD js ρ):=by
 have m:Mv K F.pp M H (D::M) (upd H D (.lst [])):=.newOwn hD
 have lv:Lv0 F.pp (D::M) (upd H D (.lst [])):=by
  refine⟨fun a ha=>?_,fun p e=>(SameP.new (K:=K) (pp:=F.pp) hD).live p (r.liv.p p e)⟩
  rcases zzi.mp ha with rfl|ha
  ·rw[ak];intro z;cases z
  ·exact(SameP.new (K:=K) (pp:=F.pp) hD).live a (r.liv.m a ha)
 refine⟨by simp[L2.sub,subD],fun i s o h1 h2=>?_,OwF.none (fun i s h1=>?_),fun a h=>h,.refl,lv.m,lv,⟨trivial,m.tb r.lk.t⟩⟩
 ·simp only[subD,zzn]at h1
  simp only[L2.sub,zzn]at h2
  cases q:js[i]? with
  |none=>rw[q]at h1;cases h1
  |some jo =>
   rw[q]at h1 h2
   cases h1
   cases h2
   cases jo with
   |none=>trivial
   |some j =>
    show RSl K _ _ _ (qJ (slot ρ j)) _
    cases e:slot ρ j with
    |nil=>trivial
    |own ds=>trivial
    |obj q=>trivial
    |val d =>
     obtain⟨o,ho,v,rfl,hr⟩:=r.at (aR e (by intro z;cases z))
     exact⟨v,by simp[sub1,ho],hr.mv m⟩
    |pin w d =>
     obtain⟨o,ho,v,rfl,ew,hr⟩:=r.at (aR e (by intro z;cases z))
     exact⟨v,by simp[sub1,ho],ew,hr.mv m⟩
 ·simp only[subD,zzn]at h1
  cases q:js[i]? with
  |none=>rw[q]at h1;cases h1
  |some jo =>
   rw[q]at h1
   cases jo with
   |none=>cases h1;exact⟨fun ds z=>(by cases z),fun q z=>(by cases z)⟩
   |some j =>
    cases h1
    exact gE (slot ρ j)
structure PTsD(X:Cx)(ifs:List Expr)(t:DT):Prop where
 mono:∀ρ P P',(∀b ρ',P b ρ'->P' b ρ')->t ρ P->t ρ P'
 run:∃T:TT,PTs X ifs T/\∀{F:Fx} M H σ ρ (Q:Bool->Hp->Prop),RSt X.K F M H σ ρ ->
  (t ρ fun b ρ'=>∀M' H',Mv X.K F.pp M H M' H'->RSt X.K F M' H' σ ρ'->Q b H')->T σ H Q
abbrev bP:DT:=fun ρ Q=>Q true ρ
theorem aL:PTsD X [] bP:=⟨fun _ _ _ f h=>f _ _ h,_,Ct,fun {F} M H σ ρ Q rs h=>h M H .refl rs⟩
theorem jm{c:Expr}{t:DT}(h:PTD X c t):PTsD X [c] t:=by
 obtain⟨T,p,r⟩:=h.run
 exact⟨h.mono,T,Cu p,r⟩
structure PCD(X:Cx)(e:Expr)(t:DA):Prop where
 mono:∀ρ P P',(∀d ρ',P d ρ'->P' d ρ')->t ρ P->t ρ P'
 run:∃T:TE,PE X e T/\(∀(i:Nat) (y:Str) (py spos:Pos),X.N.Nodup->X.N[i]? = some y->X.env.scope.names.lookup y=some .local->swapsWith e (some (.Name y py)) spos.line X.env=pure true->PS X (.Assign [.Name y py] e spos) (tAsg T (wR i))) /\
  ∀{F:Fx} M H σ ρ (Q:VK),RSt X.K F M H σ ρ ->
  (t ρ fun ds ρ'=>∀M' H1 H' l xs,Mv X.K F.pp M H M' H1->RSt X.K F M' H1 σ ρ'->H1 l=none->H'=upd H1 l (.lst xs)->Reps X.K F.pp M' H1 ds xs->Q (.ref l) H')->T σ H Q
theorem PCD.pld{e:Expr}{t:DA}(h:PCD X e t):PLD X e t:=by
 obtain⟨T,p,_,r⟩:=h.run
 exact⟨h.mono,T,p,r⟩
theorem jn{g:DG}{tc:DT}{te:DE}(hg:∀d ρ P P',(∀ρ',P ρ'->P' ρ')->g d ρ P->g d ρ P')(hc:∀ρ P P',(∀b ρ',P b ρ'->P' b ρ')->tc ρ P->tc ρ P')(he:∀ρ P P',(∀d ρ',P d ρ'->P' d ρ')->te ρ P->te ρ P'){Q Q':List D->Prop}(f:∀ys,Q ys->Q' ys) :
  ∀(ds acc:List D) (ρ:DS),cE g tc te ds acc ρ Q->cE g tc te ds acc ρ Q'
 |[],acc,ρ,h=>f _ h
 |d::r,acc,ρ,h=>hg _ _ _ _ (fun ρ1 h=>hc _ _ _ (fun b ρ2 h=>⟨fun e=>he _ _ _ (fun y ρ3 h=>⟨h.1,jn hg hc he f r _ _ h.2⟩) (h.yes e),fun e=>jn hg hc he f r _ _ (h.no e)⟩) h) h
theorem aA{tg elt iter:Expr}{ifs:List Expr}{scope:Scope}{cl:List (Str×Addr)}{N':List Str}{js:List (Option Nat)}{pos:Pos}{t:DA}{g:DG}{tc:DT}{te:DE}
  (hc:X.calm=true) (hclo:dA X.env.cells scope.names []=some cl) (hdis:∀y∈scope.names,y.2=.free->(y.1,NameKind.cell)∉scope.names) (hkind:scope.kind=.function) (cap:Cap X scope N' js)
  (hnames:∀y∈scope.names,y.2=.local->scope.names.lookup y.1=some .local) (hi:PID X tg iter t)
  (hg:∀B:Blk,PGD (cxB X scope cl N' B) tg g) (ht:∀B:Blk,PTsD (cxB X scope cl N' B) ifs tc) (he:∀B:Blk,PED (cxB X scope cl N' B) elt te)
  (hs:∀v,foldedSetIterable iter X.env v=pure v:=by intro _;rfl):PCD X (.ListComp elt [⟨tg,iter,ifs,0⟩] scope pos) (Hf t js g tc te):=by
 obtain⟨wi,pi,ri⟩:=hi.run
 have hb:∀B:Blk,PG (cxB X scope cl N' B) tg (Classical.choose (hg B).run)/\PTs (cxB X scope cl N' B) ifs (Classical.choose (ht B).run)/\PE (cxB X scope cl N' B) elt (Classical.choose (he B).run):=fun B =>
  ⟨(zzI (hg B).run).1,(zzI (ht B).run).1,(zzI (he B).run).1⟩
 let B0:Blk:=⟨0,X.s₀,X.H₀,[],[]⟩
 refine⟨fun _ _ _ f h=>hi.mono _ _ _ (fun ds ρ1 h=>jn (hg B0).mono (ht B0).mono (he B0).mono (fun ys h=>f _ _ h) _ _ _ h) h,_,Cw hc hclo hdis hkind cap hnames pi hb hs,fun i y py spos hN hy hl hsw=>Cy hN hy hl hc hclo hdis hkind cap hnames pi hb hsw hs,fun {F} M H σ ρ Q rs h=>?_⟩
 refine ri M H σ ρ _ rs (hi.mono _ _ _ (fun ds ρ1 h M1 H1 J m1 rs1 ok=>?_) h)
 intro B Dl hD
 obtain⟨_,rg⟩:=zzI (hg B).run
 obtain⟨_,rt⟩:=zzI (ht B).run
 obtain⟨_,re⟩:=zzI (he B).run
 have fr:=rs1.liv.fresh hD
 have m3:Mv X.K F.pp M1 H1 (Dl::M1) (upd H1 Dl (.lst [])):=.newOwn hD
 refine⟨fun i m σ' H'=>∃M' ρ' acc ys,m=ds.length - i/\i <= ds.length/\Mv X.K F.pp M1 H1 M' H'/\SameP X.K F.pp H1 H'/\RSt X.K ⟨F.pp,M',H'⟩ M' H' σ' (cj ρ')/\Dl∈M'/\(∀a∈M1,a∈M')/\H' Dl=some (.lst ys)/\Reps X.K F.pp M' H' acc ys /\
  cE g tc te (ds.drop i) acc (cj ρ') fun ys=>∀M' H1 H' l xs,Mv X.K F.pp M H M' H1->RSt X.K F M' H1 σ ρ1->H1 l=none->H'=upd H1 l (.lst xs)->Reps X.K F.pp M' H1 ys xs->Q (.ref l) H',
  ⟨ds.length,Dl::M1,subD js ρ1,[],[],rfl,zzG _,m3,.new hD,by rw[nG];exact rs1.block js hD,zzd,fun a ha=>zzc _ ha,ak,.nil,by rw[nG];exact h⟩,?_⟩
 rintro i m σ' H' ⟨M',ρ',acc,ys,rfl,hil,mv,sm,rs',hDm,hsub,hDl,ra,hcoll⟩
 by_cases hlt:i<ds.length
 ·have e1:ds[i]? = some ds[i]:=by simp[hlt]
  rw[List.drop_eq_getElem_cons hlt]at hcoll
  refine .inr ⟨ok.go M' H' mv i hlt,fun σ2 H2=>∃M2 ρ2 acc ys,Mv X.K F.pp M1 H1 M2 H2/\SameP X.K F.pp H1 H2/\RSt X.K ⟨F.pp,M2,H2⟩ M2 H2 σ2 (cj ρ2)/\Dl∈M2/\(∀a∈M1,a∈M2)/\H2 Dl=some (.lst ys)/\Reps X.K F.pp M2 H2 acc ys /\
   cE g tc te (ds.drop (i+1)) acc (cj ρ2) fun ys=>∀M' H1 H' l xs,Mv X.K F.pp M H M' H1->RSt X.K F M' H1 σ ρ1->H1 l=none->H'=upd H1 l (.lst xs)->Reps X.K F.pp M' H1 ys xs->Q (.ref l) H',
   fun σ2 H2 ⟨M2,ρ2,acc,ys,a1,a2,a3,a4,a5,a6,a7,a8⟩=>⟨ds.length - (i+1),by omega,M2,ρ2,acc,ys,rfl,hlt,a1,a2,a3,a4,a5,a6,a7,a8⟩,fun y H2 yl=>?_⟩
  obtain⟨sp,rx⟩:=ok.yld M' H' mv i _ y H2 e1 yl
  have rs'':RSt X.K ⟨F.pp,M',H2⟩ M' H2 σ' (cj ρ'):=by
   have:=(rs'.sameP sp).rebase
   rw[sM]at this
   exact this
  have mv2:=mv.trans (sp.mv (M:=M'))
  have sm2:=sm.trans sp
  have ra2:=ra.mv (sp.mv (M:=M'))
  have hDl2:H2 Dl=some (.lst ys):=sp.keep Dl _ hDl (nw fr.2)
  refine rg M' H2 σ' (cj ρ') _ _ _ rs'' rx ((hg B).mono _ _ _ _ (fun ρ3 h3 M3 H3 σ3 m3 rs3=>?_) hcoll)
  refine rt M3 H3 σ3 ρ3 _ rs3 ((ht B).mono _ _ _ (fun b ρ4 h4 M4 H4 m4 rs4=>?_) h3)
  -- what stands behind a step within this turn
  have keep:∀{M5:List Addr}{H5:Hp}{σ5:St}{ρ5:DS},Mv X.K F.pp M' H2 M5 H5->RSt X.K ⟨F.pp,M',H2⟩ M5 H5 σ5 ρ5->Mv X.K F.pp M1 H1 M5 H5/\SameP X.K F.pp H1 H5/\RSt X.K ⟨F.pp,M5,H5⟩ M5 H5 σ5 (cj ρ5)/\Dl∈M5/\(∀a∈M1,a∈M5)/\H5 Dl=some (.lst ys)/\Reps X.K F.pp M5 H5 acc ys:=fun mm rr =>
   ⟨mv2.trans mm,sm2.trans rr.sameT,rr.rebase,rr.sub _ hDm,fun a ha=>rr.sub _ (hsub a ha),rr.same.keep Dl _ hDl2 (nw fr.2),ra2.mv mm⟩
  cases b with
  |false =>
   refine iteF ?_
   obtain⟨a1,a2,a3,a4,a5,a6,a7⟩:=keep (m3.trans m4) rs4
   exact⟨M4,ρ4,acc,ys,a1,a2,a3,a4,a5,a6,a7,h4.no rfl⟩
  |true =>
   refine iteT (re M4 H4 σ3 ρ4 _ rs4 ((he B).mono _ _ _ (fun y ρ5 h5 M5 H5 v m5 rs5 r5=>?_) (h4.yes rfl)))
   obtain⟨a1,a2,a3,a4,a5,a6,a7⟩:=keep ((m3.trans m4).trans m5) rs5
   have mw:Mv X.K F.pp M5 H5 M5 (upd H5 Dl (.lst (ys++[v]))):=.write a6 a4 fr.2
   refine⟨ys,a6,by rw[←a7.length];exact h5.1,M5,ρ5,acc++[y],ys++[v],a1.trans mw,?_,a3.writeFree a4 fr.2 a6,a4,a5,ak,(a7.append (.one r5)).mv mw,h5.2⟩
   refine⟨⟨fun b o e n=>?_,fun p e hp=>mw.pen p e (a2.pen p e hp),fun b hb=>?_⟩,fun tb=>mw.tb (a2.tb tb)⟩
   ·rw[aq (by rintro rfl;rw[hD]at e;cases e)]
    exact a2.keep b o e n
   ·by_cases z:b=Dl
    ·subst z;rw[ak];intro z;cases z
    ·rw[aq z];exact a2.live b hb
 ·have e:i=ds.length:=by omega
  refine .inl ⟨ok.stop M' H' mv i (by omega),?_⟩
  have hd:ds.drop i=[]:=by rw[List.drop_eq_nil_iff];omega
  rw[hd]at hcoll
  have sd:SameP X.K F.pp H1 (delH H' Dl):=by
   refine⟨⟨fun b o e n=>?_,fun p e hp=>?_,fun b hb=>?_⟩,fun tb=>(sm.tb tb).del hDl oI⟩
   ·rw[dQ (by rintro rfl;rw[hD]at e;cases e)]
    exact sm.keep b o e n
   ·obtain⟨a,ns,t,l,pn⟩:=sm.pen p e hp
    have np:p≠Dl:=by rintro rfl;exact fr.2 e
    refine⟨a,ns,t,l,by rw[dQ np];exact pn.lst,?_,pn.t0⟩
    rcases pn.scr with ⟨o,q⟩|q
    ·exact .inl ⟨o,by rw[dQ (mW q hDl (by intro z;cases z))];exact q⟩
    ·exact .inr q
   ·rw[dQ (by rintro rfl;exact hb hD)]
    exact sm.live b hb
  have md:Mv X.K F.pp M' H' M1 (delH H' Dl):=by
   refine⟨fun a xs q=>by rw[dQ (mW q hDl (by intro z;cases z))];exact q,fun a o q n p=>⟨by rw[dQ (by rintro rfl;exact n hDm)];exact q,fun z=>n (hsub a z)⟩,fun p e hp=>?_,fun tb=>tb.del hDl oI⟩
   obtain⟨a,ns,t,l,pn⟩:=hp
   have np:p≠Dl:=by rintro rfl;exact fr.2 e
   refine⟨a,ns,t,l,by rw[dQ np];exact pn.lst,?_,pn.t0⟩
   rcases pn.scr with ⟨o,q⟩|q
   ·exact .inl ⟨o,by rw[dQ (mW q hDl (by intro z;cases z))];exact q⟩
   ·exact .inr q
  exact hcoll M1 (delH H' Dl) H' Dl ys (m1.trans sd.mv) (rs1.sameP sd) xJ (zW hDl).symm (ra.mv md)
theorem sN{e:Expr}{t:DA}{i:Nat}{y:Str}{py pos:Pos}(hN:X.N.Nodup)(hy:X.N[i]? = some y)(hl:X.env.scope.names.lookup y=some .local)(h:PCD X e t)(hsw:swapsWith e (some (.Name y py)) pos.line X.env=pure true:=by rfl):PSD X (.Assign [.Name y py] e pos) (dSet i (dFrz t)):=by
 obtain⟨T,_,p,r⟩:=h.run
 refine⟨_,p i y py pos hN hy hl hsw,fun {F} M H σ ρ E D rs o q=>r M H σ ρ _ rs (h.mono _ _ _ (fun ds ρ1 q M1 H1 H' l xs m1 rs1 hl e r1=>?_) q)⟩
 subst e
 refine o.nx M1 _ _ _ (m1.trans (.new hl)) ((rs1.sameP (.new hl)).set ?_ i) q
 simp only[Rep]
 exact⟨l,xs,rfl,(rs1.liv.fresh hl).1,(rs1.liv.fresh hl).2,ak,r1.mv (.new hl)⟩
end
end DL
namespace L2
open PySem PySem.Spec PyProof.Rows
section
variable{X:Cx}{tg:Expr}
theorem zX(hc:X.calm=true):dO X (.builtin "sum") (fun xs H Q=>∃(p:Addr) (ns:List Int),xs=[.ref p]/\SqL X.K H p (ns.map V.int)/\Q (.int ns.sum) H):=by
 intro pins s σ H xs us Q I r h
 obtain⟨p,ns,rfl,hl,q⟩:=h
 obtain⟨u,rfl,e⟩:=kw r
 cases e
 obtain⟨its,rv,pl,_⟩:=I.list hl
 have hi:IntsAre its ns:=vS rv
 obtain⟨ps,e⟩:=hi.allInts.items
 have il:=pl.isList
 rw[e]at il
 refine sum_intListG (I.ok.hd hc) il fun h' tk t' hk=>⟨.int ns.sum,H,I.kept hk,⟨t',?_⟩,q⟩
 have e2:numsOf its=ns:=hi.numsOf
 have e3:=nums_intItems ps
 rw[←e]at e3
 have e4:ps.toList.map (·.1)=ns:=by rw[←e3,←e2]
 rw[preSum_eq,zyY (by simp),e4]
def iSeq(K:PySem.W.Frag)(tl:TE):TI:=fun σ H R=>tl σ H fun x H1=>(∃a,x=.ref a/\(∃xs,SqL K H1 a xs)/\R (Itl K a) H1)∨(∃a,x=.ref a/\(∃xs,SqT K H1 a xs)/\R (Itt K a) H1)
theorem Fr{l:Expr}{tl:TE}(hl:PE X l tl):PI X tg l (iSeq X.K tl):=by
 intro pins s σ H R I h
 refine thn (hl pins s σ H _ I h) fun v s1 ⟨x,H1,I1,r1,q1⟩=>?_
 rcases q1 with ⟨a,rfl,⟨xs,hq⟩,q⟩|⟨a,rfl,⟨xs,hq⟩,q⟩
 ·cases r1
  obtain⟨its,rv,p,hz⟩:=I1.list hq
  refine wpAny_pyIter_list p.isList ⟨s1.heap.objs.size,[s1.heap.objs.size],_,_,H1,rfl,I1.kept (t':=s1.toks) (fun b o e=>zzf _ e),qg a _,⟨_,zzs _ rfl,rfl,rfl⟩,fun b hb=>?_,q⟩
  rw[show b=s1.heap.objs.size by simpa using hb]
  exact I1.fpOk (zzj _) (I1.hok.fresh (zzj _))
 ·cases r1
  obtain⟨its,rv,p,hz⟩:=I1.tuple hq
  refine wpAny_pyIter_tuple (show s1.heap.IsTuple a its.toArray from p) ⟨s1.heap.objs.size,[s1.heap.objs.size],_,_,H1,rfl,I1.kept (t':=s1.toks) (fun b o e=>zzf _ e),nB a _,⟨_,zzs _ rfl,rfl,rfl⟩,fun b hb=>?_,q⟩
  rw[show b=s1.heap.objs.size by simpa using hb]
  exact I1.fpOk (zzj _) (I1.hok.fresh (zzj _))
end
end L2
namespace DL
open PySem PySem.Spec L2
open PyProof.Rows hiding St
variable[TB]
variable[Frm]
section
variable{X:Cx}
def lJ:List D->Option (List Int)
 |[]=>some []
 |.int i::r=>(lJ r).map (i :: ·)
 |_=>none
theorem nH:∀ns:List Int,lJ (ns.map D.int)=some ns
 |[]=>rfl
 |n::r=>by simp[lJ,nH r]
theorem qK:∀{ds:List D}{ns:List Int},lJ ds=some ns->ds=ns.map D.int
 |[],ns,h=>by cases h;rfl
 |.int i::r,ns,h=>by
  simp only[lJ,zyB]at h
  obtain⟨ms,h,rfl⟩:=h
  rw[qK h];rfl
theorem qL{K:PySem.W.Frag}{pp:Option Addr}{M:List Addr}{H:Hp}:∀{ns:List Int}{xs:List V},Reps K pp M H (ns.map D.int) xs->xs=ns.map V.int
 |[],xs,h=>by simpa only[zzS,Reps]using h
 |n::r,xs,h=>by
  simp only[zze,Reps,Rep]at h
  obtain⟨x,t,rfl,rfl,h⟩:=h
  rw[qL h];rfl
def gSum:DSp:=fun ds P=>match ds with
 |[.lst xs]=>match lJ xs with
  |some ns=>P (.int ns.sum)
  |none=>False
 |_=>False
theorem lK{ns:List Int}{P:D->Prop}(h:P (.int ns.sum)):gSum [.lst (ns.map D.int)] P:=by
 unfold gSum
 simp only[nH]
 exact h
theorem ux{ds:List D}{P:D->Prop}(h:gSum ds P):∃ns:List Int,ds=[.lst (ns.map D.int)]/\P (.int ns.sum):=by
 unfold gSum at h
 split at h
 ·rename_i xs
  cases e:lJ xs with
  |none=>rw[e]at h;exact h.elim
  |some ns =>
   rw[e]at h
   exact⟨ns,by rw[qK e],h⟩
 ·exact h.elim
theorem uy(hc:X.calm=true:=by rfl):CallD X (.builtin "sum") gSum:=by
 refine⟨fun ds P P' f h=>?_,_,zX hc,fun {pp} M H ds vs Q _ r h=>?_⟩
 ·obtain⟨ns,rfl,h2⟩:=ux h
  exact lK (f _ h2)
 ·obtain⟨ns,rfl,h2⟩:=ux h
  simp only[Reps,Rep]at r
  obtain⟨x,_,rfl,⟨a,ys,rfl,_,_,ha,ry⟩,rfl⟩:=r
  refine⟨a,ns,rfl,SqL.of (by rw[ha,qL ry]),h2 H _ .refl bE⟩
abbrev Hg(te:DE):DA:=fun ρ Q=>te ρ fun d ρ'=>match d with
 |.lst ds=>Q ds ρ'
 |.tup ds=>Q ds ρ'
 |_=>False
theorem xK{tg l:Expr}{te:DE}(hl:PED X l te):PID X tg l (Hg te):=by
 obtain⟨T,p,r⟩:=hl.run
 refine⟨fun _ _ _ f h=>hl.mono _ _ _ (fun d _ h=>?_) h,_,Fr p,fun {F} M H σ ρ R rs h=>r M H σ ρ _ rs (hl.mono _ _ _ (fun d ρ' h M' H' v m rs' rd=>?_) h)⟩
 ·cases d<;>first|exact h.elim|exact f _ _ h
 ·cases d<;>first|exact h.elim|skip
  all_goals simp only[Rep]at rd
  case tup ds =>
   obtain⟨a,xs,rfl,ha,rd⟩:=rd
   refine .inr ⟨a,rfl,⟨xs,SqT.of ha⟩,h M' H' _ m rs' (ItOkV.of (vs:=xs) ⟨fun M2 H2 m2 i x H3 _ y=>?_,fun M2 H2 m2 i hi=>?_,fun M2 H2 m2 i hi=>?_⟩ rd)⟩
   ·exact⟨y.1,y.2 xs (SqT.of (m2.tup a xs ha))⟩
   ·exact⟨xs,xs[i],SqT.of (m2.tup a xs ha),by simp[hi]⟩
   ·exact⟨xs,SqT.of (m2.tup a xs ha),hi⟩
  case lst ds =>
   obtain⟨a,xs,rfl,hm,hp,ha,rd⟩:=rd
   refine .inl ⟨a,rfl,⟨xs,SqL.of ha⟩,h M' H' _ m rs' (ItOkV.of (vs:=xs) ⟨fun M2 H2 m2 i x H3 _ y=>?_,fun M2 H2 m2 i hi=>?_,fun M2 H2 m2 i hi=>?_⟩ rd)⟩
   ·exact⟨y.1,y.2 xs (SqL.of (m2.lst a xs ha hm hp).1)⟩
   ·exact⟨xs,xs[i],SqL.of (m2.lst a xs ha hm hp).1,by simp[hi]⟩
   ·exact⟨xs,SqL.of (m2.lst a xs ha hm hp).1,hi⟩
end
theorem bb{g:DG}{tc:DT}{te:DE}{ds:List D}{Q:List D->Prop}(N:List D->List D->DS->Prop)(hn:∀acc ρ,N ds acc ρ->Q acc)
  (hs:∀(pre:List D) (d:D) (post acc:List D) (ρ:DS) (Y:List D->DS->Prop),ds=pre++d::post->N pre acc ρ->(∀acc' ρ',N (pre++[d]) acc' (cj ρ')->Y acc' ρ') ->
   g d ρ fun ρ1=>tc ρ1 fun b ρ2=>Br b (te ρ2 fun y ρ3=>acc.length<sizeLine/\Y (acc++[y]) ρ3) (Y acc ρ2)) (ρ:DS) (h:N [] [] ρ):cE g tc te ds [] ρ Q:=by
 have key:∀(post pre acc:List D),ds=pre++post->∀ρ,N pre acc ρ->cE g tc te post acc ρ Q:=by
  intro post
  induction post with
  |nil=>intro pre acc e ρ h;rw[zzM]at e;subst e;exact hn acc ρ h
  |cons d r ih=>intro pre acc e ρ h;exact hs pre d r acc ρ (fun acc' ρ'=>cE g tc te r acc' (cj ρ') Q) e h (fun acc' ρ' h'=>ih (pre++[d]) acc' (by rw[e,zyC];rfl) _ h')
 exact key ds [] [] rfl ρ h
theorem bd{g:DG}{te:DE}{ds:List D}{Q:List D->Prop}(f:D->D)(N:DS->Prop)(hl:ds.length <= sizeLine)
  (hs:∀d∈ds,∀(ρ:DS) (Y:D->DS->Prop) (Z:DS->Prop),N ρ->(∀ρ',N (cj ρ')->Y (f d) ρ')->g d ρ fun ρ1=>bP ρ1 fun b ρ2=>Br b (te ρ2 Y) (Z ρ2)) (ρ:DS) (h:N ρ) (hq:Q (ds.map f)):cE g bP te ds [] ρ Q:=by
 refine bb (fun pre acc ρ=>acc=pre.map f/\N ρ) (fun acc ρ h=>by rw[h.1];exact hq) (fun pre d post acc ρ Y e hN hY=>?_) ρ ⟨rfl,h⟩
 obtain⟨rfl,hN⟩:=hN
 have hlt:(pre.map f).length<sizeLine:=by
  rw[zza]
  have:ds.length=pre.length+(post.length+1):=by rw[e];simp
  omega
 refine hs d (by rw[e];simp) ρ (fun y ρ3=>(pre.map f).length<sizeLine/\Y (pre.map f++[y]) ρ3) (fun ρ2=>Y (pre.map f) ρ2) hN fun ρ' h'=>⟨hlt,hY _ ρ' ⟨by simp,h'⟩⟩
structure Shp(n:Nat)(d:D):Prop where
 p:pln d=true
 c:(toPy d).canLay0=true
 d:(toPy d).depth <= n
theorem Shp.shp{n:Nat}{d:D}(h:Shp n d)(l:n <= 64:=by decide):shp d=true:=by
 unfold DL.shp SeqAt.shaped
 rw[h.p,h.c,decide_eq_true (zzk h.d l)];rfl
theorem Shp.int{i:Int}{n:Nat}:Shp n (.int i):=⟨rfl,rfl,zzG _⟩
theorem Shp.non{n:Nat}:Shp n .non:=⟨rfl,rfl,zzG _⟩
theorem sO{n:Nat}:∀{ds:List D},(∀d∈ds,Shp n d)->plns ds=true/\PyData.canLayAll0 (lH ds)=true/\PyData.depthAll (lH ds) <= n
 |[],_=>⟨rfl,rfl,zzG _⟩
 |d::ds,h=>by
  obtain⟨a,b,c⟩:=sO (ds:=ds) fun x hx=>h x (zzc _ hx)
  have q:=h d zzd
  refine⟨by simp only[plns,q.p,a,Bool.and_self],by simp only[lH,PyData.canLayAll0,q.c,b,Bool.and_self],?_⟩
  simp only[lH,PyData.depthAll]
  exact Nat.max_le.mpr ⟨q.d,c⟩
theorem Shp.tup{n:Nat}{ds:List D}(h:∀d∈ds,Shp n d):Shp (n+1) (.tup ds):=by
 obtain⟨a,b,c⟩:=sO h
 exact⟨by simp only[pln,a],by simp only[toPy,PyData.canLay0,b],by simp only[toPy,PyData.depth];omega⟩
theorem Shp.lst{n:Nat}{ds:List D}(h:∀d∈ds,Shp n d):Shp (n+1) (.lst ds):=by
 obtain⟨a,b,c⟩:=sO h
 exact⟨by simp only[pln,a],by simp only[toPy,PyData.canLay0,b],by simp only[toPy,PyData.depth];omega⟩
theorem uz{d:D}(h:shp d=true):eqD d d=true:=by
 unfold shp at h
 rw[zzK]at h
 exact SeqAt.eqv_refl _ (SeqAt.canLay_of_shaped h.2)
theorem Shp.pair{n:Nat}{i j:Int}:Shp (n+1) (.tup [.int i,.int j]):=.tup fun d hd=>by
 simp only[zzi,zzR,or_false]at hd
 rcases hd with rfl|rfl<;>exact .int
end DL
namespace DL
open PySem PySem.Spec L2
open PyProof.Rows hiding St
variable[TB]
section
variable[Frm]{X:Cx}{pos:Pos}
theorem lL{e tg:Expr}{te:DE}{g:DG}(he:PED X e te)(hg:PGD X tg g)(hs:swapsWithSole [tg] e pos.line X.env=pure false:=by rfl)(hw:swappedStores [tg] e X.env=pure none:=by rfl)
  (h1:(assignEach [tg] X.env).map (·.2)=[assign tg X.env]:=by rfl):PSD X (.Assign [tg] e pos) (dAsg te g) :=
 Fg he hg hs hw (qf (zzI he.run).1 (zzI hg.run).1 hs hw h1)
end
variable[Frm]
section
variable{X:Cx}
def CL:DSp:=fun ds P=>match ds with
 |[.int i,.int j]=>P (.int (if j<i then j else i))
 |_=>False
theorem Fs(hc:X.calm=true:=by rfl):CallD X (.builtin "min") CL:=by
 refine⟨fun ds P P' f h=>?_,_,wY hc,fun {pp} M H ds vs Q _ r h=>?_⟩
 ·unfold CL at h ⊢;split at h
  ·exact f _ h
  ·exact h.elim
 ·unfold CL at h;split at h
  case h_2=>exact h.elim
  ·rename_i i j
   simp only[Reps,Rep]at r
   obtain⟨x,r,rfl,rfl,y,r',rfl,rfl,rfl⟩:=r
   exact⟨i,j,rfl,h H _ .refl bE⟩
end
omit [Frm] in
theorem Br.dn{p:Prop}[Decidable p]{A B:Prop}(h:¬p)(b:B):Br (decide p) A B:=⟨fun z=>absurd (of_decide_eq_true z) h,fun _=>b⟩
omit [Frm] in
theorem Br.dt{p:Prop}[Decidable p]{A B:Prop}(h:p)(a:A):Br (decide p) A B:=⟨fun _=>a,fun z=>absurd h (of_decide_eq_false z)⟩
omit [Frm] in
theorem Br.di{p:Prop}[Decidable p]{A B:Prop}(a:p->A)(b:¬p->B):Br (decide p) A B:=⟨fun z=>a (of_decide_eq_true z),fun z=>b (of_decide_eq_false z)⟩
theorem iE{g:DG}{b:DTS}{E:DEnds}(N:Int->DS->Prop):∀(n:Nat) (lo:Int),(∀ρ,N (lo+n) ρ->E.nx ρ) ->
  (∀(k:Int) (ρ:DS) (X:DS->Prop),lo <= k->k<lo+n->N k ρ->(∀ρ',N (k+1) ρ'->X ρ')->g (.int k) ρ fun ρ1=>b { E with nx:=X,ct:=X,bk:=E.nx } ρ1)->∀ρ,N lo ρ->kA g b (eJ lo n) E ρ
 |0,lo,hn,_,ρ,h=>hn ρ (by simpa using h)
 |n+1,lo,hn,hs,ρ,h=>hs lo ρ _ (zyn _) (by omega) h fun ρ' h'=>iE N n (lo+1) (fun ρ h=>hn ρ (by rw[show lo+((n+1:Nat):Int)=lo+1+(n:Int) by omega];exact h)) (fun k ρ X h1 h2=>hs k ρ X (by omega) (by omega)) ρ' h'
end DL
namespace L2
open PySem PySem.Spec PyProof.Rows
section
variable{X:Cx}{pins:List (Addr×Obj)}{σ:St}{H:Hp}{s:Shared}{h':Heap}
theorem Inv.turnedN{ch:List Addr}{T:Addr}{o:HO}{t':Nat}(I:Inv X pins σ H s)(hf:∀b∈ch,FpOk X pins H b)(k:∀b u,b∉ch->s.heap.get? b=some u->h'.get? b=some u)(hT:s.heap.objs.size <= T)
  (new:ObjOk X.prog X.w (upd H T o) h' T o):Inv X pins σ (upd H T o) { s with heap:=h',toks:=t' }:=by
 have hn:=I.hok.fresh hT
 refine I.call' (s':={ s with heap:=h',toks:=t' }) (ch:=ch) rfl ⟨fun b u q _ _ hx=>k b u hx q,fun b u q _ _ hx=>⟨u.slots,k b u hx q⟩,fun b u q n _=>?_,fun b u q hx=>⟨u,k b u hx q⟩,fun b xs e=>?_,fun b p u e=>?_,fun b ps e=>⟨#[],?_⟩⟩ (fun a q e=>?_) I.bare
  (fun b hb=>⟨(hf b hb).2.2.2.1,(hf b hb).2.1,(hf b hb).2.2.2.2.1,(hf b hb).2.2.2.2.2⟩)
 ·rw[aq (zzA (zzz (zzq q) hT))];exact n
 ·rw[aq (by rintro rfl;rw[hn]at e;cases e)];exact e
 ·rw[aq (by rintro rfl;rw[hn]at e;cases e)];exact e
 ·rw[aq (by rintro rfl;rw[hn]at e;cases e)];simpa using e
 ·by_cases z:a=T
  ·subst z
   rw[ak]at e
   cases e
   exact new
  ·rw[aq z]at e
   refine ObjOk.stay (I.hok a q e) (fun b u hb q'=>k b u (fun hc=>?_) q') (fun b hb=>?_) (fun b xs hb=>?_)
   ·have:=(hf b hc).1
    rcases hb with rfl|hb
    ·rw[this]at e;cases e
    ·rw[this]at hb;cases hb
   ·rw[aq (by rintro rfl;rw[hn]at hb;cases hb)];exact hb
   ·rw[aq (by rintro rfl;rw[hn]at hb;cases hb)];exact hb
theorem Inv.turnedL{ch:List Addr}{t':Nat}(I:Inv X pins σ H s)(hf:∀b∈ch,FpOk X pins H b)(k:∀b u,b∉ch->s.heap.get? b=some u->h'.get? b=some u):Inv X pins σ H { s with heap:=h',toks:=t' }:=by
 refine I.call' (s':={ s with heap:=h',toks:=t' }) (ch:=ch) rfl ⟨fun b u q _ _ hx=>k b u hx q,fun b u q _ _ hx=>⟨u.slots,k b u hx q⟩,fun b u q n _=>n,fun b u q hx=>⟨u,k b u hx q⟩,fun b xs e=>e,fun b p u e=>e,fun b ps e=>⟨#[],by simpa using e⟩⟩ (fun a q e=>?_) I.bare
  (fun b hb=>⟨(hf b hb).2.2.2.1,(hf b hb).2.1,(hf b hb).2.2.2.2.1,(hf b hb).2.2.2.2.2⟩)
 refine ObjOk.stay (I.hok a q e) (fun b u hb q'=>k b u (fun hc=>?_) q') (fun b hb=>hb) (fun b xs hb=>hb)
 have:=(hf b hc).1
 rcases hb with rfl|hb
 ·rw[this]at e;cases e
 ·rw[this]at hb;cases hb
end
def Ite(K:PySem.W.Frag)(a:Addr):It :=
 ⟨fun i H=>∃xs x,SqL K H a xs/\xs[i]? = some x,fun i H x H'=>∃T y,H T=none/\x=.ref T/\(∀xs,SqL K H a xs->xs[i]? = some y)/\H'=upd H T (.tup [.int i,y]),fun i H=>∃xs,SqL K H a xs/\xs.length <= i⟩
theorem uA{h:Heap}{a b:Addr}{its:Array Value}{o:Obj}{n:String}(hl:h.IsList a its)(ho:h.get? b=some o)(hc:o.cls=.type n)(hn:n ≠ "list"):a≠b:=by
 rintro rfl
 obtain⟨o',e,c,_⟩:=hl
 rw[ho]at e
 cases e
 rw[hc]at c
 cases c
 exact hn rfl
theorem xL{P:Program}{w:World}{K:PySem.W.Frag}{elts:List Expr}{k:Nat}{tp:Pos}(a e it:Addr)(hei:e≠it):Turn P w K (.Tuple elts k tp) (Ite K a) [e,it] e (fun i h=>(∃old,IsEnum h e it i old)/\h.IsListIter it a i) where
 mem:=by simp
 obj:=fun i h st b hb=>by
  obtain⟨⟨old,he⟩,ho⟩:=st
  rcases zzi.mp hb with rfl|hb
  ·exact⟨_,he,fun v z=>by
    have z':Data.fields _=Data.cell v:=z
    cases z'⟩
  ·have:b=it:=by simpa using hb
   subst this
   obtain⟨o,eo,c,d⟩:=ho
   exact⟨o,eo,fun v z=>by rw[d]at z;cases z⟩
 keep:=fun i h h' st k=>⟨let ⟨old,he⟩:=st.1;⟨old,k e (by simp) _ he⟩,st.2.at fun o x=>k it (by simp) o x⟩
 item:=by
  intro X hP hw hK hc i pins s σ H E I hf st hg
  subst hP hw hK
  obtain⟨xs,x,hq,hx⟩:=hg
  obtain⟨its,rv,p,hz⟩:=I.list hq
  obtain⟨u,hu,ru⟩:=rv.get hx
  obtain⟨⟨old,he⟩,hit⟩:=st
  have hae:a≠e:=uA p.isList he rfl (by decide)
  have hai:a≠it:=by
   obtain⟨o,eo,c,d⟩:=id hit
   exact uA p.isList eo c (by decide)
  have W:=WalksT.enumerate (prog:=X.prog) (w:=X.w) (I.ok.hd hc) e it a hei hae hai its.toArray
  have hi:i<its.toArray.size:=by
   have:=(zzt.mp hu).1
   simpa using this
  refine W.item i s _ _ hi ⟨⟨old,he⟩,hit,p.isList⟩ fun T vals h1 tk hP hT hIs hMid hk=>?_
  obtain⟨t,z,hz',rfl⟩:=hP
  have ezu:z=u:=by
   have:its.toArray[i]? = some u:=by simpa using hu
   rw[this]at hz'
   cases hz'
   rfl
  subst ezu
  have ap:=W.apart i T h1 hMid
  refine⟨_,rfl,W.go elts k tp i T { s with heap:=h1,toks:=tk } _ _ hMid fun h2 st2 hk2=>?_⟩
  obtain⟨st21,st22,_⟩:=st2
  have I2:Inv X pins σ (upd H T (.tup [.int i,x])) { s with heap:=h2,toks:=tk }:=by
   refine I.turnedN (ch:=[e,it]) hf (fun b o hb q=>hk2 b o hb (hk b o hb q)) hT ⟨?_,[.int i t,z],.cons ⟨t,rfl⟩ (.cons ru .nil),?_⟩
   ·exact⟨by show 2 <= sizeLine;decide,.inr ⟨_,_,rfl⟩⟩
   ·obtain⟨o,eo,r⟩:=hIs
    exact⟨o,hk2 T o ap eo,r⟩
  refine⟨.ref T,_,I2,rfl,⟨T,x,I.hok.fresh hT,rfl,fun ys hy=>by rw[I.list_inj hy hq];exact hx,rfl⟩,⟨by simpa using st21,st22⟩,fun b hb=>?_⟩
  have fb:=hf b hb
  rw[aq]
  ·exact fb.1
  ·rintro rfl
   exact ap hb
 done:=by
  intro X hP hw hK hc i pins s σ H E I hf st hg
  subst hP hw hK
  obtain⟨xs,hq,hx⟩:=hg
  obtain⟨its,rv,p,hz⟩:=I.list hq
  obtain⟨⟨old,he⟩,hit⟩:=st
  have hl:=rv.length
  refine wpAny_pyNext_enum_end (I.ok.hd hc) he hit p.isList (by simp;omega) fun h1 hx1=>⟨rfl,?_⟩
  exact I.turnedL (t':=s.toks) (ch:=[e,it]) hf fun b o hb q=>hx1 b o (fun z=>hb (by simp[z])) q
 self:=fun _ _ _ _ _ st h=>let ⟨_,he⟩:=st.1;wpAny_pyIter_enum he h
theorem qM:bootBuiltins "enumerate" = some (.type "enumerate"):=by decide +kernel
theorem uB:bootBuiltins "zip" = some (.type "zip"):=by decide +kernel
section
variable{X:Cx}
def Hh(K:PySem.W.Frag)(ta:TA):TI:=fun σ H R=>ta σ H fun vs H1=>∃a,vs=[.ref a]/\(∃xs,SqL K H1 a xs)/\R (Ite K a) H1
theorem CM{l:Expr}{ta:TA}{p pos tp:Pos}{elts:List Expr}{k:Nat}(hg:Gl X "enumerate")(hm:X.mg "enumerate" = none)(ha:PA X [l] ta)(he:starEach [l] X.env=(false,eval l X.env)::starEach [] X.env:=by rfl)(hpl:(backTo pos (starEach [] X.env)).any (·.1)=false:=by rfl) :
  PI X (.Tuple elts k tp) (.Call (.Name "enumerate" p) [l] [] pos) (Hh X.K ta):=by
 intro pins s σ H R I h
 refine Call_ (gw I hg hm qM (PyProof.Rows.callWith_type1 (thn (ha pos pins s σ H _ I h) fun us s1 ⟨vs,H1,I1,r1,q1⟩=>?_) he hpl))
 obtain⟨a,e,⟨xs,hq⟩,q⟩:=q1
 subst e
 obtain⟨u,rfl,ru⟩:=r1.one
 cases ru
 obtain⟨its,rv,pl,hz⟩:=I1.list hq
 refine call_enumerate_list pl.isList fun h1 hE hit hsz hk=>?_
 refine wpAny_pyIter_enum hE ?_
 have ne:s1.heap.objs.size+1≠s1.heap.objs.size:=by omega
 refine⟨_,[s1.heap.objs.size+1,s1.heap.objs.size],_,Ite X.K a,H1,rfl,I1.kept (t':=s1.toks) hk,xL a _ _ ne,⟨⟨_,hE⟩,hit⟩,fun b hb=>?_,q⟩
 rcases zzi.mp hb with rfl|hb
 ·exact I1.fpOk (Nat.le_succ _) (I1.hok.fresh (Nat.le_succ _))
 ·have:b=s1.heap.objs.size:=by simpa using hb
  subst this
  exact I1.fpOk (zzj _) (I1.hok.fresh (zzj _))
end
end L2
namespace DL
open PySem PySem.Spec L2
open PyProof.Rows hiding St
variable[TB]
variable[Frm]
section
variable{X:Cx}{F:Fx}
def lM(k:Nat):List D->List D
 |[]=>[]
 |d::r=>.tup [.int k,d]::lM (k+1) r
omit [Frm] in
theorem cM:∀(ds:List D) (k:Nat),(lM k ds).length=ds.length
 |[],_=>rfl
 |_::r,k=>by simp[lM,cM r]
omit [Frm] in
theorem lN:∀(ds:List D) (k i:Nat) (d:D),(lM k ds)[i]? = some d->∃e,ds[i]? = some e/\d=.tup [.int ((k+i:Nat):Int),e]
 |[],_,i,d,h=>by simp[lM]at h
 |e::r,k,0,d,h=>by
  simp[lM]at h
  exact⟨e,rfl,h.symm⟩
 |e::r,k,i+1,d,h=>by
  simp only[lM,List.getElem?_cons_succ]at h ⊢
  obtain⟨e',h1,h2⟩:=lN r (k+1) i d h
  exact⟨e',h1,by rw[h2];congr 3;congr 1;omega⟩
def zipD:List D->List D->List D
 |x::xs,y::ys=>.tup [x,y]::zipD xs ys
 |_,_=>[]
omit [Frm] in
theorem eM:∀(xs ys:List D),(zipD xs ys).length=min xs.length ys.length
 |[],_=>by simp[zipD]
 |_::_,[]=>by simp[zipD]
 |_::xs,_::ys=>by simp[zipD,eM xs ys]
omit [Frm] in
theorem oN:∀(xs ys:List D) (i:Nat) (d:D),(zipD xs ys)[i]? = some d->∃x y,xs[i]? = some x/\ys[i]? = some y/\d=.tup [x,y]
 |[],_,i,d,h=>by simp[zipD]at h
 |_::_,[],i,d,h=>by simp[zipD]at h
 |x::xs,y::ys,0,d,h=>by
  simp[zipD]at h
  exact⟨x,y,rfl,rfl,h.symm⟩
 |x::xs,y::ys,i+1,d,h=>by
  simp only[zipD,List.getElem?_cons_succ]at h ⊢
  exact oN xs ys i d h
abbrev Ft(t:DA):DA:=fun ρ Q=>t ρ fun ds ρ'=>match ds with
 |[.lst xs]=>Q (lM 0 xs) ρ'
 |_=>False
theorem CN{l:Expr}{tl:DA}{p pos tp:Pos}{elts:List Expr}{k:Nat}(hg:Gl X "enumerate")(hm:X.mg "enumerate" = none)(ha:PAD X [l] tl)(he:starEach [l] X.env=(false,eval l X.env)::starEach [] X.env:=by rfl)(hpl:(backTo pos (starEach [] X.env)).any (·.1)=false:=by rfl) :
  PID X (.Tuple elts k tp) (.Call (.Name "enumerate" p) [l] [] pos) (Ft tl):=by
 obtain⟨T,pa,r⟩:=ha.run
 refine⟨fun _ _ _ f h=>ha.mono _ _ _ (fun d _ h=>?_) h,_,CM hg hm pa he hpl,fun {F} M H σ ρ R rs h=>r M H σ ρ _ rs (ha.mono _ _ _ (fun d ρ' h M' H' v m rs' rd=>?_) h)⟩
 ·split at h
  ·exact f _ _ h
  ·exact h.elim
 ·split at h
  case h_2=>exact h.elim
  rename_i ds
  simp only[Reps,Rep]at rd
  obtain⟨x,r0,rfl,⟨a,xs,rfl,hm,hp,ha,rd⟩,rfl⟩:=rd
  refine⟨a,rfl,⟨xs,SqL.of ha⟩,h M' H' _ m rs' ⟨fun M2 H2 m2 i d y H3 e yl=>?_,fun M2 H2 m2 i hi=>?_,fun M2 H2 m2 i hi=>?_⟩⟩
  ·obtain⟨T,z,hT,rfl,hz,rfl⟩:=yl
   obtain⟨d',hd',rfl⟩:=lN ds 0 i d e
   obtain⟨v',hv',rv'⟩:=rd.get' hd'
   have:=hz xs (SqL.of (m2.lst a xs ha hm hp).1)
   rw[hv']at this
   cases this
   refine⟨.new hT,?_⟩
   simp only[Rep]
   exact⟨T,_,rfl,ak,.cons (by rw[Nat.zero_add];exact bE) (.one ((rv'.mv m2).mv (.new hT)))⟩
  ·have hi':i<xs.length:=by rw[←rd.length,←cM ds 0];exact hi
   exact⟨xs,xs[i],SqL.of (m2.lst a xs ha hm hp).1,by simp[hi']⟩
  ·exact⟨xs,SqL.of (m2.lst a xs ha hm hp).1,by rw[←rd.length,←cM ds 0];exact hi⟩
def Fu(k:Nat)(d:D)(ρ:DS)(Q:DS->Prop)(j:D):Sl->Prop
 |.own ds=>match j with
  |.int i=>∃n,ixN ds.length i=some n/\Q (ρ.set k (.own (ds.set n d)))
  |_=>False
 |_=>False
abbrev Hi(k:Nat)(ti:DE):DG:=fun d ρ Q=>zV (slot ρ k)/\ti ρ fun j ρ'=>Fu k d ρ' Q j (slot ρ' k)
theorem uC{k:Nat}{o i:Expr}{ti:DE}{pos:Pos}(ho:PE X o (tVar k))(hi:PED X i ti)
  (ha:∀v,assign (.Subscript o i pos) X.env v=(do
   let ov ←holding [v] (eval o X.env)
   let iv ←holding [v,ov] (eval i X.env)
   standAt pos
   holding [v,ov,iv] (setItem ov iv v)
   release [v,ov,iv] []):=by intro _;rfl):PGD X (.Subscript o i pos) (Hi k ti):=by
 obtain⟨T,p,r⟩:=hi.run
 refine⟨fun d ρ P P' f h=>⟨h.1,hi.mono _ _ _ (fun j ρ' h=>?_) h.2⟩,_,wU ho p ou ha,fun {F} M H σ ρ d v Q rs rd h=>?_⟩
 ·cases q:slot ρ' k with
  |nil=>rw[q]at h;exact h.elim
  |val d=>rw[q]at h;exact h.elim
  |pin w d=>rw[q]at h;exact h.elim
  |obj z=>rw[q]at h;exact h.elim
  |own ds =>
   rw[q]at h
   cases j<;>first|exact h.elim | (obtain⟨n,e,h⟩:=h;exact⟨n,e,f _ h⟩)
 ·obtain⟨h0,h⟩:=h
  cases q:slot ρ k with
  |nil=>rw[q]at h0;exact h0.elim
  |val d=>rw[q]at h0;exact h0.elim
  |pin w d=>rw[q]at h0;exact h0.elim
  |obj z=>rw[q]at h0;exact h0.elim
  |own ds =>
   obtain⟨oo1,ho1,l,xs,rfl,hm1,h01,hp1,hl1,hr1⟩:=rs.at (aR q (by intro z;cases z))
   refine⟨.ref l,ho1,?_⟩
   refine r M H σ ρ _ rs (hi.mono _ _ _ (fun j ρ' h M' H' w m rs' rj=>?_) h)
   cases q':slot ρ' k with
   |nil=>rw[q']at h;exact h.elim
   |val d=>rw[q']at h;exact h.elim
   |pin w d=>rw[q']at h;exact h.elim
   |obj z=>rw[q']at h;exact h.elim
   |own ds' =>
    rw[q']at h
    cases j<;>first|exact h.elim|skip
    rename_i j
    obtain⟨n,e,h⟩:=h
    have g1:=aR q' (by intro z;cases z)
    obtain⟨l',xs',e',hm',h0',hp',hl',hr'⟩:=rs'.sl k _ _ g1 ho1
    cases e'
    simp only[Rep]at rj
    subst rj
    obtain⟨m2,rs2⟩:=rs'.write g1 ho1 (hr'.set (rd.mv m) n)
    exact⟨l,xs',j,n,rfl,rfl,hl',by rw[←hr'.length];exact e,h M' _ _ (m.trans m2) rs2⟩
omit [Frm] in
theorem uD{n:Nat}{i:Int}(h0:0 <= i)(h:i<n):ixN n i=some i.toNat:=by
 unfold ixN
 rw[if_pos h0,if_pos h]
def dIxS(ρ:DS)(Q:D->DS->Prop)(j:D):Sl->Prop
 |.own ds=>gIx (.lst ds) j fun d=>Q d ρ
 |_=>False
abbrev dIxO(k:Nat)(ti:DE):DE:=fun ρ Q=>zV (slot ρ k)/\ti ρ fun j ρ'=>dIxS ρ' Q j (slot ρ' k)
theorem uE{k:Nat}{a b:Expr}{tb:DE}{pos:Pos}(ha:PE X a (tVar k))(hb:PED X b tb)(hs:sn b):PED X (.Subscript a b pos) (dIxO k tb):=by
 obtain⟨T,p,r⟩:=hb.run
 refine⟨fun ρ P P' f h=>⟨h.1,hb.mono _ _ _ (fun j ρ' h=>?_) h.2⟩,_,xl um ha p hs,fun {F} M H σ ρ Q rs h=>?_⟩
 ·cases q:slot ρ' k with
  |nil=>rw[q]at h;exact h.elim
  |val d=>rw[q]at h;exact h.elim
  |pin w d=>rw[q]at h;exact h.elim
  |obj z=>rw[q]at h;exact h.elim
  |own ds =>
   rw[q]at h
   cases j<;>first|exact h.elim|exact uu (fun _ h=>f _ _ h) h
 ·obtain⟨h0,h⟩:=h
  cases q:slot ρ k with
  |nil=>rw[q]at h0;exact h0.elim
  |val d=>rw[q]at h0;exact h0.elim
  |pin w d=>rw[q]at h0;exact h0.elim
  |obj z=>rw[q]at h0;exact h0.elim
  |own ds =>
   obtain⟨oo1,ho1,l,xs,rfl,hm1,h01,hp1,hl1,hr1⟩:=rs.at (aR q (by intro z;cases z))
   refine⟨.ref l,ho1,?_⟩
   refine r M H σ ρ _ rs (hb.mono _ _ _ (fun j ρ' h M' H' w m rs' rj=>?_) h)
   cases q':slot ρ' k with
   |nil=>rw[q']at h;exact h.elim
   |val d=>rw[q']at h;exact h.elim
   |pin w d=>rw[q']at h;exact h.elim
   |obj z=>rw[q']at h;exact h.elim
   |own ds' =>
    rw[q']at h
    cases j<;>first|exact h.elim|skip
    rename_i j
    obtain⟨d,e,h⟩:=uv h
    have g1:=aR q' (by intro z;cases z)
    obtain⟨l',xs',e',hm',h0',hp',hl',hr'⟩:=rs'.sl k _ _ g1 ho1
    cases e'
    simp only[Rep]at rj
    subst rj
    obtain⟨v,e2,rv⟩:=sK hr' e
    exact⟨l,xs',j,v,rfl,rfl,hl',e2,h M' H' v m rs' rv⟩
end
end DL
namespace DL
open PySem PySem.Spec L2
open PyProof.Rows hiding St
variable[TB]
abbrev DTN:=(D->Prop)->(List D->Prop)->DS->Prop
section
variable[Frm]
structure EN(K:PySem.W.Frag)(F:Fx)(M:List Addr)(H:Hp)(Q:D->Prop)(L:List D->Prop)(D:Ends):Prop where
 rt:∀M' H' σ' ρ' d v,Mv K F.pp M H M' H'->RSt K F M' H' σ' ρ'->Rep K F.pp M' H' d v->Q d->D.rt v H'
 nx:∀M' H' σ' ρ',Mv K F.pp M H M' H'->RSt K F M' H' σ' ρ'->Q .non->D.nx σ' H'
 nw:∀M' H' ds l xs,SameP K F.pp F.H0 H'->(∀a∈F.M0,a∈M')->F.H0 l=none->F.pp≠some l->l∈M'->H' l=some (.lst xs)->Reps K F.pp M' H' ds xs->L ds->D.rt (.ref l) H'
theorem EN.mv{K:PySem.W.Frag}{F:Fx}{M M1:List Addr}{H H1:Hp}{Q:DL.D->Prop}{L:List DL.D->Prop}{D:Ends}(o:EN K F M H Q L D)(m:Mv K F.pp M H M1 H1):EN K F M1 H1 Q L D :=
 ⟨fun _ _ _ _ _ _ m'=>o.rt _ _ _ _ _ _ (m.trans m'),fun _ _ _ _ m'=>o.nx _ _ _ _ (m.trans m'),o.nw⟩
def PSsN(X:Cx)(st:List Stmt)(t:DTN):Prop:=∃T:TS,PSs X st T/\∀{F:Fx} M H σ ρ (Q:D->Prop) (L:List D->Prop) (D:Ends),RSt X.K F M H σ ρ->EN X.K F M H Q L D->t Q L ρ->T D σ H
variable{X:Cx}{st:Stmt}{rest:List Stmt}{t:DTS}{u:DTN}{e:Expr}{tl:DA}{pos:Pos}
theorem lO(h:PLD X e tl):PSsN X [.Return (some e) pos] (fun _ L ρ=>tl ρ fun ds _=>L ds):=by
 obtain⟨T,p,r⟩:=h.run
 refine⟨_,eG (lc p),fun {F} M H σ ρ Q L D rs en q=>r M H σ ρ _ rs (h.mono _ _ _ (fun ds ρ' q M' H1 H' l xs m rs' hl e r'=>?_) q)⟩
 subst e
 have h0:F.H0 l=none:=by
  cases e:F.H0 l with
  |none=>rfl
  |some o=>exact absurd hl (rs'.same.live l (by rw[e];intro z;cases z))
 exact en.nw (l::M') _ ds l xs (rs'.sameT.trans (.new hl)) (fun a ha=>zzc _ (rs'.sub a ha)) h0 (rs'.liv.fresh hl).2 zzd ak (r'.mv (.newOwn hl)) q
theorem cX(h1:PSD X st t)(h2:PSsN X rest u):PSsN X (st::rest) (fun Q L ρ=>t { nx:=u Q L,rt:=Q } ρ):=by
 obtain⟨T,p,r⟩:=h1
 obtain⟨U,q,s⟩:=h2
 refine⟨_,bA p q,fun {F} M H σ ρ Q L D rs en h=>r M H σ ρ { nx:=u Q L,rt:=Q } { D with nx:=U D } rs ⟨fun M' H' σ' ρ' m rs' h=>?_,fun _ _ _ _ _ _ q=>q.elim,fun _ _ _ _ _ _ q=>q.elim,en.rt⟩ h⟩
 exact s M' H' σ' ρ' Q L D rs' (en.mv m) h
theorem CO(h1:PSD X st t)(h2:PSsN X rest u):PSsN X (st::rest) (fun Q L ρ=>∃N:DS->Prop,t { nx:=N,rt:=Q } ρ/\∀ρ',N ρ'->u Q L ρ'):=by
 obtain⟨T,p,r⟩:=h1
 obtain⟨U,q,s⟩:=h2
 refine⟨_,bA p q,fun {F} M H σ ρ Q L D rs en h=>?_⟩
 obtain⟨N,h,hn⟩:=h
 refine r M H σ ρ { nx:=N,rt:=Q } { D with nx:=U D } rs ⟨fun M' H' σ' ρ' m rs' h=>?_,fun _ _ _ _ _ _ q=>q.elim,fun _ _ _ _ _ _ q=>q.elim,en.rt⟩ h
 exact s M' H' σ' ρ' Q L D rs' (en.mv m) (hn ρ' h)
end
abbrev DSpN:=List D->(D->Prop)->(List D->Prop)->Prop
def spDN(K:PySem.W.Frag)(n:Nat)(g:DSpN):Sp:=fun vs H Q _=>∃pp M ds,Lv pp M H/\Reps K pp M H ds vs/\ds.length=n/\g ds (fun d=>∀H' v,SameP K pp H H'->Rep K pp M H' d v->Q v H')
 (fun es=>∀M' H' l xs,SameP K pp H H'->(∀a∈M,a∈M')->H l=none->pp≠some l->l∈M'->H' l=some (.lst xs)->Reps K pp M' H' es xs->Q (.ref l) H')
def qN(g:DSpN):Prop:=∀ds P P' L L',(∀d,P d->P' d)->(∀es,L es->L' es)->g ds P L->g ds P' L'
theorem fnDN{P:Program}{w:World}{K:PySem.W.Frag}{mg:Str->Option Value}{base:Heap}{x qual:Str}{st:Stmt}{f:Addr}{fd:FuncData}{N ps:List Str}{k:Nat}{g:DSpN}{t:DTN}(Fn:Fun K x qual st f fd)(S:FnScope N ps (ah st))
  (hb:∀(cdv:Value) (A:Around) (outer:List Env) (s:Shared) (H:Hp) (E:XK),Room k (A.deeper (envOfC qual (ah st) s.heap.objs.size f cdv)) -> @PSsN _ Frm.free (cxOf CX0 P w K mg base N qual (ah st) f cdv A outer s H E).nox (db st) t)
  (hg:∀ds Q L,ds.length=ps.length->g ds Q L->t Q L (qD N.length ds)):FnOk P w K mg base CX0 (k+1) f fd ps (spDN K ps.length g):=by
 refine Fn.ok S (fun vs H Q E h=>?_) (fun cdv A outer s H vs Q E hr h=>?_)
 ·obtain⟨pp,M,ds,_,r,e,_⟩:=h
  rw[←r.length,e]
 ·obtain⟨pp,M,ds,lv,r,e,h⟩:=h
  obtain⟨T,p,run⟩:=hb cdv A outer s H E hr
  refine⟨T,p,run M H _ _ _ _ _ (qE lv r trivial) ⟨fun M' H' σ' ρ' d v m rs rd q=>?_,fun M' H' σ' ρ' m rs q=>?_,fun M' H' es l xs s sub h0 hp hm hl rr q=>?_⟩ (hg ds _ _ e h)⟩
  ·exact q H' v rs.sameT (rd.mv (.less rs.sub))
  ·exact q H' .non rs.sameT (by simp only[Rep])
  ·exact q M' H' l xs s sub h0 hp hm hl rr
theorem FnOk.asD{P:Program}{w:World}{K:PySem.W.Frag}{mg:Str->Option Value}{base:Heap}{k n:Nat}{f:Addr}{fd:FuncData}{ps:List Str}{g:DSpN}{g':DSp}(h:FnOk P w K mg base CX0 k f fd ps (spDN K n g))(hg:∀ds Q,g' ds Q->g ds Q (fun es=>Q (.lst es)))(gm:qN g):FnOk P w K mg base CX0 k f fd ps (spD K n g') :=
 h.imp fun vs H Q E h=>by
  obtain⟨pp,M,ds,lv,r,e,h⟩:=h
  refine⟨pp,M,ds,lv,r,e,gm _ _ _ _ _ (fun d q=>q) (fun es q M' H' l xs s sub hl hp hm hH rr=>q H' _ s ?_) (hg _ _ h)⟩
  simp only[Rep]
  exact⟨l,xs,rfl,(lv.fresh hl).1,hp,hH,rr.mv (.less sub)⟩
variable[Frm]
def mZ:DS->Bool
 |[]=>true
 |.own _::_=>false
 |.obj _::_=>false
 |_::r=>mZ r
def cH:Nat->DS->Bool
 |_,[]=>true
 |0,_::r=>mZ r
 |_+1,.own _::_=>false
 |_+1,.obj _::_=>false
 |k+1,_::r=>cH k r
omit [Frm] in
theorem lP:∀{ρ:DS}{j:Nat}{ds:List D},mZ ρ=true->ρ[j]? = some (.own ds)->False
 |[],j,ds,_,h=>by simp at h
 |s::r,0,ds,h,e=>by
  simp at e
  subst e
  simp[mZ]at h
 |s::r,j+1,ds,h,e=>by
  cases s<;>first | (simp[mZ]at h;done)|exact lP (ρ:=r) (by simpa[mZ]using h) (by simpa using e)
omit [Frm] in
theorem jp:∀{ρ:DS}{k j:Nat}{ds:List D},cH k ρ=true->ρ[j]? = some (.own ds)->j=k
 |[],k,j,ds,_,h=>by simp at h
 |s::r,0,0,ds,h,e=>rfl
 |s::r,0,j+1,ds,h,e=>(lP (ρ:=r) (by simpa[cH]using h) (by simpa using e)).elim
 |s::r,k+1,0,ds,h,e=>by
  simp at e
  subst e
  simp[cH]at h
 |s::r,k+1,j+1,ds,h,e=>by
  cases s<;>first | (simp[cH]at h;done)|exact congrArg Nat.succ (jp (ρ:=r) (k:=k) (by simpa[cH]using h) (by simpa using e))
omit [Frm] in
theorem lQ:∀{ρ:DS}{j:Nat}{q:O},mZ ρ=true->ρ[j]? = some (.obj q)->False
 |[],j,ds,_,h=>by simp at h
 |s::r,0,ds,h,e=>by
  simp at e
  subst e
  simp[mZ]at h
 |s::r,j+1,ds,h,e=>by
  cases s<;>first | (simp[mZ]at h;done)|exact lQ (ρ:=r) (by simpa[mZ]using h) (by simpa using e)
omit [Frm] in
theorem nI:∀{ρ:DS}{k j:Nat}{q:O},cH k ρ=true->ρ[j]? = some (.obj q)->j=k
 |[],k,j,ds,_,h=>by simp at h
 |s::r,0,0,ds,h,e=>rfl
 |s::r,0,j+1,ds,h,e=>(lQ (ρ:=r) (by simpa[cH]using h) (by simpa using e)).elim
 |s::r,k+1,0,ds,h,e=>by
  simp at e
  subst e
  simp[cH]at h
 |s::r,k+1,j+1,ds,h,e=>by
  cases s<;>first | (simp[cH]at h;done)|exact congrArg Nat.succ (nI (ρ:=r) (k:=k) (by simpa[cH]using h) (by simpa using e))
section
variable{K:PySem.W.Frag}{F:Fx}{M M0 M':List Addr}{H H':Hp}{σ:St}{ρ:DS}{i:Nat}{ds:List D}{v:V}
theorem RSt.thaw(r:RSt K F M H σ ρ)(h:ρ[i]? = some (.own ds))(oo:cH i ρ=true)(ho:σ[i]? = some (some v))(m0:Mv K F.pp M H M0 H)(rl:Rep K F.pp M0 H (.lst ds) v)(m:Mv K F.pp M0 H M' H')(r':RSt K F M' H' σ (ρ.set i (.val (.lst ds)))) :
  ∃M'',Mv K F.pp M H M'' H'/\RSt K F M'' H' σ ρ:=by
 obtain⟨o,ho1,l,xs,rfl,hm,h0,hp,hl,hr⟩:=r.at h
 rw[ho1]at ho
 cases ho
 simp only[Rep]at rl
 obtain⟨l2,xs2,e,n2,p2,h2,r2⟩:=rl
 cases e
 rw[hl]at h2
 cases h2
 obtain⟨hl',hn'⟩:=m.lst l xs hl n2 p2
 have mm:=m0.trans m
 have m2:Mv K F.pp M H (l::M') H':=by
  refine⟨mm.tup,fun a o e n p=>?_,mm.pen,mm.tb⟩
  obtain⟨q1,q2⟩:=mm.oth a o e n p
  refine⟨q1,fun z=>?_⟩
  rcases zzi.mp z with rfl|z
  ·exact n hm
  ·exact q2 z
 refine⟨l::M',m2,⟨r.len,fun j s o h1 h2=>?_,⟨fun j=>if j=i then[l] else[],fun j s o h1 h2=>?_,fun j a ha=>?_,fun j k e a ha hb=>?_⟩,fun a ha=>zzc _ (r'.sub a ha),r'.same,r.old,⟨fun a ha=>?_,r'.liv.p⟩,r.lk.cl m2⟩⟩
 ·have q:=r.sl j s o h1 h2
  cases s with
  |nil=>trivial
  |val d=>obtain⟨v,e,q⟩:=q;exact⟨v,e,q.mv m2⟩
  |pin w d=>obtain⟨v,e,ew,q⟩:=q;exact⟨v,e,ew,q.mv m2⟩
  |own es =>
   have e:=jp oo h1
   subst e
   rw[h]at h1
   cases h1
   rw[ho1]at h2
   cases h2
   exact⟨l,xs,rfl,zzd,h0,hp,hl',hr.mv m2⟩
  |obj z=>exact q
 ·show Ow K F _ H' s o (if j=i then[l] else[])
  cases s with
  |nil=>trivial
  |val d=>trivial
  |pin w d=>trivial
  |own es =>
   have e:=jp oo h1
   subst e
   rw[ho1]at h2
   cases h2
   rw[if_pos rfl]
   exact⟨l,rfl,rfl⟩
  |obj z =>
   have e:=nI oo h1
   subst e
   rw[h]at h1
   cases h1
 ·replace ha:a∈(if j=i then[l] else[]):=ha
  by_cases e:j=i
  ·rw[if_pos e]at ha
   rw[zzw.mp ha]
   exact⟨zzd,h0,hp⟩
  ·rw[if_neg e]at ha;simp at ha
 ·replace ha:a∈(if j=i then[l] else[]):=ha
  replace hb:a∈(if k=i then[l] else[]):=hb
  by_cases e1:j=i
  ·subst e1
   rw[if_neg (Ne.symm e)]at hb;simp at hb
  ·rw[if_neg e1]at ha;simp at ha
 ·rcases zzi.mp ha with rfl|ha
  ·rw[hl'];intro z;cases z
  ·exact r'.liv.m a ha
end
section
variable{X:Cx}{e:Expr}
def scD:D->Prop
 |.int _=>True
 |.bl _=>True
 |.non=>True
 |_=>False
abbrev Hj(k:Nat)(t:DE):DE:=fun ρ Q=>∃ds,slot ρ k=.own ds/\cH k ρ=true/\t (ρ.set k (.val (.lst ds))) fun d ρ'=>(scD d/\ρ'=ρ.set k (.val (.lst ds)))/\Q d ρ
theorem CP{t:DE}(k:Nat)(h:PED X e t):PED X e (Hj k t):=by
 obtain⟨T,p,r⟩:=h.run
 refine⟨fun ρ P P' f ⟨ds,e,o,q⟩=>⟨ds,e,o,h.mono _ _ _ (fun b ρ' q=>⟨q.1,f _ _ q.2⟩) q⟩,T,p,fun {F} M H σ ρ Q rs ⟨ds,e,o,q⟩=>?_⟩
 have g:=aR e (by intro z;cases z)
 obtain⟨M0,v,ho,m0,rs0,rl⟩:=rs.freeze g
 refine r M0 H σ _ Q rs0 (h.mono _ _ _ (fun d ρ' q M' H' u m rs' rd=>?_) q)
 obtain⟨⟨sc,rfl⟩,q⟩:=q
 obtain⟨M2,m2,rs2⟩:=rs.thaw g o ho m0 rl m rs'
 refine q M2 H' u m2 rs2 ?_
 cases d<;>first|exact sc.elim | (simp only[Rep]at rd ⊢;exact rd)
end
end DL
namespace L2
open PySem PySem.Spec PyProof.Rows
theorem uF(n:Nat):(List.range n).map (fun k=>n - 1 - k)=(List.range n).reverse:=by
 apply List.ext_getElem
 ·simp
 ·intro i h1 h2
  simp
theorem Bs{α:Type}(xs:Array α):(List.range xs.size).filterMap (xs[·]?)=xs.toList:=by
 obtain⟨l⟩:=xs
 simp only[zzr,List.getElem?_toArray]
 induction l with
 |nil=>rfl
 |cons a r ih =>
  rw[zyG,zyX,zyD]
  simp only[List.getElem?_cons_zero,List.filterMap_map]
  congr 1
theorem uG{α β:Type}{f g:α->Option β}:∀{l:List α},(∀a∈l,f a=g a)->l.filterMap f=l.filterMap g
 |[],_=>rfl
 |a::r,h=>by rw[zyD,zyD,h a zzd,uG fun b hb=>h b (zzc _ hb)]
theorem CQ(xs:Array Value):((List.range xs.size).filterMap fun(m:Nat)=>xs[(((xs.size:Int) - 1)+(m:Int)*(-1)).toNat]?).toArray=xs.toList.reverse.toArray:=by
 have e:(List.range xs.size).filterMap (fun(m:Nat)=>xs[(((xs.size:Int) - 1)+(m:Int)*(-1)).toNat]?)=((List.range xs.size).map (fun k=>xs.size - 1 - k)).filterMap (xs[·]?):=by
  rw[List.filterMap_map]
  apply uG
  intro m hm
  have:=zzy.mp hm
  show xs[_]? = xs[xs.size - 1 - m]?
  congr 1
  omega
 rw[e,uF,List.filterMap_reverse,Bs]
theorem qO(items:Array Value):slicePick items none none (some (-1))=items.toList.reverse.toArray:=by
 have b:∀n:Nat,sliceBounds none none (some (-1)) n=((n:Int) - 1,-1,-1):=fun n=>by
  first|rfl|simp[sliceBounds]
 have r:∀n:Nat,sliceRange ((n:Int) - 1) (-1) (-1)=(List.range n).map fun k=>n - 1 - k:=fun n=>by
  unfold sliceRange
  have h1:¬((-1:Int)>0):=by decide
  by_cases h:(n:Int) - 1 > -1
  ·have e:((n:Int) - 1 - -1 - -1 - 1) / (- -1)=(n:Int):=by
    rw[show (- -1:Int)=1 by decide,Int.ediv_one]
    omega
   simp only[h1,if_false,h,if_true,e,zzP]
   apply zzp
   intro k hk
   have:=zzy.mp hk
   omega
  ·have e:n=0:=by omega
   subst e
   simp
 unfold slicePick
 rw[b]
 show ((sliceRange ((items.size:Int) - 1) (-1) (-1)).filterMap (items[·]?)).toArray=_
 rw[r,uF,List.filterMap_reverse,Bs]
section
variable{prog:Program}{w:World}{A:Around}{E:Value->Shared->Prop}{s:Shared}
theorem kC{sl:Addr}{vk:Value}{n:Nat}{Q:Int×Int×Nat->Shared->Prop}(hs:s.heap.IsSliceOf sl .none .none vk)(pk:IsPart vk (some (-1)))
  (h:Q ((n:Int) - 1,-1,n) s):wpAny (model prog w) A (Builtin.Slice.sliceApplied (.ref sl) (pure (n:Int))) Q E s:=by
 obtain⟨os,hos,hcs,hds⟩:=id hs
 unfold Builtin.Slice.sliceApplied Builtin.Slice.sliceFields
 refine wpAny_bind (wpAny_bind (wpAny_field hos hds (x:=.none) rfl (wpAny_bind (wpAny_field hos hds (x:=.none) rfl (wpAny_bind (wpAny_field hos hds (x:=vk) rfl (wpAny_pure ?_)))))))
 refine wpAny_bind (HT.slicePart_ pk ?_)
 show wpAny _ _ (if ((-1:Int) == 0)=true then _ else _) _ _ s
 rw[if_neg (by decide)]
 refine wpAny_bind (slicePart_none (wpAny_bind (slicePart_none (wpAny_bind (wpAny_pure ?_)))))
 show wpAny _ _ (match Builtin.Slice.sliceAdjust none none (-1) (n:Int) with | (lo,hi)=>pure (lo,(-1:Int),Builtin.Slice.slicePlaces lo hi (-1))) _ _ s
 have e1:Builtin.Slice.sliceAdjust none none (-1) (n:Int)=((n:Int) - 1,-1):=rfl
 have e2:Builtin.Slice.slicePlaces ((n:Int) - 1) (-1) (-1)=n:=by
  unfold Builtin.Slice.slicePlaces
  rw[if_neg (by decide)]
  split
  ·rw[show (-(-1):Int)=1 from rfl,Int.ediv_one];omega
  ·omega
 rw[e1]
 show wpAny _ _ (pure ((n:Int) - 1,(-1:Int),Builtin.Slice.slicePlaces ((n:Int) - 1) (-1) (-1))) _ _ s
 rw[e2]
 exact wpAny_pure h
theorem jq{t sl:Addr}{items:Array Value}{vk:Value}{Q:Value->Shared->Prop}(ht:IsTup s.heap t items)(hs:s.heap.IsSliceOf sl .none .none vk)(pk:IsPart vk (some (-1)))
  (h:Q (.ref s.heap.objs.size) { s with heap:=s.heap.push { cls:=.type "tuple",data:=.seq items.toList.reverse.toArray } })
  (hsz:items.size <= sizeLine):wpAny (model prog w) A (getItem (.ref t) (.ref sl)) Q E s:=by
 have htake:sizeOk (.seq items.toList.reverse.toArray):=by
  show items.toList.reverse.toArray.size <= sizeLine
  simpa using hsz
 obtain⟨os,hos,hcs,hds⟩:=id hs
 have hTs:s.TypeIs (.ref sl) "slice":=⟨os,hos,hcs⟩
 unfold getItem
 try with_reducible refine wpAny_holding ?_
 first|refine wpAny_bind (wpAny_pure ?_)|skip
 refine wpAny_bind (wpAny_sequenceKey ht.typeIs (by decide) ?_)
 refine wpAny_bind (wpAny_callSpecial?_slot (name:=Str.ofString "__getitem__") ht.typeIs PyProof.Rows.slot_tuple_getitem
  (wpAny_call_entry PyProof.Rows.slot_tuple_getitem ht.typeIs entry_tuple_getitem ?_ (args_tuple_getitem _ _)))
 show wpAny _ _ (Builtin.Tuple.tupleItemsOf (.ref t) >>= _) _ _ s
 refine wpAny_bind (tupleItemsOf_ ht ?_)
 refine wpAny_bind (wpAny_typeOf hTs ?_)
 rw[if_pos (by decide)]
 refine wpAny_bind (kC (n:=items.size) hs pk ?_)
 have hno:¬((((items.size:Int) - 1) == 0 && (-1:Int) == 1 && items.size == items.size)=true):=by
  intro q
  rw[zzK,zzK]at q
  exact absurd q.1.2 (by decide)
 show wpAny _ _ (if ((((items.size:Int) - 1) == 0 && (-1:Int) == 1 && items.size == items.size)=true) then _ else _) _ _ s
 rw[if_neg hno,CQ]
 first
  |exact wpAny_bind (m:=Builtin.Tuple.tupleExact _) (wpAny_newObj_type (wpAny_pure ⟨_,rfl,wpAny_pure h⟩) htake)
  |exact wpAny_bind (m:=Builtin.Tuple.tupleExact _) (wpAny_newObj_type (wpAny_bind (wpAny_pure (wpAny_pure ⟨_,rfl,wpAny_pure h⟩))) htake)
  |exact wpAny_bind (wpAny_bind (m:=Builtin.Tuple.tupleExact _) (wpAny_newObj_type (wpAny_pure (wpAny_pure ⟨_,rfl,wpAny_pure h⟩)) htake))
  |exact wpAny_bind (wpAny_bind (m:=Builtin.Tuple.tupleExact _) (wpAny_newObj_type (wpAny_pure ⟨_,rfl,wpAny_pure h⟩) htake))
end
section
variable{X:Cx}{e st:Expr}{te:TE}{tk:TO}{pos p2:Pos}
def rRev(K:PySem.W.Frag):V->Hp->VK->Prop:=fun x H Q=>(∃a xs,x=.ref a/\SqT K H a xs/\∀p,H p=none->Q (.ref p) (upd H p (.tup xs.reverse)))∨(∃a xs,x=.ref a/\SqL K H a xs/\∀p,H p=none->Q (.ref p) (upd H p (.lst xs.reverse)))
def tRev(K:PySem.W.Frag)(te:TE)(tk:TO):TE:=fun σ H Q=>te σ H fun x H1=>tk σ H1 fun k H2=>k=some (-1)/\rRev K x H2 Q
theorem Fv(he:PE X e te)(hk:PO X (some st) tk):PE X (.Subscript e (.Slice none none (some st) p2) pos) (tRev X.K te tk):=by
 intro pins s σ H Q I h
 refine Subscript_ (thn (he pins s σ H _ I h) fun v s1 ⟨x,H1,I1,r1,q1⟩=>?_)
 refine wpAny_Slice (thn (sh pins s1 σ H1 (fun o H'=>o=none/\H'=H1) I1 ⟨rfl,rfl⟩) fun vl s2 ⟨l,H2,I2,pl,el,eH⟩=>thn (sh pins s2 σ H2 (fun o H'=>o=none/\H'=H2) I2 ⟨rfl,rfl⟩) fun vu s3 ⟨u,H3,I3,pu,eu,eH3⟩=>?_)
 subst eH3 eH eu el
 cases pl
 cases pu
 refine thn (hk pins s3 σ H3 _ I3 q1) fun vk s4 ⟨k,H4,I4,pk,ek,q4⟩=>?_
 subst ek
 have I5:Inv X pins σ H4 { s4 with heap:=s4.heap.push { cls:=.type "slice",data:=.fields #[.none,.none,vk] } }:=I4.kept (t':=s4.toks) fun b ob q=>zzf _ q
 have hsl:(s4.heap.push { cls:=.type "slice",data:=.fields #[.none,.none,vk] }).IsSliceOf s4.heap.objs.size .none .none vk:=Heap.IsSliceOf.new ..
 show wpAny (model X.prog X.w) X.A (subscriptTail e (.Slice none none (some st) p2) v (.ref s4.heap.objs.size)) (EP X pins σ Q) X.xe { s4 with heap:=s4.heap.push { cls:=.type "slice",data:=.fields #[.none,.none,vk] } }
 rcases q4 with ⟨a,xs,rfl,hx,q⟩|⟨a,xs,rfl,hx,q⟩
 ·cases r1
  obtain⟨its,r,ht,hz⟩:=I5.tuple hx
  have hlen:its.toArray.size=xs.length:=by rw[zzr];exact r.length.symm
  refine tail_any (ops:=[.ref a,.ref s4.heap.objs.size]) (T:="tuple") ht.typeIs PyProof.Rows.slot_tuple_getitem.lookup (jq ht hsl pk ?_ (by rw[hlen];exact hz)) (by with_unfolding_all rfl)
  refine⟨.ref _,_,I5.laid (t':=s4.toks) (o:=.tup xs.reverse) (fun b ob q=>zzf _ q) (zzj _) ?_,rfl,q _ (I5.hok.fresh (zzj _))⟩
  exact⟨⟨by rw[List.length_reverse];exact hz,.inl ⟨_,zzs _ rfl,rfl⟩⟩,its.reverse,r.reverse,IsTup.new _ _⟩
 ·cases r1
  obtain⟨its,r,ht,hz⟩:=I5.list hx
  have hlen:=r.length
  refine tail_any (ops:=[.ref a,.ref s4.heap.objs.size]) (T:="list") ht.isList.typeIs slot_list_getitem.lookup (wpAny_getItem_list_slice ht.isList hsl .none .none pk (by decide) ?_ (by rw[zzr]<;>omega)) (by with_unfolding_all rfl)
  have e:slicePick its.toArray none none (some (-1))=its.reverse.toArray:=by rw[qO]
  rw[e]
  refine⟨.ref _,_,I5.laid (t':=s4.toks) (o:=.lst xs.reverse) (fun b ob q=>zzf _ q) (zzj _) ?_,rfl,q _ (I5.hok.fresh (zzj _))⟩
  exact⟨by rw[List.length_reverse];exact hz,its.reverse,0,r.reverse,zzs _ rfl⟩
end
end L2
namespace PySem
theorem kD:fillsNumberSlot (.type "tuple") "mul" = pure false :=
 fillsNumberSlot_seq (id:="tuple.__mul__") (r:=some (.builtin "tuple.__rmul__")) F.slot_tuple_mul.lookup (by decide +kernel) F.slot_tuple_rmul.lookup (by decide +kernel)
theorem qP:seqRepeat? (.type "tuple")=pure (some (.builtin "tuple.__mul__")):=by
 unfold seqRepeat?
 rw[seqSlot_of (T:="tuple") (name:="__mul__") (id:="tuple.__mul__") F.slot_tuple_mul.lookup (by decide +kernel),seqSlot_of (T:="tuple") (name:="__rmul__") (id:="tuple.__rmul__") F.slot_tuple_rmul.lookup (by decide +kernel)]
 rfl
theorem nc(a:Int)(t:Tok)(l:Addr)(items:Array Value)(n:Nat)(dct)(sl) :
  Meets (Builtin.«int.__rmul__» ⟨[.int a t,.ref l],[]⟩) (fun _ R s=>s.heap.get? l=some { cls:=.type "tuple",dict:=dct,data:=.seq items n,slots:=sl }/\R (.ok (.ret Value.notImplemented)) s) :=
 .of_wp fun prog w A R s h=>by obtain⟨hp,g,d,tk,os⟩:=s;obtain⟨hl,h⟩:=h;wp_walk;exact⟨_,rfl,h⟩
theorem xM(l:Addr)(items:Array Value)(n:Nat)(dct)(sl)(x:Int)(u:Tok)(h1:2 <= x)(h2:x<2^63)(h0:items.isEmpty=false)(hc1:¬items.size*x>(2^63 - 1) / 8)(hc2:Builtin.Tuple.tupleTooMany (items.size*x)=false)
  (hsz:sizeOk (.seq ((List.replicate x.toNat items).foldl (· ++ ·) #[]))) :
  Meets (Builtin.«tuple.__mul__» ⟨[.ref l,.int x u],[]⟩) (fun _ R s=>s.heap.get? l=some { cls:=.type "tuple",dict:=dct,data:=.seq items n,slots:=sl }/\R (.ok (.ret (Value.ref s.heap.objs.size))) { s with heap:=s.heap.push { cls:=Value.type "tuple",data:=Data.seq ((List.replicate x.toNat items).foldl (· ++ ·) #[]) },toks:=s.toks }) :=
 .of_wp fun prog w A R s h=>by
  obtain⟨hp,g,d,tk,os⟩:=s;obtain⟨hl,h⟩:=h
  wp_walk
  have b1:(decide (x < -2^63) || decide (x ≥ 2^63))=false:=by
   rw[decide_eq_false (by omega),decide_eq_false (by omega)];rfl
  have b2:(items.isEmpty || x == 1)=false:=by
   rw[h0,Bool.false_or];exact beq_eq_false_iff_ne.mpr (by omega)
  have b3:(decide (x <= 0) || items.isEmpty)=false:=by
   rw[h0,decide_eq_false (by omega)];rfl
  refine wpAny_ite_false (decide_eq_false (by rw[b1];exact zzu)) ?_
  refine wpAny_bind (PyProof.Rows.tupleItemsOf_ (show PyProof.Rows.IsTup _ l items from⟨_,hl,rfl,n,rfl⟩) ?_)
  dsimp only
  refine wpAny_ite_false (decide_eq_false (by rw[b2];exact zzu)) ?_
  refine wpAny_ite_false (decide_eq_false (by rw[b3];exact zzu)) ?_
  rw[if_neg hc1]
  refine wpAny_ite_false (decide_eq_false (by rw[hc2];exact zzu)) ?_
  exact wpAny_bind (m:=Builtin.Tuple.tupleExact _) (wpAny_newObj_type (wpAny_pure ⟨_,rfl,h⟩) hsz)
end PySem
namespace L2
open PySem PySem.Spec PyProof.Rows
section
variable{X:Cx}
def Hk(K:PySem.W.Frag):R2:=fun x y H Q=>∃a k xs,x=.ref a/\y=.int k/\SqT K H a xs/\xs≠[]/\2 <= k/\k <= 1000000/\xs.length*k.toNat <= 1000000 /\
 ∀p,H p=none->Q (.ref p) (upd H p (.tup (List.replicate k.toNat xs).flatten))
theorem CS:OpR X (binaryOp .Mult) (Hk X.K):=by
 intro pins s σ H x y v u Q I rx ry h
 obtain⟨a,k,xs,rfl,rfl,hH,hne,h1,h2,hz,q⟩:=h
 cases rx
 obtain⟨t,rfl⟩:=ry
 obtain⟨its,r,ht,hzz⟩:=I.tuple hH
 have hl:=r.length
 obtain⟨⟨c,dct,dt,sl⟩,hg,hc,n,hd⟩:=id ht
 replace hc:c=.type "tuple":=hc
 replace hd:dt=.seq its.toArray n:=hd
 subst hc hd
 have hT:s.TypeIs (.ref a) "tuple":=⟨_,hg,rfl⟩
 have hnew:List.foldl (fun x1 x2=>x1++x2) #[] (List.replicate k.toNat its.toArray)=(List.replicate k.toNat its).flatten.toArray:=by
  have:=lj its k.toNat []
  rw[List.nil_append]at this
  exact this
 have hlen:(List.replicate k.toNat its).flatten.length=k.toNat*its.length:=ss its k.toNat
 have sl1:(1000000:Nat) <= sizeLine:=by decide
 have hm:(its.toArray.size:Int)*k=((its.length*k.toNat:Nat):Int):=by
  rw[zzr]
  push_cast
  rw[Int.toNat_of_nonneg (by omega)]
 have hme:its.length*k.toNat <= 1000000:=by rw[←hl];exact hz
 refine wpAny_binaryOp_repeat_ref (T:="tuple") (U:="int") (by decide) hT (fun s'=>typeIs_int s' k t) kD F.fills_int_mul F.slot_int_rmul qP F.slot_int_index.lookup
  (call_meets F.slot_int_rmul (typeIs_int s k t) F.entry_int_rmul (F.args_int_rmul_2 _ _) (nc k t a its.toArray n dct sl)
   ⟨hg,rfl,hT,call_meets F.slot_tuple_mul hT F.entry_tuple_mul (F.args_tuple_mul_2 _ _) (xM a its.toArray n dct sl k t h1 (by omega) ?_ ?_ ?_ ?_) ⟨hg,?_⟩⟩)
 ·cases its with
  |nil=>exact absurd (zzN.mp hl) hne
  |cons a r'=>rfl
 ·rw[hm];omega
 ·rw[hm]
  unfold Builtin.Tuple.tupleTooMany
  exact decide_eq_false (by omega)
 ·rw[hnew]
  show (List.replicate k.toNat its).flatten.toArray.size <= sizeLine
  rw[zzr,hlen,Nat.mul_comm]
  omega
 ·rw[hnew]
  refine⟨.ref _,_,I.laid (t':=s.toks) (o:=.tup (List.replicate k.toNat xs).flatten) (fun b ob q=>zzf _ q) (zzj _) ?_,rfl,q _ I.fresh⟩
  exact⟨⟨by rw[ss,Nat.mul_comm];omega,.inl ⟨_,zzs _ rfl,rfl⟩⟩,_,r.rep k.toNat,IsTup.new _ _⟩
end
end L2
namespace DL
open PySem PySem.Spec L2
open PyProof.Rows hiding St
variable[TB]
variable[Frm]
section
variable{X:Cx}{pp:Option Addr}
omit [Frm] in
theorem Reps.reverse{K:PySem.W.Frag}{M:List Addr}{H:Hp}:∀{ds:List D}{xs:List V},Reps K pp M H ds xs->Reps K pp M H ds.reverse xs.reverse
 |[],xs,r=>by
  simp only[Reps]at r
  subst r
  exact .nil
 |d::ds,xs,r=>by
  simp only[Reps]at r
  obtain⟨x,r',rfl,hd,hr⟩:=r
  rw[List.reverse_cons,List.reverse_cons]
  exact(Reps.reverse hr).append (.one hd)
def gRev:D->(D->Prop)->Prop
 |.tup xs,P=>P (.tup xs.reverse)
 |.lst xs,P=>P (.lst xs.reverse)
 |_,_=>False
abbrev dRev(te:DE)(tk:DO):DE:=fun ρ Q=>te ρ fun x ρ1=>tk ρ1 fun k ρ2=>k=some (-1)/\gRev x fun d=>Q d ρ2
theorem Fw{e st:Expr}{te tk:DE}{pos p2:Pos}(he:PED X e te)(hs:PED X st tk):PED X (.Subscript e (.Slice none none (some st) p2) pos) (dRev te (Bq tk)):=by
 have hk:=oM hs
 obtain⟨T,p,r⟩:=he.run
 obtain⟨Tk,pk,rk⟩:=hk.run
 have gm:∀x P P',(∀d,P d->P' d)->gRev x P->gRev x P':=fun x P P' f h=>by
  cases x<;>first|exact h.elim|exact f _ h
 refine⟨fun _ _ _ f h=>he.mono _ _ _ (fun _ _ h=>hk.mono _ _ _ (fun _ _ h=>⟨h.1,gm _ _ _ (fun _ h=>f _ _ h) h.2⟩) h) h,_,Fv p pk,fun {F} M H σ ρ Q rs h=>?_⟩
 refine r M H σ ρ _ rs (he.mono _ _ _ (fun x ρ1 h M1 H1 v m1 rs1 r1=>?_) h)
 refine rk M1 H1 σ ρ1 _ rs1 (hk.mono _ _ _ (fun k ρ2 h M2 H2 m2 rs2=>?_) h)
 obtain⟨ek,h⟩:=h
 refine⟨ek,?_⟩
 have r3:=r1.mv m2
 cases x<;>first|exact h.elim|skip
 ·simp only[Rep]at r3
  obtain⟨a,xs,rfl,ha,rx⟩:=r3
  refine .inl ⟨a,xs,rfl,SqT.of ha,fun l hl=>h M2 _ _ ((m1.trans m2).trans (.new hl)) (rs2.sameP (.new hl)) ?_⟩
  simp only[Rep]
  exact⟨l,_,rfl,ak,rx.reverse.mv (.new hl)⟩
 ·simp only[Rep]at r3
  obtain⟨a,xs,rfl,hm,hp,ha,rx⟩:=r3
  refine .inr ⟨a,xs,rfl,SqL.of ha,fun l hl=>h M2 _ _ ((m1.trans m2).trans (.new hl)) (rs2.sameP (.new hl)) ?_⟩
  simp only[Rep]
  exact⟨l,_,rfl,(rs2.liv.fresh hl).1,(rs2.liv.fresh hl).2,ak,rx.reverse.mv (.new hl)⟩
omit [Frm] in
theorem Reps.rep{K:PySem.W.Frag}{M:List Addr}{H:Hp}{ds:List D}{xs:List V}(r:Reps K pp M H ds xs):∀n:Nat,Reps K pp M H (List.replicate n ds).flatten (List.replicate n xs).flatten
 |0=>by simpa using Reps.nil
 |n+1=>by
  rw[zzW,zzW,zyu,zyu]
  exact r.append (Reps.rep r n)
def Hl:D->D->(D->Prop)->Prop
 |.tup xs,.int k,P=>(xs≠[]/\2 <= k/\k <= 1000000/\xs.length*k.toNat <= 1000000)/\P (.tup (List.replicate k.toNat xs).flatten)
 |_,_,_=>False
theorem CT:OpD X (binaryOp .Mult) Hl:=by
 refine⟨fun x y P P' f h=>?_,_,CS,fun {pp} M H x y v u Q _ rx ry h=>?_⟩
 ·cases x<;>first|exact h.elim|skip
  cases y<;>first|exact h.elim|exact⟨h.1,f _ h.2⟩
 ·cases x<;>first|exact h.elim|skip
  cases y<;>first|exact h.elim|skip
  rename_i xs k
  simp only[Rep]at rx ry
  obtain⟨a,us,rfl,ha,ra⟩:=rx
  subst ry
  obtain⟨⟨h1,h2,h3,h4⟩,h⟩:=h
  refine⟨a,k,us,rfl,rfl,SqT.of ha,?_,h2,h3,by rw[←ra.length];exact h4,fun l hl=>h _ _ (.new hl) ?_⟩
  ·rintro rfl
   exact h1 (zzN.mp ra.length)
  ·simp only[Rep]
   exact⟨l,_,rfl,ak,(ra.rep k.toNat).mv (.new hl)⟩
end
end DL
namespace L2
open PySem PySem.Spec PyProof.Rows
theorem nJ{x:V}:∀{xs:List V}{us:List Value},Vals xs us->xs.all fh=true->us.countP (eqU x)=xs.countP fun y=>eqV y x
 |_,_,.nil,_=>rfl
 |y::xs,u::us,.cons r t,f=>by
  rw[List.all_cons,zzK]at f
  rw[List.countP_cons,List.countP_cons,uj r f.1,nJ t f.2]
section
variable{X:Cx}
def Fy:V->List V->Hp->VK->Prop:=fun x vs H Q=>∃l xs y,x=.ref l/\vs=[y]/\H l=some (.lst xs)/\fh y=true/\xs.all fh=true/\Q (.int ((xs.countP fun z=>eqV z y:Nat):Int)) H
theorem zY:MtM X "list.count" Fy:=by
 intro pins s σ H x vs v us Q I rx rv h
 obtain⟨l,xs,y,rfl,rfl,hH,fy,fs,q⟩:=h
 cases rx
 obtain⟨u,rfl,ru⟩:=rv.one
 obtain⟨z,its,n,r,hl,e⟩:=I.lstM hH
 refine call_meets F.slot_list_count ⟨_,e,rfl⟩ F.entry_list_count (F.args_list_count_2 _ _) (SeqAt.list_countAt l its.toArray n none #[] u (eqU y)) ⟨e,fun w hw=>iu ru fy r fs w (by simpa using hw),?_⟩
 refine⟨.int _,H,I.tok _,⟨_,rfl⟩,?_⟩
 rw[show its.toArray.toList.countP (eqU y)=its.countP (eqU y) from rfl,nJ r fs]
 exact q
def Fz:V->List V->Hp->VK->Prop:=fun x vs H Q=>∃l xs y j,x=.ref l/\vs=[y]/\H l=some (.lst xs)/\fh y=true/\xs.all fh=true/\(∃z,xs[j]? = some z/\eqV z y=true)/\(∀m z,m<j->xs[m]? = some z->eqV z y=false)/\Q (.int ((j:Nat):Int)) H
theorem zZ:MtM X "list.index" Fz:=by
 intro pins s σ H x vs v us Q I rx rv h
 obtain⟨l,xs,y,j,rfl,rfl,hH,fy,fs,⟨z0,hz0,e0⟩,hno,q⟩:=h
 cases rx
 obtain⟨u,rfl,ru⟩:=rv.one
 obtain⟨z,its,n,r,hl,e⟩:=I.lstM hH
 have fl:∀(m:Nat) (z:V),xs[m]? = some z->fh z=true:=fun m z hz=>zyt.mp fs z (zzH hz)
 have hj:j<its.length:=by rw[←hl];exact(zzt.mp hz0).1
 have at_:∀(m:Nat) (hm:m<its.toArray.size),∃z,xs[m]? = some z/\eqU y its.toArray[m]=eqV z y:=fun m hm=>by
  have hm':m<xs.length:=by rw[hl];simpa using hm
  obtain⟨w,hw,rw'⟩:=r.get (show xs[m]? = some xs[m] by simp[hm'])
  refine⟨xs[m],by simp[hm'],?_⟩
  have:its.toArray[m]=w:=by
   have hm2:m<its.length:=by simpa using hm
   have:its[m]? = some its[m]:=by simp[hm2]
   rw[hw]at this
   cases this
   simp
  rw[this]
  exact uj rw' (fl m _ (by simp[hm']))
 have sj:(j:Int)<2^63 - 1:=by
  have:j<sizeLine:=by omega
  have:(sizeLine:Int)<2^63 - 1:=by decide
  omega
 refine call_meets F.slot_list_index ⟨_,e,rfl⟩ F.entry_list_index (F.args_list_index_2 _ _) (SeqAt.list_indexAt l its.toArray n none #[] u (eqU y) j (by simpa using hj) sj ?_ (fun m hm hlt=>?_)) ⟨e,fun w hw=>iu ru fy r fs w (by simpa using hw),?_⟩
 ·obtain⟨z1,h1,h2⟩:=at_ j (by simpa using hj)
  rw[hz0]at h1
  cases h1
  rw[h2]
  exact e0
 ·obtain⟨z1,h1,h2⟩:=at_ m hm
  rw[h2]
  exact hno m z1 hlt h1
 ·exact⟨.int _,H,I.tok _,⟨_,rfl⟩,q⟩
end
end L2
namespace DL
open PySem PySem.Spec L2
open PyProof.Rows hiding St
variable[TB]
def iF:D->Bool
 |.non=>true
 |.bl _=>true
 |.int _=>true
 |.str _=>true
 |_=>false
def toV:D->V
 |.bl b=>.bl b
 |.int i=>.int i
 |.str s=>.str s
 |_=>.non
def eqF(x y:D):Bool:=eqV (toV x) (toV y)
section
variable{K:PySem.W.Frag}{pp:Option Addr}{M:List Addr}{H:Hp}
theorem kL{d:D}{v:V}(f:iF d=true)(r:Rep K pp M H d v):v=toV d/\fh v=true:=by
 cases d<;>first|exact absurd (show false=true from f) zzu|skip
 all_goals
  simp only[Rep]at r
  subst r
  exact⟨rfl,rfl⟩
theorem iG:∀{ds:List D}{xs:List V},ds.all iF=true->Reps K pp M H ds xs->xs=ds.map toV/\xs.all fh=true
 |[],xs,_,r=>by
  simp only[Reps]at r
  subst r
  exact⟨rfl,rfl⟩
 |d::ds,xs,f,r=>by
  simp only[Reps]at r
  obtain⟨x,r',rfl,hd,hr⟩:=r
  rw[List.all_cons,zzK]at f
  obtain⟨e1,e2⟩:=kL f.1 hd
  obtain⟨e3,e4⟩:=iG f.2 hr
  subst e1 e3
  exact⟨rfl,by rw[List.all_cons,e2,e4];rfl⟩
end
variable[Frm]
section
variable{X:Cx}
structure M1D(X:Cx)(name:Str)(id:String)(g:D->D->(D->Prop)->Prop):Prop where
 mono:∀x y P P',(∀d,P d->P' d)->g x y P->g x y P'
 slot:Slot "list" name id
 ty:typeOf (.builtin id)=pure (.type "method_descriptor")
 run:∃r,MtR X id r/\∀{pp:Option Addr} M H x y v u (Q:VK),Rep X.K pp M H x v->Rep X.K pp M H y u->g x y (fun d=>∀w,Rep X.K pp M H d w->Q w H)->r v [u] H Q
def Hm:D->Prop
 |.lst _=>True
 |_=>False
abbrev dM1(g:D->D->(D->Prop)->Prop)(to te:DE):DE:=fun ρ Q=>to ρ fun x ρ1=>Hm x/\te ρ1 fun y ρ2=>g x y fun d=>Q d ρ2
theorem CU{name:Str}{id:String}{g:D->D->(D->Prop)->Prop}{o e:Expr}{to te:DE}{apos cpos:Pos}(hm:M1D X name id g)(ho:PED X o to)(he:PED X e te)
  (hbase:attributeBase o name X.env (eval o X.env)=eval o X.env:=by rfl)
  (hfew:((backTo cpos (starEach [e] X.env)).all (fun x=>!x.1) && (backToKw cpos (keywordEach [] X.env)).all (fun x=>x.1.isSome)
   && decide ([e].length+([]:List Keyword).length+(if ([]:List Keyword).isEmpty then 0 else 1)<30))=true:=by rfl)
  (hline:(apos.endLine == cpos.line)=true:=by rfl) (hst:starEach [e] X.env=(false,eval e X.env)::starEach [] X.env:=by rfl) (hpl:(backTo cpos (starEach [] X.env)).any (·.1)=false:=by rfl) :
  PED X (.Call (.Attribute o name apos) [e] [] cpos) (dM1 g to te):=by
 obtain⟨r,mr,hr⟩:=hm.run
 obtain⟨To,po,ro⟩:=ho.run
 obtain⟨Te,pe,re⟩:=he.run
 refine⟨fun _ _ _ f h=>ho.mono _ _ _ (fun _ _ h=>⟨h.1,he.mono _ _ _ (fun _ _ h=>hm.mono _ _ _ _ (fun _ h=>f _ _ h) h) h.2⟩) h,_,xm zyS hm.slot hm.ty mr po (bD pe cT hst) hbase hfew hline hst hpl,fun {F} M H σ ρ Q rs h=>?_⟩
 refine ro M H σ ρ _ rs (ho.mono _ _ _ (fun x ρ1 h M1 H1 v m1 rs1 r1=>?_) h)
 obtain⟨hx,h⟩:=h
 have tv:tyV X.K "list" v H1:=by
  cases x<;>first|exact hx.elim|skip
  have r1':=r1
  simp only[Rep]at r1'
  obtain⟨a,xs,rfl,_,_,ha,_⟩:=r1'
  exact .inl ⟨rfl,xs,SqL.of ha⟩
 refine⟨tv,re M1 H1 σ ρ1 _ rs1 (he.mono _ _ _ (fun y ρ2 h M2 H2 u m2 rs2 r2=>?_) h)⟩
 exact hr M2 H2 x y v u _ (r1.mv m2) r2 (hm.mono _ _ _ _ (fun d q w rw=>q M2 H2 w (m1.trans m2) rs2 rw) h)
def Hn:D->D->(D->Prop)->Prop
 |.lst ds,y,P=>(iF y=true/\ds.all iF=true)/\P (.int ((ds.countP fun z=>eqF z y:Nat):Int))
 |_,_,_=>False
theorem Aa:M1D X "count" "list.count" Hn:=by
 refine⟨fun x y P P' f h=>?_,PySem.F.slot_list_count,PySem.F.type_list_count,_,zY,fun {pp} M H x y v u Q rx ry h=>?_⟩
 ·cases x<;>first|exact h.elim|exact⟨h.1,f _ h.2⟩
 ·cases x<;>first|exact h.elim|skip
  rename_i ds
  simp only[Rep]at rx
  obtain⟨a,xs,rfl,hm,hp,ha,r⟩:=rx
  obtain⟨⟨f1,f2⟩,h⟩:=h
  obtain⟨e1,e2⟩:=kL f1 ry
  obtain⟨e3,e4⟩:=iG f2 r
  refine⟨a,xs,u,rfl,rfl,ha,e2,e4,?_⟩
  subst e1 e3
  rw[List.countP_map]
  exact h _ bE
def FB:D->D->(D->Prop)->Prop
 |.lst ds,y,P=>(iF y=true/\ds.all iF=true)/\∃j:Nat,((∃z,ds[j]? = some z/\eqF z y=true)/\∀m z,m<j->ds[m]? = some z->eqF z y=false)/\P (.int (j:Int))
 |_,_,_=>False
theorem uH:M1D X "index" "list.index" FB:=by
 refine⟨fun x y P P' f h=>?_,PySem.F.slot_list_index,PySem.F.type_list_index,_,zZ,fun {pp} M H x y v u Q rx ry h=>?_⟩
 ·cases x<;>first|exact h.elim|skip
  obtain⟨h1,j,h2,h3⟩:=h
  exact⟨h1,j,h2,f _ h3⟩
 ·cases x<;>first|exact h.elim|skip
  rename_i ds
  simp only[Rep]at rx
  obtain⟨a,xs,rfl,hm,hp,ha,r⟩:=rx
  obtain⟨⟨f1,f2⟩,j,⟨⟨z,hz,ez⟩,hno⟩,h⟩:=h
  obtain⟨e1,e2⟩:=kL f1 ry
  obtain⟨e3,e4⟩:=iG f2 r
  refine⟨a,xs,u,j,rfl,rfl,ha,e2,e4,⟨toV z,?_,?_⟩,fun m w hm hw=>?_,h _ bE⟩
  ·rw[e3,zzn,hz];rfl
  ·rw[e1];exact ez
  ·rw[e3,zzn]at hw
   cases q:ds[m]? with
   |none=>rw[q]at hw;cases hw
   |some d =>
    rw[q]at hw
    cases hw
    rw[e1]
    exact hno m d hm q
end
theorem nK{g:DG}{b:DTS}{E:DEnds}{ds:List D}(N:Nat->DS->Prop)(hn:∀ρ,N ds.length ρ->E.nx ρ)
  (hs:∀(i:Nat) (d:D) (ρ:DS) (X:DS->Prop),ds[i]? = some d->N i ρ->(∀ρ',N (i+1) ρ'->X ρ')->g (.tup [.int i,d]) ρ fun ρ1=>b { E with nx:=X,ct:=X,bk:=E.nx } ρ1) (ρ:DS) (h:N 0 ρ):kA g b (lM 0 ds) E ρ:=by
 have key:∀(post:List D) (k:Nat),k <= ds.length->ds.drop k=post->∀ρ,N k ρ->kA g b (lM k post) E ρ:=by
  intro post
  induction post with
  |nil =>
   intro k hk e ρ h
   have h1:ds.length <= k:=List.drop_eq_nil_iff.mp e
   have z:k=ds.length:=Nat.le_antisymm hk h1
   subst z
   exact hn ρ h
  |cons d r ih =>
   intro k hk e ρ h
   have hd:ds[k]? = some d:=by
    have:=congrArg (fun l=>l[0]?) e
    simpa using this
   refine hs k d ρ _ hd h (ih (k+1) (zzt.mp hd).1 ?_)
   rw[←List.drop_drop,e]
   rfl
 exact key ds 0 (zzG _) rfl ρ h
end DL
namespace L2
open PySem PySem.Spec PyProof.Rows
section
variable{prog:Program}{w:World}{A:Around}{E:Value->Shared->Prop}{s:Shared}
theorem jr{t sl:Addr}{items:Array Value}{vl vu:Value}{lo hi:Option Int}{Q:Value->Shared->Prop}(ht:IsTup s.heap t items)(hs:s.heap.IsSliceOf sl vl vu .none)(pl:IsPart vl lo)(pu:IsPart vu hi)
  (hw:HT.sIx items.size 0 lo=0/\HT.sIx items.size items.size hi=items.size) (h:Q (.ref t) s):wpAny (model prog w) A (getItem (.ref t) (.ref sl)) Q E s:=by
 obtain⟨os,hos,hcs,hds⟩:=id hs
 have hTs:s.TypeIs (.ref sl) "slice":=⟨os,hos,hcs⟩
 unfold getItem
 try with_reducible refine wpAny_holding ?_
 first|refine wpAny_bind (wpAny_pure ?_)|skip
 refine wpAny_bind (wpAny_sequenceKey ht.typeIs (by decide) ?_)
 refine wpAny_bind (wpAny_callSpecial?_slot (name:=Str.ofString "__getitem__") ht.typeIs PyProof.Rows.slot_tuple_getitem
  (wpAny_call_entry PyProof.Rows.slot_tuple_getitem ht.typeIs PySem.F.entry_tuple_getitem ?_ (PySem.F.args_tuple_getitem_2 _ _)))
 show wpAny _ _ (Builtin.Tuple.tupleItemsOf (.ref t) >>= _) _ _ s
 refine wpAny_bind (tupleItemsOf_ ht ?_)
 refine wpAny_bind (wpAny_typeOf hTs ?_)
 rw[if_pos (by decide)]
 refine wpAny_bind (HT.sliceApplied_gen hs pl pu ?_)
 rw[hw.1,hw.2,Nat.sub_zero]
 have hyes:(((((0:Nat):Int)) == 0 && (1:Int) == 1 && items.size == items.size))=true:=by simp
 show wpAny _ _ (if ((((0:Nat):Int)) == 0 && (1:Int) == 1 && items.size == items.size)=true then _ else _) _ _ s
 rw[if_pos hyes]
 unfold Builtin.Tuple.tupleIsExact
 refine wpAny_bind (wpAny_bind (wpAny_typeOf ht.typeIs (wpAny_pure ?_)))
 show wpAny _ _ (rule "tuple.getitem.whole" >>= fun _=>ret (Value.ref t)) _ _ s
 exact wpAny_bind (wpAny_rule (wpAny_pure ⟨_,rfl,wpAny_pure h⟩))
def rSlW(K:PySem.W.Frag):V->Option Int->Option Int->Hp->VK->Prop:=fun x lo hi H Q=>∃a xs,x=.ref a/\SqT K H a xs/\(HT.sIx xs.length 0 lo=0/\HT.sIx xs.length xs.length hi=xs.length)/\Q (.ref a) H
theorem CV{X:Cx}:SlR X (rSlW X.K):=by
 intro pins s σ H x v vl vu lo hi sl Q I rx hs pl pu h
 obtain⟨a,xs,rfl,hx,hw,q⟩:=h
 cases rx
 obtain⟨its,r,ht,hz⟩:=I.tuple hx
 have hlen:its.toArray.size=xs.length:=by rw[zzr];exact r.length.symm
 refine⟨"tuple",_,PyProof.Rows.slot_tuple_getitem.lookup,ht.typeIs,?_⟩
 exact jr ht hs pl pu (by rw[hlen];exact hw) ⟨.ref a,H,I,rfl,q⟩
end
end L2
namespace DL
open PySem PySem.Spec L2
open PyProof.Rows hiding St
variable[TB]
section
variable[Frm]
variable{X:Cx}{F:Fx}{pp:Option Addr}
abbrev dSlL(te:DE)(tl th:DO):DA:=fun ρ Q=>te ρ fun x ρ1=>tl ρ1 fun lo ρ2=>th ρ2 fun hi ρ3=>match x with
 |.lst xs=>Q (cutD xs lo hi) ρ3
 |_=>False
theorem FC{e:Expr}{lo hi:Option Expr}{te:DE}{tl th:DO}{pos p2:Pos}(he:PED X e te)(hl:POD X lo tl)(hh:POD X hi th):PLD X (.Subscript e (.Slice lo hi none p2) pos) (dSlL te tl th):=by
 obtain⟨T,p,r⟩:=he.run
 obtain⟨Tl,pl,rl⟩:=hl.run
 obtain⟨Th,ph,rh⟩:=hh.run
 refine⟨fun _ _ _ f h=>he.mono _ _ _ (fun x _ h=>hl.mono _ _ _ (fun _ _ h=>hh.mono _ _ _ (fun _ _ h=>?_) h) h) h,_,ui Ck p pl ph,fun {F} M H σ ρ Q rs h=>?_⟩
 ·cases x<;>first|exact h.elim|exact f _ _ h
 refine r M H σ ρ _ rs (he.mono _ _ _ (fun x ρ1 h M1 H1 v m1 rs1 r1=>?_) h)
 refine rl M1 H1 σ ρ1 _ rs1 (hl.mono _ _ _ (fun lo ρ2 h M2 H2 m2 rs2=>?_) h)
 refine rh M2 H2 σ ρ2 _ rs2 (hh.mono _ _ _ (fun hi ρ3 h M3 H3 m3 rs3=>?_) h)
 have r3:=(r1.mv m2).mv m3
 cases x<;>first|exact h.elim|skip
 simp only[Rep]at r3
 obtain⟨a,xs,rfl,_,_,ha,rx⟩:=r3
 exact⟨a,xs,rfl,SqL.of ha,fun l hl=>h M3 H3 _ l _ ((m1.trans m2).trans m3) rs3 hl rfl (rx.cut lo hi)⟩
abbrev Ho(ta tb:DE):DA:=fun ρ Q=>ta ρ fun x ρ1=>tb ρ1 fun y ρ2=>match x,y with
 |.lst xs,.lst ys=>xs.length+ys.length <= sizeLine/\Q (xs++ys) ρ2
 |_,_=>False
theorem xN{a b:Expr}{ta tb:DE}{pos:Pos}(ha:PED X a ta)(hb:PED X b tb):PLD X (.BinOp a .Add b pos) (Ho ta tb):=by
 obtain⟨Ta,pa,ra⟩:=ha.run
 obtain⟨Tb,pb,rb⟩:=hb.run
 refine⟨fun _ _ _ f h=>ha.mono _ _ _ (fun x _ h=>hb.mono _ _ _ (fun y _ h=>?_) h) h,_,cW EM pa pb,fun {F} M H σ ρ Q rs h=>?_⟩
 ·cases x<;>first|exact h.elim|skip
  cases y<;>first|exact h.elim|exact⟨h.1,f _ _ h.2⟩
 refine ra M H σ ρ _ rs (ha.mono _ _ _ (fun x ρ1 h M1 H1 v m1 rs1 r1=>?_) h)
 refine rb M1 H1 σ ρ1 _ rs1 (hb.mono _ _ _ (fun y ρ2 h M2 H2 u m2 rs2 r2=>?_) h)
 have r1:=r1.mv m2
 cases x<;>first|exact h.elim|skip
 cases y<;>first|exact h.elim|skip
 simp only[Rep]at r1 r2
 obtain⟨l,xs,rfl,_,_,hl,rx⟩:=r1
 obtain⟨l',ys,rfl,_,_,hl',ry⟩:=r2
 exact⟨l,l',xs,ys,rfl,rfl,hl,hl',by rw[←rx.length,←ry.length];exact h.1,fun p hp=>h.2 M2 H2 _ p _ (m1.trans m2) rs2 hp rfl (rx.append ry)⟩
abbrev Hq(ta tb:DE):DA:=fun ρ Q=>ta ρ fun x ρ1=>tb ρ1 fun y ρ2=>match x,y with
 |.lst xs,.int k=>((-(2^63) <= k/\k<2^63)/\xs.length*k.toNat <= sizeLine)/\Q (List.replicate k.toNat xs).flatten ρ2
 |_,_=>False
theorem Reps.reps{K:PySem.W.Frag}{M:List Addr}{H:Hp}{ds:List D}{xs:List V}(r:Reps K pp M H ds xs):∀k:Nat,Reps K pp M H (List.replicate k ds).flatten (List.replicate k xs).flatten
 |0=>by simp[Reps]
 |k+1=>by
  rw[zzW,zzW,zyu,zyu]
  exact r.append (Reps.reps r k)
theorem xO{a b:Expr}{ta tb:DE}{pos:Pos}(ha:PED X a ta)(hb:PED X b tb):PLD X (.BinOp a .Mult b pos) (Hq ta tb):=by
 obtain⟨Ta,pa,ra⟩:=ha.run
 obtain⟨Tb,pb,rb⟩:=hb.run
 refine⟨fun _ _ _ f h=>ha.mono _ _ _ (fun x _ h=>hb.mono _ _ _ (fun y _ h=>?_) h) h,_,cW EQ pa pb,fun {F} M H σ ρ Q rs h=>?_⟩
 ·cases x<;>first|exact h.elim|skip
  cases y<;>first|exact h.elim|exact⟨h.1,f _ _ h.2⟩
 refine ra M H σ ρ _ rs (ha.mono _ _ _ (fun x ρ1 h M1 H1 v m1 rs1 r1=>?_) h)
 refine rb M1 H1 σ ρ1 _ rs1 (hb.mono _ _ _ (fun y ρ2 h M2 H2 u m2 rs2 r2=>?_) h)
 have r1:=r1.mv m2
 cases x<;>first|exact h.elim|skip
 cases y<;>first|exact h.elim|skip
 simp only[Rep]at r1 r2
 obtain⟨l,xs,rfl,_,_,hl,rx⟩:=r1
 subst r2
 exact⟨l,_,xs,rfl,rfl,hl,h.1.1.1,h.1.1.2,by rw[←rx.length];exact h.1.2,fun p hp=>h.2 M2 H2 _ p _ (m1.trans m2) rs2 hp rfl (Reps.reps rx _)⟩
def gSlA:D->Option Int->Option Int->(D->Prop)->Prop
 |.tup xs,lo,hi,P=>P (.tup (cutD xs lo hi))
 |_,_,_,_=>False
abbrev dSlA(te:DE)(tl th:DO):DE:=fun ρ Q=>te ρ fun x ρ1=>tl ρ1 fun lo ρ2=>th ρ2 fun hi ρ3=>gSlA x lo hi fun d=>Q d ρ3
theorem Bt{e:Expr}{lo hi:Option Expr}{te:DE}{tl th:DO}{pos p2:Pos}(he:PED X e te)(hl:POD X lo tl)(hh:POD X hi th):PED X (.Subscript e (.Slice lo hi none p2) pos) (dSlA te tl th):=by
 obtain⟨T,p,r⟩:=he.run
 obtain⟨Tl,pl,rl⟩:=hl.run
 obtain⟨Th,ph,rh⟩:=hh.run
 have gm:∀x lo hi P P',(∀d,P d->P' d)->gSlA x lo hi P->gSlA x lo hi P':=fun x lo hi P P' f h=>by
  cases x<;>first|exact h.elim|exact f _ h
 refine⟨fun _ _ _ f h=>he.mono _ _ _ (fun _ _ h=>hl.mono _ _ _ (fun _ _ h=>hh.mono _ _ _ (fun _ _ h=>gm _ _ _ _ _ (fun _ h=>f _ _ h) h) h) h) h,_,ui (SlR.or EH CV) p pl ph,fun {F} M H σ ρ Q rs h=>?_⟩
 refine r M H σ ρ _ rs (he.mono _ _ _ (fun x ρ1 h M1 H1 v m1 rs1 r1=>?_) h)
 refine rl M1 H1 σ ρ1 _ rs1 (hl.mono _ _ _ (fun lo ρ2 h M2 H2 m2 rs2=>?_) h)
 refine rh M2 H2 σ ρ2 _ rs2 (hh.mono _ _ _ (fun hi ρ3 h M3 H3 m3 rs3=>?_) h)
 have r3:=(r1.mv m2).mv m3
 obtain⟨ds,rfl⟩:∃ds,x=.tup ds:=by cases x<;>first|exact h.elim|exact⟨_,rfl⟩
 have r3':=r3
 simp only[Rep]at r3
 obtain⟨a,xs,rfl,ha,rx⟩:=r3
 by_cases hw:HT.sIx ds.length 0 lo=0/\HT.sIx ds.length ds.length hi=ds.length
 ·have e:cutD ds lo hi=ds:=by
   unfold cutD
   rw[hw.1,hw.2,List.drop_zero,Nat.sub_zero,List.take_length]
  exact .inr ⟨a,xs,rfl,SqT.of ha,by rw[←rx.length];exact hw,h M3 _ _ ((m1.trans m2).trans m3) rs3 (by rw[e];exact r3')⟩
 ·refine .inl ⟨a,xs,rfl,SqT.of ha,by rw[←rx.length];exact hw,fun l hl=>h M3 _ _ (((m1.trans m2).trans m3).trans (.new hl)) (rs3.sameP (.new hl)) ?_⟩
  simp only[Rep]
  exact⟨l,_,rfl,ak,(rx.cut lo hi).mv (.new hl)⟩
end
end DL
namespace L2
open PySem PySem.Spec PyProof.Rows
abbrev dj(h:Heap)(z TI TO:Addr)(f0 f1:Value):Prop :=
 h.get? z=some { cls:=.type "zip",dict:=none,data:=.fields #[f0,f1,.bool false,.ref TI,.ref TO],slots:=#[] }
abbrev cU(h:Heap)(T:Addr)(xs:Array Value):Prop:=h.get? T=some { cls:=.type "tuple",data:=.seq xs }
def OwnF(f:Value):Prop:=f=.none∨∃a:Int,f=.int a 0
abbrev itsL(n m:Nat):List Value:=(List.range m).map fun j=>Value.ref (n+j)
def KeptZ(n m:Nat)(h h':Heap):Prop:=∀(b:Nat) o,b<n∨b=n+m∨n+m+2<b->h.get? b=some o->h'.get? b=some o
section
variable{prog:Program}{w:World}{A:Around}{E:Value->Shared->Prop}{s:Shared}
theorem jt{a:Addr}{Q:Option Obj->Shared->Prop}(h:Q (s.heap.get? a) s):wpAny (model prog w) A (loadIfAlive a) Q E s :=
 fun Γ p _=>by
  show Sem.wp _ Γ (.loadIfAlive a .pure) _ _ p s
  rw[Sem.wp_loadIfAlive]
  exact h
theorem Ab{z TI TO:Addr}{f0 f1:Value}{Q:Bool->Shared->Prop}(hf:OwnF f0)(hz:dj s.heap z TI TO f0 f1)(q1:Q true s)
  (q2:∀h' f1',dj h' z TI TO f0 f1'->Heap.SameBut z s.heap h'->Q false { s with heap:=h' }) :
  wpAny (model prog w) A (Builtin.SmallTypes.ownedTupleIsFree (.ref z)) Q E s:=by
 unfold Builtin.SmallTypes.ownedTupleIsFree
 refine wpAny_bind (wpAny_field hz rfl (x:=f0) rfl ?_)
 rcases hf with rfl|⟨a,rfl⟩
 ·exact wpAny_pure q1
 ·show wpAny _ _ (loadIfAlive a.toNat >>= _) _ _ _
  refine wpAny_bind (jt ?_)
  cases e:s.heap.get? a.toNat with
  |none=>exact wpAny_pure q1
  |some o =>
   show wpAny _ _ (field (.ref z) 1 >>= _) _ _ _
   refine wpAny_bind (wpAny_field hz rfl (x:=f1) rfl ?_)
   by_cases hb:(f1 != .bool true)=true
   ·rw[if_pos hb]
    refine wpAny_bind (wpAny_setField_rec hz (by simp) fun h' hz' hs=>wpAny_pure (q2 h' (.bool true) ?_ hs))
    exact hz'
   ·rw[if_neg hb]
    refine wpAny_bind (wpAny_pure ?_)
    exact wpAny_pure (q2 s.heap f1 hz (Heap.SameBut.refl ..))
end
theorem cY{α:Type}{l:List α}{j:Nat}{p:α}(h:l[j]? = some p):j<l.length:=(zzt.mp h).1
section
variable{prog:Program}{w:World}{A:Around}{E:Value->Shared->Prop}{s:Shared}
theorem gF{T:Addr}{ws:Array Value}{x:Value}{k:Nat}{Q:Unit->Shared->Prop}(hT:cU s.heap T ws)(hz:ws.size <= sizeLine)
  (h:∀h',cU h' T (ws.setIfInBounds k x)->Heap.SameBut T s.heap h'->Q () { s with heap:=h' }) :
  wpAny (model prog w) A (updateSeq T (·.setIfInBounds k x)) Q E s:=by
 refine wpAny_updateSeq hT rfl (h _ ?_ (zzX ..)) hz (by simp;omega)
 show Heap.get? _ _=_
 rw[zyg _ hT rfl]
 simp[Obj.mapSeq]
theorem xP{α:Type}{l:List α}{c:Nat}{x:α}{r:List α}(h:l.drop c=x::r):l[c]? = some x/\l.drop (c+1)=r:=by
 have hc:c<l.length:=by
  rcases Nat.lt_or_ge c l.length with h'|h'
  ·exact h'
  ·rw[List.drop_eq_nil_of_le h']at h;cases h
 rw[List.drop_eq_getElem_cons hc]at h
 cases h
 exact⟨by simp,rfl⟩
theorem xQ{n m c:Nat}(h:c<m):(itsL n m)[c]? = some (.ref (n+c)):=by
 unfold itsL
 rw[zzn,zyy h]
 rfl
def Told(src:List (Addr×Array Value))(k c:Nat)(vs:List Value):Prop:=vs.length=c/\∀(j:Nat) (p:Addr×Array Value),j<c->src[j]? = some p->p.2[k]? = vs[j]?
theorem Told.push{src:List (Addr×Array Value)}{k c:Nat}{vs:List Value}{p:Addr×Array Value}{v:Value}(t:Told src k c vs)(hc:src[c]? = some p)(hv:p.2[k]? = some v):Told src k (c+1) (vs++[v]):=by
 refine⟨by simp[t.1],fun j q hj hq=>?_⟩
 by_cases z:j=c
 ·subst z
  rw[hc]at hq
  cases hq
  rw[hv,zzF (by rw[t.1];exact zzj _),t.1]
  simp
 ·rw[t.2 j q (by omega) hq,zzE (by rw[t.1];omega)]
end
abbrev tuO(xs:List Value):Obj:={ cls:=.type "tuple",data:=.seq xs.toArray }
abbrev ziO(TI TO:Addr):Obj:={ cls:=.type "zip",data:=.fields #[.none,.bool false,.bool false,.ref TI,.ref TO] }
section
variable{X:Cx}{pins:List (Addr×Obj)}{σ:St}{H:Hp}{s:Shared}
theorem Inv.trackF{a:Addr}{o:HO}(I:Inv X pins σ H s)(hf:FpOk X pins H a)(new:ObjOk X.prog X.w (upd H a o) s.heap a o):Inv X pins σ (upd H a o) s:=by
 obtain⟨hn,hl,hfs,hs,hc,hp⟩:=hf
 have tr:∀b q,H b=some q->upd H a o b=some q:=fun b q e=>by rw[aq (bL e hn)];exact e
 refine⟨I.ok,I.os,I.bare,⟨I.base.keep,I.base.slot,fun b q e n hx=>?_,I.base.there,fun b xs q=>tr _ _ (I.base.tups b xs q),fun b o u q=>tr _ _ (I.base.frzs b o u q),fun b ps q=>?_⟩,I.loc,I.cell,?_,fun x d q=>?_,fun p hq=>?_,fun b q e=>?_,I.len⟩
 ·have:b≠a:=by
   rintro rfl
   rcases hs with h|h
   ·exact hx h
   ·exact absurd (zzz (zzq e) h) (zyi _)
  rw[aq this];exact I.base.free b q e n hx
 ·obtain⟨m,z⟩:=I.base.tbls b ps q
  exact⟨m,tr _ _ z⟩
 ·rw[aq (Ne.symm hl)];exact I.free
 ·rw[aq (hc x d q)];exact I.freeC x d q
 ·obtain⟨e1,e2,r⟩:=I.pin p hq
  exact⟨e1,by rw[aq (hp p hq)];exact e2,r⟩
 ·by_cases z:b=a
  ·subst z
   rw[ak]at e;cases e
   exact new
  ·rw[aq z]at e
   exact(I.hok b q e).stay (fun _ _ _ q=>q) (fun d q=>tr _ _ q) fun d xs q=>tr _ _ q
theorem FpOk.upd{a b:Addr}{o:HO}(f:FpOk X pins H b)(hne:b≠a):FpOk X pins (upd H a o) b:=⟨by rw[aq hne];exact f.1,f.2⟩
end
inductive Laid:Hp->List (List V)->List Addr->Hp->Prop
 |nil {H:Hp}:Laid H [] [] H
 |snoc {H H1:Hp}{rows:List (List V)}{Ts:List Addr}{r:List V}{T:Addr}:Laid H rows Ts H1->H1 T=none->Laid H (rows++[r]) (Ts++[T]) (upd H1 T (.tup r))
def xR(xss:List (List V))(i:Nat)(r:List V):Prop:=r.length=xss.length/\∀(j:Nat) xs,xss[j]? = some xs->xs[i]? = r[j]?
def xS(xss:List (List V))(rows:List (List V)):Prop:=(∀(i:Nat) r,rows[i]? = some r->xR xss i r)/\∃xs∈xss,xs.length <= rows.length
def SrcV(xss:List (List V))(src:List (Addr×Array Value)):Prop:=xss.length=src.length/\∀(j:Nat) xs (p:Addr×Array Value),xss[j]? = some xs->src[j]? = some p->Vals xs p.2.toList
theorem Vals.got:∀{xs:List V}{us:List Value}{i:Nat}{u:Value},Vals xs us->us[i]? = some u->∃x,xs[i]? = some x/\RelV x u:=fun {xs us i u} r e=>by
 have hi:i<us.length:=cY e
 have hx:xs[i]? = some (xs[i]'(by rw[r.length];exact hi)):=by simp
 obtain⟨u',e',ru⟩:=r.get hx
 rw[e]at e'
 cases e'
 exact⟨_,hx,ru⟩
theorem qQ{i:Nat}:∀{xss:List (List V)}{src:List (Addr×Array Value)}{vs:List Value},SrcV xss src->vs.length=src.length->(∀(j:Nat) (p:Addr×Array Value),src[j]? = some p->p.2[i]? = vs[j]?)->∃r,xR xss i r/\Vals r vs
 |[],src,vs,hv,hl,_=>by
  have h0:src=[]:=zzN.mp (by rw[←hv.1];rfl)
  subst h0
  have h1:vs=[]:=zzN.mp (by rw[hl];rfl)
  subst h1
  exact⟨[],⟨rfl,fun j xs h=>by simp at h⟩,.nil⟩
 |xs::xss,[],vs,hv,hl,_=>absurd hv.1 (by simp)
 |xs::xss,p::src,[],hv,hl,_=>absurd hl (by simp)
 |xs::xss,p::src,v::vs,hv,hl,h=>by
  obtain⟨r,hr,rv⟩:=qQ (xss:=xss) (src:=src) (vs:=vs) (i:=i) ⟨by simpa using hv.1,fun j xs p h1 h2=>hv.2 (j+1) xs p (by simpa using h1) (by simpa using h2)⟩ (by simpa using hl) fun j p hj=>by
   have:=h (j+1) p (by simpa using hj)
   simpa using this
  have h0:=h 0 p rfl
  have h0:p.2[i]? = some v:=by simpa using h0
  obtain⟨x,hx,rx⟩:=(hv.2 0 xs p rfl rfl).got (u:=v) (i:=i) (by rw[zyl];exact h0)
  refine⟨x::r,⟨by simp[hr.1],fun j ys hj=>?_⟩,.cons rx rv⟩
  cases j with
  |zero=>simp at hj;subst hj;simpa using hx
  |succ j=>simpa using hr.2 j ys (by simpa using hj)
theorem kM{xss:List (List V)}{src:List (Addr×Array Value)}{i:Nat}{vs:List Value}(hv:SrcV xss src)(ht:Told src i src.length vs):∃r,xR xss i r/\Vals r vs :=
 qQ hv ht.1 fun j p hj=>ht.2 j p (cY hj) hj
theorem Hr{xss:List (List V)}{src:List (Addr×Array Value)}{i:Nat}(hv:SrcV xss src)(h:∃(j:Nat) (p:Addr×Array Value),src[j]? = some p/\p.2[i]? = none):∃xs∈xss,xs.length <= i:=by
 obtain⟨j,p,hj,hp⟩:=h
 have lt:j<xss.length:=by rw[hv.1];exact cY hj
 have hx:xss[j]? = some xss[j]:=by simp[lt]
 have r:=hv.2 j _ p hx hj
 refine⟨xss[j],zzU lt,?_⟩
 have e:xss[j].length=p.2.size:=by have:=r.length;simpa using this
 have hp:=Array.getElem?_eq_none_iff.mp hp
 rw[e]
 exact hp
section
def ownZ(n m S:Nat):List Addr:=S::(List.range (m+3)).map (n + ·)
theorem ownZ_mem{n m S b:Nat}:b∈ownZ n m S↔b=S∨n <= b/\b<n+m+3:=by
 unfold ownZ
 simp only[zzi,zzb,zzy]
 constructor
 ·rintro(h|⟨a,h1,h2⟩)
  ·exact .inl h
  ·exact .inr ⟨by omega,by omega⟩
 ·rintro(h|⟨h1,h2⟩)
  ·exact .inl h
  ·exact .inr ⟨b - n,by omega,by omega⟩
theorem oO{n m S b:Nat}(h:b∉ownZ n m S):b≠S/\(b<n∨n+m+2<b):=by
 have h1:¬(b=S):=fun z=>h (ownZ_mem.mpr (.inl z))
 have h2:¬(n <= b/\b<n+m+3):=fun z=>h (ownZ_mem.mpr (.inr z))
 exact⟨h1,by omega⟩
theorem kN{n m b:Nat}(h:b<n∨n+m+2<b):b<n∨b=n+m∨n+m+2<b:=h.imp_right .inr
theorem Laid.len{H H':Hp}{rows:List (List V)}{Ts:List Addr}(l:Laid H rows Ts H'):Ts.length=rows.length:=by
 induction l with
 |nil=>rfl
 |snoc _ _ ih=>simp[ih]
end
end L2
namespace PySem
namespace F
theorem zip_no_len:typeLookup (.type "zip") "__len__" = pure none:=by rw[typeLookup_type,builtinLookup_eq_fast];kernel_rfl
theorem zip_no_hint:typeLookup (.type "zip") "__length_hint__" = pure none:=by rw[typeLookup_type,builtinLookup_eq_fast];kernel_rfl
end F
end PySem
namespace L2
open PySem PySem.Spec PyProof.Rows
section
def FD(xss:List (List V))(H:Hp)(Q:VK):Prop:=∀(rows:List (List V)) (Ts:List Addr) (H':Hp) (l:Addr),xS xss rows->Laid H rows Ts H'->H' l=none->Ts.length <= sizeLine->Q (.ref l) (upd H' l (.lst (Ts.map V.ref)))
theorem qR:∀(Ts:List Addr),Vals (Ts.map V.ref) (Ts.map Value.ref)
 |[]=>.nil
 |T::Ts=>.cons rfl (qR Ts)
theorem qS:bootBuiltins "list" = some (.type "list"):=by decide +kernel
end
end L2
namespace DL
open PySem PySem.Spec PyProof.Rows L2
variable[TB]
variable[Frm]
omit [Frm] in
theorem Reps.of{K:PySem.W.Frag}{pp:Option Addr}{M:List Addr}{H:Hp}:∀{ds:List D}{xs:List V},ds.length=xs.length->(∀(i:Nat) d v,ds[i]? = some d->xs[i]? = some v->Rep K pp M H d v)->Reps K pp M H ds xs
 |[],[],_,_=>.nil
 |[],_::_,h,_=>absurd h (by simp)
 |_::_,[],h,_=>absurd h (by simp)
 |d::ds,x::xs,hl,h=>.cons (h 0 d x rfl rfl) (Reps.of (by simpa using hl) fun i d v hd hv=>h (i+1) d v (by simpa using hd) (by simpa using hv))
omit [Frm] in
theorem sP{H H':Hp}{rows:List (List V)}{Ts:List Addr}(l:Laid H rows Ts H'):Same H H'/\∀(i:Nat) T r,Ts[i]? = some T->rows[i]? = some r->H' T=some (.tup r):=by
 induction l with
 |nil=>exact⟨fun _ _ h=>h,fun i T r h=>by simp at h⟩
 |@snoc H1 rows Ts r T l hn ih =>
  have s1:Same H1 (upd H1 T (.tup r)):=oG hn
  refine⟨fun b o h=>s1 b o (ih.1 b o h),fun i T' r' hT hr=>?_⟩
  have ln:=l.len
  rcases Nat.lt_or_ge i Ts.length with z|z
  ·rw[zzE z]at hT
   rw[zzE (by omega)]at hr
   exact s1 _ _ (ih.2 i T' r' hT hr)
  ·have hi:i=Ts.length:=by
    have:=cY hT
    simp at this
    omega
   subst hi
   rw[zzF (zzj _)]at hT
   rw[zzF (by omega),ln]at hr
   simp at hT hr
   subst hT hr
   exact ak
def Bu(dss:List (List D))(zs:List D):Prop:=(∃l∈dss,zs.length=l.length)/\(∀l∈dss,zs.length <= l.length)/\∀(i:Nat) d,zs[i]? = some d->∃r:List D,d=.tup r/\r.length=dss.length/\∀(j:Nat) l,dss[j]? = some l->l[i]? = r[j]?
omit [Frm] in
theorem xT{K:PySem.W.Frag}{pp:Option Addr}{M:List Addr}{H H':Hp}{dss:List (List D)}{xss rows:List (List V)}{Ts:List Addr}{zs:List D}(hz:Bu dss zs)(hl:dss.length=xss.length)(hr:∀(j:Nat) ds xs,dss[j]? = some ds->xss[j]? = some xs->Reps K pp M H ds xs)
  (ho:xS xss rows) (l:Laid H rows Ts H'):Reps K pp M H' zs (Ts.map V.ref):=by
 obtain⟨⟨l0,hl0,e0⟩,hle,hrow⟩:=hz
 obtain⟨hro,xs0,hx0,e1⟩:=ho
 obtain⟨sm,hat⟩:=sP l
 have mv:Mv K pp M H M H':=(SameP.of sm).mv
 have lens:∀(j:Nat) ds xs,dss[j]? = some ds->xss[j]? = some xs->ds.length=xs.length:=fun j ds xs h1 h2=>(hr j ds xs h1 h2).length
 have n1:zs.length <= rows.length:=by
  obtain⟨j,hj⟩:=List.mem_iff_getElem?.mp hx0
  have lt:j<dss.length:=by rw[hl];exact cY hj
  have:=lens j dss[j] xs0 (by simp[lt]) hj
  have:=hle dss[j] (zzU lt)
  omega
 have n2:rows.length <= zs.length:=by
  obtain⟨j,hj⟩:=List.mem_iff_getElem?.mp hl0
  have lt:j<xss.length:=by rw[←hl];exact cY hj
  have h2:=lens j l0 xss[j] hj (by simp[lt])
  rcases Nat.eq_zero_or_pos rows.length with z|z
  ·omega
  ·have hlast:rows[rows.length - 1]? = some (rows[rows.length - 1]'(by omega)):=by simp
   obtain⟨q1,q2⟩:=hro _ _ hlast
   have:=q2 j xss[j] (by simp[lt])
   rw[zzm (l:=rows[rows.length - 1]) (i:=j) (by rw[q1];exact lt)]at this
   have:=cY this
   omega
 refine Reps.of (by rw[zza,l.len];omega) fun i d v hd hv=>?_
 rw[zzn]at hv
 have hiT:i<Ts.length:=by rw[l.len];have:=cY hd;omega
 rw[zzm hiT]at hv
 simp at hv
 subst hv
 have hir:i<rows.length:=by rw[←l.len];exact hiT
 have hri:rows[i]? = some rows[i]:=by simp[hir]
 obtain⟨r,rfl,r1,r2⟩:=hrow i d hd
 obtain⟨q1,q2⟩:=hro i _ hri
 simp only[Rep]
 refine⟨Ts[i],rows[i],rfl,hat i _ _ (by simp[hiT]) hri,Reps.of (by rw[r1,q1,hl]) fun j d v hd hv=>?_⟩
 have lt:j<dss.length:=by rw[←r1];exact cY hd
 have lt':j<xss.length:=by rw[←hl];exact lt
 have a1:=r2 j dss[j] (by simp[lt])
 have a2:=q2 j xss[j] (by simp[lt'])
 rw[hd]at a1
 rw[hv]at a2
 obtain⟨v',e,rv⟩:=(hr j dss[j] xss[j] (by simp[lt]) (by simp[lt'])).get' a1
 rw[a2]at e
 cases e
 exact rv.mv mv
omit [Frm] in
theorem CW(xs ys:List D):Bu [xs,ys] (zipD xs ys):=by
 have L:=eM xs ys
 refine⟨?_,fun l hl=>?_,fun i d h=>?_⟩
 ·rcases Nat.le_total xs.length ys.length with z|z
  ·exact⟨xs,by simp,by omega⟩
  ·exact⟨ys,by simp,by omega⟩
 ·simp only[zzi,zzR,or_false]at hl
  rcases hl with rfl|rfl<;>omega
 ·obtain⟨x,y,h1,h2,rfl⟩:=oN xs ys i d h
  refine⟨_,rfl,rfl,fun j l hj=>?_⟩
  rcases j with _|_|j<;>simp at hj<;>(subst hj;simpa)
end DL
namespace L2
open PySem PySem.Spec PyProof.Rows
section
variable{X:Cx}
theorem xU:∀(bs:List Bool),(List.range bs.length).any (fun i=>bs.getD i false)=bs.any id:=by
 intro bs
 rw[zyw]
 simp only[List.any_eq_true,zzy]
 constructor
 ·rintro⟨i,hi,h⟩
  rw[zzg,zzm hi]at h
  exact⟨bs[i],zzU hi,by simpa using h⟩
 ·rintro⟨b,hb,h⟩
  obtain⟨i,hi,e⟩:=List.mem_iff_getElem.mp hb
  refine⟨i,hi,?_⟩
  rw[zzg,zzm hi]
  subst e
  simpa using h
theorem sQ{prog:Program}{w:World}{A:Around}{bs:List Bool}{its:List Value}(r:Vals (bs.map V.bl) its):TruthOf prog w A (fun i v=>its.toArray[i]? = some v) (fun i=>bs.getD i false):=by
 intro i v s Q E h q
 have h:its[i]? = some v:=by simpa using h
 have hi:i<bs.length:=by
  have:=r.length
  have:=cY h
  simp at *
  omega
 obtain⟨u,hu,ru⟩:=r.get (i:=i) (x:=.bl bs[i]) (by simp[hi])
 rw[h]at hu
 cases hu
 cases ru
 have q:Q (bs.getD i false) s:=q
 rw[zzg,zzm hi]at q
 exact wpAny_truthy_bool q
theorem Ac(hc:X.calm=true):dO X (.builtin "any") (fun xs H Q=>∃(p:Addr) (bs:List Bool),xs=[.ref p]/\SqL X.K H p (bs.map V.bl)/\Q (.bl (bs.any id)) H):=by
 intro pins s σ H xs us Q I r h
 obtain⟨p,bs,rfl,hl,q⟩:=h
 obtain⟨u,rfl,e⟩:=kw r
 cases e
 obtain⟨its,rv,pl,_⟩:=I.list hl
 have hlen:its.toArray.size=bs.length:=by have:=rv.length;simpa using this.symm
 have hne:p≠s.heap.objs.size:=by
  obtain⟨o,ho,_⟩:=pl.isList
  exact zzA (zzq ho)
 refine call_any_walk (wpAny_pyIter_list pl.isList ⟨s.heap.objs.size,_,_,_,_,_,_,rfl,Walks.list (A:=X.A.in1) (I.ok.hd hc) s.heap.objs.size p hne its.toArray,⟨⟨_,zzs _ rfl,rfl,rfl⟩,pl.isList.push _⟩,sQ rv,fun h' tk hk=>⟨.bl (bs.any id),H,I.kept fun b o e=>hk b o ?_ (zzf _ e),?_,q⟩⟩)
 ·intro hb
  have:b=s.heap.objs.size:=by simpa using hb
  exact absurd (zzq e) (by rw[this];exact zyi _)
 ·show Value.bool _=Value.bool _
  rw[hlen,xU]
end
end L2
namespace DL
open PySem PySem.Spec L2
open PyProof.Rows hiding St
variable[TB]
variable[Frm]
section
variable{X:Cx}
def sR:List D->Option (List Bool)
 |[]=>some []
 |.bl b::r=>(sR r).map (b :: ·)
 |_=>none
theorem qT:∀bs:List Bool,sR (bs.map D.bl)=some bs
 |[]=>rfl
 |n::r=>by simp[sR,qT r]
theorem uI:∀{ds:List D}{bs:List Bool},sR ds=some bs->ds=bs.map D.bl
 |[],ns,h=>by cases h;rfl
 |.bl i::r,ns,h=>by
  simp only[sR,zyB]at h
  obtain⟨ms,h,rfl⟩:=h
  rw[uI h];rfl
theorem uJ{K:PySem.W.Frag}{pp:Option Addr}{M:List Addr}{H:Hp}:∀{ns:List Bool}{xs:List V},Reps K pp M H (ns.map D.bl) xs->xs=ns.map V.bl
 |[],xs,h=>by simpa only[zzS,Reps]using h
 |n::r,xs,h=>by
  simp only[zze,Reps,Rep]at h
  obtain⟨x,t,rfl,rfl,h⟩:=h
  rw[uJ h];rfl
def gTru(f:List Bool->Bool):DSp:=fun ds P=>match ds with
 |[.lst xs]=>match sR xs with
  |some bs=>P (.bl (f bs))
  |none=>False
 |_=>False
theorem xV{f:List Bool->Bool}{bs:List Bool}{P:D->Prop}(h:P (.bl (f bs))):gTru f [.lst (bs.map D.bl)] P:=by
 unfold gTru
 simp only[qT]
 exact h
theorem uK{f:List Bool->Bool}{ds:List D}{P:D->Prop}(h:gTru f ds P):∃bs:List Bool,ds=[.lst (bs.map D.bl)]/\P (.bl (f bs)):=by
 unfold gTru at h
 split at h
 ·rename_i xs
  cases e:sR xs with
  |none=>rw[e]at h;exact h.elim
  |some ns =>
   rw[e]at h
   exact⟨ns,by rw[uI e],h⟩
 ·exact h.elim
theorem FE(hc:X.calm=true:=by rfl):CallD X (.builtin "any") (gTru fun bs=>bs.any id):=by
 refine⟨fun ds P P' f h=>?_,_,Ac hc,fun {pp} M H ds vs Q _ r h=>?_⟩
 ·obtain⟨ns,rfl,h2⟩:=uK h
  exact xV (f _ h2)
 ·obtain⟨ns,rfl,h2⟩:=uK h
  simp only[Reps,Rep]at r
  obtain⟨x,_,rfl,⟨a,ys,rfl,_,_,ha,ry⟩,rfl⟩:=r
  refine⟨a,ns,rfl,SqL.of (by rw[ha,uJ ry]),h2 H _ .refl de⟩
theorem kO{x:Str}{pos:Pos}{i:Int}{t:Tok}(hg:Gl X x)(hm:X.mg x=some (.int i t))(hd:(x == ("__debug__" : Str))=false:=by decide):PED X (.Name x pos) (dC (.int i)) :=
 .con (BY (v:=.int i) hg hm ⟨t,rfl⟩ hd) fun _ _ _=>by simp only[Rep]
end
end DL
namespace L2
open PySem PySem.Spec PyProof.Rows
section
variable{prog:Program}{w:World}{A:Around}{E:Value->Shared->Prop}{s:Shared}
theorem CY{elts:List Expr}{x1}{pos:Pos}{z TI TO T:Addr}{f0 f1:Value}{Q:Unit->Shared->Prop}(hf:OwnF f0)(hz:dj s.heap z TI TO f0 f1)
  (hQ:∀h' f0',OwnF f0'->dj h' z TI TO f0' f1->Heap.SameBut z s.heap h'->Q () { s with heap:=h' }) :
  wpAny (model prog w) A (letOwnedTupleGo (.Tuple elts x1 pos) (.ref z) (.ref T)) Q E s:=by
 unfold letOwnedTupleGo
 refine wpAny_bind (wpAny_load hz ?_)
 show wpAny _ _ (if (["enumerate","zip","dict_itemiterator","dict_reverseitemiterator","odict_iterator","itertools.zip_longest","itertools.pairwise"].contains "zip" &&
   (#[f0,f1,.bool false,.ref TI,.ref TO]:Array Value)[0]? == some (rawInt T))=true then _ else _) Q E s
 split
 ·refine wpAny_bind (wpAny_rule ?_)
  show wpAny _ _ (setField (.ref z) 0 .none) Q E s
  exact wpAny_setField_rec hz (by simp) fun h' hz' hs'=>hQ h' .none (.inl rfl) hz' hs'
 ·exact wpAny_pure (hQ s.heap f0 hf hz (Heap.SameBut.refl _ _))
end
def fpZ(n m:Nat):List Addr:=(List.range (m+3)).map (n + ·)
theorem fpZ_mem{n m b:Nat}:b∈fpZ n m↔n <= b/\b<n+m+3:=by
 unfold fpZ
 simp only[zzb,zzy]
 constructor
 ·rintro⟨a,h1,h2⟩
  omega
 ·rintro⟨h1,h2⟩
  exact⟨b - n,by omega,by omega⟩
theorem xW{n m c:Nat}(h:c∈fpZ n m):c=n+m+2∨c=n+m∨c=n+m+1∨(c - n<m/\n+(c - n)=c):=by
 have:=fpZ_mem.mp h
 omega
theorem sS{n m b:Nat}(h:b∉fpZ n m):b<n∨n+m+2<b:=by
 have:¬(n <= b/\b<n+m+3):=fun z=>h (fpZ_mem.mpr z)
 omega
theorem FF{n m b:Nat}(h:b∉fpZ n m):b≠n+m+2:=by
 have:=sS h
 omega
end L2
namespace DL
open PySem PySem.Spec L2
open PyProof.Rows hiding St
variable[TB]
variable[Frm]
mutual
def flD:D->Prop
 |.non=>True
 |.bl _=>True
 |.int _=>True
 |.str _=>True
 |.ty _=>True
 |.cls _=>True
 |.tup ds=>flDs ds
 |_=>False
def flDs:List D->Prop
 |[]=>True
 |d::r=>flD d/\flDs r
end
omit [Frm] in
mutual
theorem Rep.flat{K:PySem.W.Frag}{pp:Option Addr}{M M':List Addr}{H:Hp}:∀(d:D) (v:V),flD d->Rep K pp M H d v->Rep K pp M' H d v
 |.non,_,_,h=>by simp only[Rep]at h ⊢;exact h
 |.bl _,_,_,h=>by simp only[Rep]at h ⊢;exact h
 |.int _,_,_,h=>by simp only[Rep]at h ⊢;exact h
 |.str _,_,_,h=>by simp only[Rep]at h ⊢;exact h
 |.ty _,_,_,h=>by simp only[Rep]at h ⊢;exact h
 |.cls _,_,_,h=>by simp only[Rep]at h ⊢;exact h
 |.tup ds,_,f,h=>by
  simp only[Rep]at h ⊢
  simp only[flD]at f
  obtain⟨a,xs,e,ha,r⟩:=h
  exact⟨a,xs,e,ha,Reps.flat ds xs f r⟩
 |.lst _,_,f,_=>by simp only[flD]at f
 |.dK _ _,_,f,_=>by simp only[flD]at f
 |.dT _ _,_,f,_=>by simp only[flD]at f
 |.pen,_,f,_=>by simp only[flD]at f
 |.exc _,_,f,_=>by simp only[flD]at f
 |.exa _ _,_,f,_=>by simp only[flD]at f
theorem Reps.flat{K:PySem.W.Frag}{pp:Option Addr}{M M':List Addr}{H:Hp}:∀(ds:List D) (xs:List V),flDs ds->Reps K pp M H ds xs->Reps K pp M' H ds xs
 |[],xs,_,h=>by simp only[Reps]at h ⊢;exact h
 |d::ds,xs,f,h=>by
  simp only[Reps]at h ⊢
  simp only[flDs]at f
  obtain⟨x,r,e,h1,h2⟩:=h
  exact⟨x,r,e,Rep.flat d x f.1 h1,Reps.flat ds r f.2 h2⟩
end
section
variable{K:PySem.W.Frag}{M:List Addr}{H:Hp}
omit [TB] [Frm] in
mutual
theorem RO.nt{pp:Option Addr}:∀(q:O) (v:V) (A:List Addr),RO K pp M H q v A->∀a∈A,∀ps,H a≠some (.tbl ps)
 |.val d,v,A,h,a,ha=>by simp only[RO]at h;rw[h.1]at ha;simp at ha
 |.lst os,v,A,h,a,ha=>by
  simp only[RO]at h
  obtain⟨b,xs,B,e,hb,rfl,r⟩:=h
  rcases zzi.mp ha with rfl|ha
  ·rw[hb];intro _ z;cases z
  ·exact ROs.nt os xs B r a ha
 |.dct ks os,v,A,h,a,ha=>by
  simp only[RO]at h
  obtain⟨b,kvs,B,e,hb,e2,rfl,r⟩:=h
  rcases zzi.mp ha with rfl|ha
  ·rw[hb];intro _ z;cases z
  ·exact ROs.nt os _ B r a ha
 |.tup os,v,A,h,a,ha=>by
  simp only[RO]at h
  obtain⟨b,xs,e,hb,r⟩:=h
  exact ROs.nt os xs A r a ha
 |.dck ks os,v,A,h,a,ha=>by
  simp only[RO]at h
  obtain⟨b,kvs,B,e,hb,e2,rfl,r⟩:=h
  rcases zzi.mp ha with rfl|ha
  ·rw[hb];intro _ z;cases z
  ·exact ROs.nt os _ B r a ha
theorem ROs.nt{pp:Option Addr}:∀(os:List O) (xs:List V) (A:List Addr),ROs K pp M H os xs A->∀a∈A,∀ps,H a≠some (.tbl ps)
 |[],xs,A,h,a,ha=>by simp only[ROs]at h;rw[h.2]at ha;simp at ha
 |o::os,xs,A,h,a,ha=>by
  simp only[ROs]at h
  obtain⟨x,r,B,C,e,rfl,h1,h2⟩:=h
  rcases zzx.mp ha with ha|ha
  ·exact RO.nt o x B h1 a ha
  ·exact ROs.nt os r C h2 a ha
end
end
section
variable{K:PySem.W.Frag}{pp:Option Addr}{M:List Addr}{H:Hp}
omit [Frm] in
mutual
theorem RO.live:∀(q:O) (v:V) (A:List Addr),RO K pp M H q v A->∀a∈A,H a≠none
 |.val d,v,A,h,a,ha=>by simp only[RO]at h;rw[h.1]at ha;simp at ha
 |.lst os,v,A,h,a,ha=>by
  simp only[RO]at h
  obtain⟨b,xs,B,e,hb,rfl,r⟩:=h
  rcases zzi.mp ha with rfl|ha
  ·rw[hb];intro z;cases z
  ·exact ROs.live os xs B r a ha
 |.dct ks os,v,A,h,a,ha=>by
  simp only[RO]at h
  obtain⟨b,kvs,B,e,hb,e2,rfl,r⟩:=h
  rcases zzi.mp ha with rfl|ha
  ·rw[hb];intro z;cases z
  ·exact ROs.live os _ B r a ha
 |.tup os,v,A,h,a,ha=>by
  simp only[RO]at h
  obtain⟨b,xs,e,hb,r⟩:=h
  exact ROs.live os xs A r a ha
 |.dck ks os,v,A,h,a,ha=>by
  simp only[RO]at h
  obtain⟨b,kvs,B,e,hb,e2,rfl,r⟩:=h
  rcases zzi.mp ha with rfl|ha
  ·rw[hb];intro z;cases z
  ·exact ROs.live os _ B r a ha
theorem ROs.live:∀(os:List O) (xs:List V) (A:List Addr),ROs K pp M H os xs A->∀a∈A,H a≠none
 |[],xs,A,h,a,ha=>by simp only[ROs]at h;rw[h.2]at ha;simp at ha
 |o::os,xs,A,h,a,ha=>by
  simp only[ROs]at h
  obtain⟨x,r,B,C,e,rfl,h1,h2⟩:=h
  rcases zzx.mp ha with ha|ha
  ·exact RO.live o x B h1 a ha
  ·exact ROs.live os r C h2 a ha
end
omit [Frm] in
theorem ROs.vals:∀{ds:List D}{xs:List V},Reps K pp M H ds xs->ROs K pp M H (ds.map O.val) xs []
 |[],xs,h=>by simp only[Reps]at h;simp only[zzS,ROs];exact⟨h,trivial⟩
 |d::ds,xs,h=>by
  simp only[Reps]at h
  obtain⟨x,r,rfl,h1,h2⟩:=h
  simp only[zze,ROs,RO]
  exact⟨x,r,[],[],rfl,rfl,⟨rfl,h1⟩,ROs.vals h2⟩
end
section
variable{K:PySem.W.Frag}{F:Fx}{M:List Addr}{σ:St}{ρ:DS}{i:Nat}{q q':O}
theorem RSt.newObj{M1:List Addr}{H1 H':Hp}{A:List Addr}{v:V}(r:RSt K F M1 H1 σ ρ)(s:SameP K F.pp H1 H')(hn:A.Nodup)(hA:∀a∈A,H1 a=none/\F.pp≠some a)(ro:RO K F.pp (A++M1) H' q v A)(i:Nat) :
  Mv K F.pp M1 H1 (A++M1) H'/\RSt K F (A++M1) H' (σ.set i (some v)) (ρ.set i (.obj q)):=by
 have m1:Mv K F.pp M1 H1 M1 H':=s.mv
 have m:Mv K F.pp M1 H1 (A++M1) H':=by
  refine⟨m1.tup,fun a o e n p=>⟨(m1.oth a o e n p).1,fun z=>?_⟩,m1.pen,m1.tb⟩
  rcases zzx.mp z with z|z
  ·rw[(hA a z).1]at e;cases e
  ·exact n z
 have f0:∀a∈A,F.H0 a=none:=fun a ha=>by
  cases e:F.H0 a with
  |none=>rfl
  |some o=>exact absurd (hA a ha).1 (r.same.live a (by rw[e];intro z;cases z))
 refine⟨m,⟨by simp[r.len],fun j t o h1 h2=>?_,r.ow.step m i (fun j e=>zzC (Ne.symm e)) (fun j e=>zzC (Ne.symm e)) (fun A0 _ _=>⟨A,fun t o e1 e2=>?_,fun b hb=>⟨zzx.mpr (.inl hb),f0 b hb,(hA b hb).2,.inr fun z=>r.liv.m b z (hA b hb).1⟩,fun a ha p0 z0 _=>⟨zzx.mpr (.inr ha),(s.ow (M:=M1) a ha p0 z0).2⟩⟩),fun a ha=>zzx.mpr (.inr (r.sub a ha)),r.same.trans s.toSameQ,r.old,⟨fun a ha=>?_,fun p e=>s.live p (r.liv.p p e)⟩,r.lk.cl m⟩⟩
 ·by_cases e:i=j
  ·subst e
   rw[aZ h1,aZ h2]
   exact⟨v,rfl⟩
  ·rw[zzC e]at h1 h2
   have q':=r.sl j t o h1 h2
   cases t with
   |nil=>trivial
   |val d=>obtain⟨v,e,q⟩:=q';exact⟨v,e,q.mv m⟩
   |pin w d=>obtain⟨v,e,ew,q⟩:=q';exact⟨v,e,ew,q.mv m⟩
   |own es =>
    obtain⟨l',zs,rfl,hm',h0',hp',hl'',hr'⟩:=q'
    exact⟨l',zs,rfl,zzx.mpr (.inr hm'),h0',hp',(s.ow (M:=M1) l' hm' hp' h0').2 _ hl'' (by intro _ z;cases z),hr'.mv m⟩
   |obj q=>exact q'
 ·rw[aZ e1,aZ e2]
  exact⟨hn,v,rfl,ro⟩
 ·rcases zzx.mp ha with ha|ha
  ·exact RO.live q v A ro a ha
  ·exact s.live a (r.liv.m a ha)
end
end DL
namespace PySem
section
variable{prog:Program}{w:World}{K:Type}[DecidableEq K]{knd:HeapKind prog w K}{A:Around}{E:Value->Shared->Prop}{z:Shared}
theorem Ad{c b:Addr}{ps:List (K×Addr×Value)}{q:K}{x:Value}{R:Value->Shared->Prop}(room:knd.room A)(isK:knd.is z.heap q b)(D:z.heap.DictOfH knd c ps)(few:ps.length <= sizeLine)
  (old:∀p,atKey ps q=some p->R p.2 { z with toks:=z.toks+knd.draws q })
  (new:atKey ps q=none->∀h2,h2.DictOfH knd c (storedH ps q b x)->Heap.SameBut c z.heap h2->R x { z with heap:=h2,toks:=z.toks+knd.draws q }) :
  wpAny (model prog w) A (dictSetDefault c (.ref b) x) R E z:=by
 obtain⟨ob,en,ep,g1,g2,g3,g4,g5,g6⟩:=D
 unfold dictSetDefault
 try with_reducible refine wpAny_holding ?_
 refine wpAny_bind (knd.pyHash room isK ?_)
 refine wpAny_bind (wpAny_dictFind_heap (s:={ z with toks:=z.toks+knd.draws q }) room isK g1 g3 g4 g5 g6 (fun none_=>?_) (fun j p at_=>?_))
 ·have few2:en.size <= sizeLine:=by rw[size_of_entries g4];exact few
  have a0:=atKey_none_of_get none_
  refine wpAny_bind (wpAny_rule (wpAny_bind (wpAny_updateDictKeys (hz:=few2) (s:={ z with toks:=z.toks+knd.draws q }) g1 g3 (wpAny_pure (new a0 _ ⟨_,_,ep+1,zyg _ g1 (Obj.isFreed_of_dict (Obj.data_mapDictKeys g3 _)),g2.mapDictKeys _,Obj.data_mapDictKeys g3 _,?_,?_,?_⟩ (zzX ..))))))
  all_goals rw[storedH_new a0]
  ·simp[g4,entryOfKey]
  ·intro y hy
   rcases zzx.mp hy with hy|hy
   ·exact knd.keeps (g5 y hy) g1 g3 (zzX ..)
   ·rw[zzw.mp hy]
    exact knd.keeps isK g1 g3 (zzX ..)
  ·rw[zzo,zyV]
   refine zyN.mpr ⟨g6,zzY.mpr ⟨by simp,zyP⟩,fun y hy u hu e=>?_⟩
   have e:y=q:=by rw[zzw.mp hu]at e;exact e
   subst e
   exact not_mem_keys_of_get none_ hy
 ·refine wpAny_bind (wpAny_dictEntries (s:={ z with toks:=z.toks+knd.draws q }) g1 g3 ?_)
  rw[entry_at g4 j,at_]
  exact wpAny_bind (wpAny_rule (wpAny_pure (old p (atKey_of_get g6 at_))))
theorem nj(knd:HeapKind prog w K)(c b:Addr)(x:Value)(plain:(c == sysModules)=false) :
  MeetsIn prog w (Builtin.«dict.setdefault» ⟨[.ref c,.ref b,x],[]⟩) (fun A R z=>knd.room A.in1/\∃q ps,knd.is z.heap q b/\z.heap.DictOfH knd c ps/\ps.length <= sizeLine /\
   (∀p,atKey ps q=some p->R (.ok (.ret p.2)) { z with toks:=z.toks+knd.draws q }) /\
   (atKey ps q=none->∀h2,h2.DictOfH knd c (storedH ps q b x)->Heap.SameBut c z.heap h2->R (.ok (.ret x)) { z with heap:=h2,toks:=z.toks+knd.draws q })) :=
 .of_wp fun A R z ⟨room,q,ps,isK,D,few,old,new⟩=>by
  unfold Builtin.«dict.setdefault»
  refine wpAny_bind ?_
  unfold Builtin.Dict.keyAndDefault
  refine wpAny_bind (wpAny_notOrdered_dict D.typeIs ?_)
  show wpAny _ _ (pure (c,Value.ref b,some x)) _ _ z
  refine wpAny_pure ?_
  show wpAny _ _ (if (c == sysModules)=true then _ else(dictSetDefault c (.ref b) x >>= _)) _ _ z
  rw[if_neg (by rw[plain];exact zzu)]
  exact wpAny_bind (Ad room isK D few (fun p e=>wpAny_pure ⟨p.2,rfl,old p e⟩) fun e h2 D2 sb=>wpAny_pure ⟨x,rfl,new e h2 D2 sb⟩)
end
end PySem
namespace L2
open PySem PySem.Spec PyProof.Rows
section
variable{X:Cx}
def Hs:V->List V->Hp->VK->Prop:=fun x vs H Q=>∃a kvs k b y,x=.ref a/\vs=[.ref b,y]/\H a=some (.dT kvs)/\H b=some (.tup (k.map kV))/\kvs.length<sizeLine /\
 (∀v,valV kvs k=some v->Q v H)/\(valV kvs k=none->Q y (upd H a (.dT (putK kvs k y))))
theorem oP(hu:X.A.units+1<cLine):MtM X "dict.setdefault" Hs:=by
 intro pins s σ H x vs v us Q I rx rv h
 obtain⟨a,kvs,k,b,y,rfl,rfl,e,eb,l,h1,h2⟩:=h
 cases rx
 cases rv with
 |cons r1 rr =>
  obtain⟨u,rfl,ru⟩:=Vals.one rr
  cases r1
  obtain⟨z,plain,xs,rel,dd⟩:=Cl I.hok e
  have hz:xs.length <= sizeLine:=by rw[←Paired.length rel];exact z
  have hl:(putK kvs k y).length <= sizeLine:=by have:=gA kvs k y;omega
  refine call_meetsIn F.slot_dict_setdefault dd.typeIs F.entry_dict_setdefault (F.args_dict_setdefault_3 _ _ _) (nj (tupleKind (aP X.prog X.w)) a b u plain) ⟨tupleKind_room_in1 hu,k,xs,nC I.hok eb,dd,hz,fun p hp=>?_,fun hn h' dd' hs=>?_⟩
  ·have q:=rel.val k
   rw[hp]at q
   cases ev:valV kvs k with
   |none=>rw[ev]at q;exact q.elim
   |some v' =>
    rw[ev]at q
    exact⟨v',H,I.tok _,q,h1 v' ev⟩
  ·have q:=rel.val k
   rw[hn]at q
   cases ev:valV kvs k with
   |some v'=>rw[ev]at q;exact q.elim
   |none =>
    obtain⟨q,es,ep,hq,h2',h3,h4,_,h5⟩:=dd'
    refine⟨y,_,su (ob:=.dT (putK kvs k y)) I (by rw[e];exact True.intro) hs ⟨q,hq⟩ ⟨hl,plain,_,(rel.put k eb ru).keeps fun c ys ec=>?_,q,es,ep,hq,h2',h3,h4,h5⟩,ru,h2 ev⟩
    rw[aq (mW ec e (fun z=>nomatch z))]
    exact ec
end
end L2
namespace L2
open PySem PySem.Spec PyProof.Rows PySem.W
def kRun{α:Type}(c:Nat->Nat->Bool):KasT α->α
 |.ret a=>a
 |.ask i j k=>kRun c (k (c i j))
def KGood{α:Type}(N:Nat)(P:α->Prop):KasT α->Prop
 |.ret a=>P a
 |.ask i j k=>(i<N/\j<N)/\∀b,KGood N P (k b)
theorem KGood.bind{α β:Type}{N:Nat}{P:α->Prop}{R:β->Prop}{f:α->KasT β}(hf:∀a,P a->KGood N R (f a)):∀(t:KasT α),KGood N P t->KGood N R (t.bind f)
 |.ret a,h=>hf a h
 |.ask i j k,h=>⟨h.1,fun b=>KGood.bind hf (k b) (h.2 b)⟩
theorem KGood.end{α:Type}{N:Nat}{P:α->Prop}(c:Nat->Nat->Bool):∀(t:KasT α),KGood N P t->P (kRun c t)
 |.ret a,h=>h
 |.ask i j k,h=>KGood.end c (k (c i j)) (h.2 _)
theorem KGood.wp{α:Type}{N:Nat}{P:α->Prop}{c:Nat->Nat->Bool}{cmp:Nat->Nat->(Bool->Shared->Prop)->Shared->Prop}{s:Shared}
  (hc:∀i j (C:Bool->Shared->Prop),i<N->j<N->C (c i j) s->cmp i j C s):∀(t:KasT α) (Q:α->Shared->Prop),KGood N P t->Q (kRun c t) s->t.kasWp cmp Q s
 |.ret a,Q,_,q=>q
 |.ask i j k,Q,h,q=>hc i j _ h.1.1 h.1.2 (KGood.wp hc (k (c i j)) Q (h.2 _) q)
def PmN(N:Nat)(p:Array Nat):Prop:=p.toList.Perm (List.range N)
section
variable{N:Nat}{p:Array Nat}
theorem PmN.lt(h:PmN N p)(h0:0<N)(i:Nat):p.getD i 0<N:=by
 by_cases hi:i<p.size
 ·have e:p.getD i 0=p[i]:=by simp[Array.getD,hi]
  have hm:p[i]∈p.toList:=Array.mem_toList_iff.mpr (Array.getElem_mem hi)
  rw[e]
  exact zzy.mp (h.mem_iff.mp hm)
 ·have e:p.getD i 0=0:=by simp[Array.getD,hi]
  rw[e]
  exact h0
theorem PmN.rev(h:PmN N p)(i j:Nat):PmN N (kas_rev p i j):=(Array.perm_iff_toList_perm.mp (mirror_perm _ _ _ _)).trans h
theorem PmN.bub(h:PmN N p)(i j:Nat):PmN N (bubble p i j):=(Array.perm_iff_toList_perm.mp (bubble_perm _ _ _)).trans h
theorem oQ(h0:0<N)(h:PmN N p):∀(f n:Nat),KGood N (fun _=>True) (kas_asc p f n)
 |0,n=>trivial
 |f+1,n=>⟨⟨h.lt h0 _,h.lt h0 _⟩,fun b=>by
  dsimp only
  split
  ·trivial
  ·exact oQ h0 h f (n+1)⟩
theorem iH(h0:0<N):∀(f:Nat) (p:Array Nat) (n q:Nat),PmN N p->KGood N (fun r=>PmN N r.1) (kas_desc f p n q)
 |0,p,n,q,h=>h
 |f+1,p,n,q,h=>⟨⟨h.lt h0 _,h.lt h0 _⟩,fun b=>by
  dsimp only
  split
  ·split
   ·exact iH h0 f _ _ _ (h.rev _ _)
   ·exact iH h0 f _ _ _ h
  ·refine⟨⟨h.lt h0 _,h.lt h0 _⟩,fun d=>?_⟩
   dsimp only
   split
   ·exact h
   ·exact iH h0 f _ _ _ h⟩
theorem nL(h0:0<N)(h:PmN N p)(n m:Nat):KGood N (fun r=>PmN N r.2) (kas_tail3 n m p):=by
 unfold kas_tail3
 refine KGood.bind (N:=N) (P:=fun _=>True) (R:=fun(r:Nat×Array Nat)=>PmN N r.2) ?_ _ (oQ h0 (h.rev 0 n) _ _)
 intro m _
 exact h.rev 0 n
theorem iI(h0:0<N)(h:PmN N p)(n m:Nat):KGood N (fun r=>PmN N r.2) (kas_descPart n m p):=KGood.bind (fun r hr=>by
 split
 ·exact nL h0 (hr.rev _ _) _ _
 ·exact nL h0 hr _ _) _ (iH h0 _ _ _ _ h)
theorem nM(h0:0<N)(h:PmN N p)(m:Nat):KGood N (fun r=>PmN N r.2) (kas_count m p):=KGood.bind (fun n _=>by
 split
 ·exact h
 ·split
  ·refine⟨⟨h.lt h0 _,h.lt h0 _⟩,fun b=>?_⟩
   dsimp only
   split
   ·exact h
   ·exact iI h0 (h.rev _ _) _ _
  ·exact iI h0 h _ _) _ (oQ h0 h _ _)
theorem ju(h0:0<N)(h:PmN N p)(k:Nat):∀(f l r:Nat),KGood N (fun _=>True) (kas_place p k f l r)
 |0,l,r=>trivial
 |f+1,l,r=>by
  unfold kas_place
  split
  ·trivial
  ·refine⟨⟨h.lt h0 _,h.lt h0 _⟩,fun b=>?_⟩
   dsimp only
   split
   ·exact ju h0 h k f _ _
   ·exact ju h0 h k f _ _
theorem uL(h0:0<N):∀(f:Nat) (p:Array Nat) (k:Nat),PmN N p->KGood N (PmN N) (kas_bin f p k)
 |0,p,k,h=>h
 |f+1,p,k,h=>KGood.bind (fun l _=>uL h0 f _ _ (h.bub _ _)) _ (ju h0 h k _ _ _)
theorem cq(h0:0<N):KGood N (PmN N) (kas_sort N):=by
 have hp:PmN N (List.toArray (List.range N)):=by unfold PmN;rw[zyz]
 exact KGood.bind (fun r hr=>by
  split
  ·exact uL h0 _ _ _ hr
  ·exact hr) _ (nM h0 hp N)
end
def lexI:List Key->List Key->Bool
 |[],[]=>false
 |[],_::_=>true
 |_::_,[]=>false
 |.inl a::r,.inl b::r'=>if a=b then lexI r r' else decide (a<b)
 |_,_=>false
def srtK(ks:List (List Key)):List (List Key):=if ks.length<2 then ks else(kRun (fun i j=>lexI (ks.getD i []) (ks.getD j [])) (kas_sort ks.length)).toList.map fun i=>ks.getD i []
theorem qU{α:Type}{xs:List α}{d:α}{is:List Nat}(h:is.Perm (List.range xs.length)):(is.map fun i=>xs.getD i d).Perm xs:=by
 refine(h.map _).trans ?_
 have:(List.range xs.length).map (fun i=>xs.getD i d)=xs:=by
  apply List.ext_getElem
  ·simp
  ·intro i h1 h2
   simp[h2]
 rw[this]
theorem qV(ks:List (List Key)):(srtK ks).Perm ks:=by
 unfold srtK
 split
 ·exact List.Perm.refl _
 ·exact qU (KGood.end _ _ (cq (by omega)))
def isI(k:Key)(u:Value):Prop:=∃i t,k=.inl i/\u=Value.int i t
def TupI(h:Heap)(k:List Key)(v:Value):Prop:=∃a o xs n,v=.ref a/\h.get? a=some o/\o.cls=.type "tuple" /\ o.data=.seq xs n/\Paired isI k xs.toList
theorem gh{α β:Type}{R:α->β->Prop}{xs:List α}{ys:List β}(h:Paired R xs ys):xs.length=ys.length:=by
 induction h with
 |nil=>rfl
 |cons _ _ ih=>simp[ih]
section
variable{prog:Program}{w:World}{A:Around}{E:Value->Shared->Prop}{s:Shared}{b fin:Bool}{Q:Bool->Shared->Prop}
theorem FG(o:Bool){x y:Int}{t u:Tok}{Q:Bool->Shared->Prop}(h:Q (decide (x<y)) s):wpAny (model prog w) A (oneLt' o (.int x t) (.int y u)) Q E s:=by
 cases o with
 |true=>exact oneLt_int h
 |false=>exact kat_one _ _ (wpAny_lt_int h)
theorem uM:∀{k1 k2:List Key}{xs ys:List Value} (i:Nat),Paired isI k1 xs->Paired isI k2 ys->fin=decide (xs.length<ys.length)->Q (lexI k1 k2) s->KatLex prog w A b fin Q (xs.zip ys) i s
 |_,_,_,_,i,.nil,.nil,e,q=>by
  subst e
  exact q
 |_,_,_,_,i,.nil,.cons _ _,e,q=>by
  subst e
  exact q
 |_,_,_,_,i,.cons _ _,.nil,e,q=>by
  subst e
  exact q
 |_,_,_,_,i,.cons h1 r1,.cons h2 r2,e,q=>by
  obtain⟨x,t,rfl,rfl⟩:=h1
  obtain⟨y,u,rfl,rfl⟩:=h2
  refine kat_cons (wpAny_eqBool_int ?_)
  by_cases z:x=y
  ·subst z
   have e1:(x == x)=true:=by simp
   rw[e1]
   refine kat_yes (uM (i+1) r1 r2 (by rw[e];simp) ?_)
   simpa[lexI]using q
  ·have e1:(x == y)=false:=by simpa using z
   rw[e1]
   refine kat_no (FG _ ?_)
   simpa[lexI,z]using q
theorem CZ{k1 k2:List Key}{v1 v2:Value}(h1:TupI s.heap k1 v1)(h2:TupI s.heap k2 v2)(q:Q (lexI k1 k2) s):wpAny (model prog w) A (keyLt' (tuples' b) v1 v2) Q E s:=by
 obtain⟨x,ox,xs,n,rfl,hx,_,dx,px⟩:=h1
 obtain⟨y,oy,ys,m,rfl,hy,_,dy,py⟩:=h2
 exact kat_lt hx dx hy dy (uM 0 px py (by simp) q)
end
def RawD(d:Addr)(es:Array DictEntry)(ep:Nat)(h:Heap):Prop:=∃o,h.get? d=some o/\o.ExactDict/\o.data=.dict es ep
theorem RawD.type{d:Addr}{es:Array DictEntry}{ep:Nat}{s:Shared}(h:RawD d es ep s.heap):s.TypeIs (.ref d) "dict":=let ⟨o,e,x,_⟩:=h;⟨o,e,x.1⟩
theorem RawD.keep{d:Addr}{es:Array DictEntry}{ep:Nat}{h h':Heap}(r:RawD d es ep h)(k:∀o,h.get? d=some o->h'.get? d=some o):RawD d es ep h':=let ⟨o,e,x⟩:=r;⟨o,k o e,x⟩
section
variable{prog:Program}{w:World}{A:Around}{E:Value->Shared->Prop}{s:Shared}{d it:Addr}{es:Array DictEntry}{ep i:Nat}
theorem Ae{Q:Value->Shared->Prop}(lo:(d == sysModules)=false)(r:RawD d es ep s.heap)
  (q:Q (.ref s.heap.objs.size) { s with heap:=s.heap.push { cls:=.type "dict_keyiterator",data:=.fields #[.ref d,.int 0 0,.int es.size 0,.int ep 0] } }):wpAny (model prog w) A (pyIter (.ref d)) Q E s:=by
 have ty:=r.type
 obtain⟨o,g1,_,g2⟩:=r
 refine wpAny_pyIter_slot ty F.slot_dict_iter (wpAny_call_entry F.slot_dict_iter ty F.entry_dict_iter ?_ (F.args_dict_iter_1 _))
 unfold Builtin.«dict.__iter__» Builtin.Dict.dictSlotNone
 refine wpAny_bind (wpAny_bind (wpAny_notOrdered_dict ty (wpAny_pure ?_)))
 unfold Builtin.Dict.showsAll
 show wpAny _ _ ((if (d == sysModules)=true then unsupported "sys.modules:all-start-up-values-wanted" else pure ()) >>= _) _ _ s
 rw[if_neg (by rw[lo];exact zzu)]
 refine wpAny_bind (wpAny_pure (wpAny_bind (wpAny_dictEntries g1 g2 (wpAny_bind (wpAny_dictEpoch g1 g2 ?_)))))
 exact wpAny_bind (wpAny_newObj_type (wpAny_pure ⟨_,rfl,"dict_keyiterator",_,⟨_,zzs _ rfl,rfl⟩,F.slot_dict_keyiterator_next.lookup,q⟩))
theorem Af{n:Nat}{Q:Option Value->Shared->Prop}(hi:i<es.size)(en:es.size=n)(g:s.heap.IsKeyIter it d i n ep)(r:RawD d es ep s.heap)
  (q:∀h',h'.IsKeyIter it d (i+1) n ep->Heap.SameBut it s.heap h'->Q (some es[i].key) { s with heap:=h' }):wpAny (model prog w) A (pyNext (.ref it)) Q E s:=by
 subst en
 have ty:=g.typeIs
 obtain⟨o,g1,g2,g3⟩:=g
 obtain⟨od,r1,_,r2⟩:=r
 unfold pyNext
 refine wpAny_bind (wpAny_attempt (wpAny_callSpecial?_slot (name:=Str.ofString "__next__") ty F.slot_dict_keyiterator_next (wpAny_call_entry F.slot_dict_keyiterator_next ty F.entry_dict_keyiterator_next ?_ (F.args_dict_keyiterator_next_1 _))))
 refine wpAny_bind (wpAny_pure (wpAny_bind (wpAny_bind (wpAny_bind (wpAny_typeNameOfWhole_keyiter ty (wpAny_pure (wpAny_bind (wpAny_fieldsOf g1 g3 ?_))))))))
 simp only[show Builtin.Dict_items.ownsTuple "dict_keyiterator" = false by decide,zyv,if_false]
 show wpAny _ _ (if (Value.ref d == Value.none)=true then _ else _) _ _ s
 rw[if_neg (show ¬((Value.ref d == Value.none)=true) from zzu)]
 refine wpAny_bind (wpAny_pure (wpAny_bind (wpAny_dictEntries r1 r2 ?_)))
 rw[if_neg (by simp)]
 refine wpAny_bind (wpAny_pure (wpAny_bind (wpAny_dictEpoch r1 r2 ?_)))
 rw[if_neg (by simp)]
 refine wpAny_pure ?_
 simp only[show ¬((i:Int)<0) from by omega,if_false,zzP,Array.getElem?_eq_getElem hi]
 refine wpAny_bind (wpAny_bind (wpAny_typeNameOfWhole_keyiter ty (wpAny_pure (wpAny_bind (wpAny_isOneOf_keyiter ty ?_)))))
 show wpAny _ _ (setField (.ref it) 1 (rawInt ((i:Int)+1)) >>= _) _ _ s
 refine wpAny_bind (wpAny_setField g1 g3 (by simp) ?_)
 have g':(s.heap.update it (Obj.mapFields (·.setIfInBounds 1 (rawInt ((i:Int)+1))))).IsKeyIter it d (i+1) es.size ep :=
  ⟨_,zyg _ g1 (Obj.isFreed_of_fields (Obj.data_mapFields g3 _)),(Obj.cls_mapFields ..).trans g2,by rw[Obj.data_mapFields g3];simp[rawInt]⟩
 refine wpAny_bind (wpAny_holding (wpAny_bind (wpAny_isOneOf_keyiter (s:={ s with heap:=s.heap.update it (Obj.mapFields (·.setIfInBounds 1 (rawInt ((i:Int)+1)))) }) g'.typeIs ?_)))
 show wpAny _ _ (pure es[i].key) _ _ _
 exact wpAny_pure (wpAny_pure ⟨_,rfl,wpAny_pure (q _ g' (zzX ..))⟩)
theorem Da{n:Nat}{Q:Option Value->Shared->Prop}(hh:A.handled=none)(hi:es.size <= i)(en:es.size=n)(g:s.heap.IsKeyIter it d i n ep)(r:RawD d es ep s.heap)
  (q:∀h',Heap.ExtBut it s.heap h'->Q none { s with heap:=h' }):wpAny (model prog w) A (pyNext (.ref it)) Q E s:=by
 subst en
 have ty:=g.typeIs
 obtain⟨o,g1,g2,g3⟩:=g
 obtain⟨od,r1,_,r2⟩:=r
 unfold pyNext
 refine wpAny_bind (wpAny_attempt (wpAny_callSpecial?_slot (name:=Str.ofString "__next__") ty F.slot_dict_keyiterator_next (wpAny_call_entry F.slot_dict_keyiterator_next ty F.entry_dict_keyiterator_next ?_ (F.args_dict_keyiterator_next_1 _))))
 refine wpAny_bind (wpAny_pure (wpAny_bind (wpAny_bind (wpAny_bind (wpAny_typeNameOfWhole_keyiter ty (wpAny_pure (wpAny_bind (wpAny_fieldsOf g1 g3 ?_))))))))
 simp only[show Builtin.Dict_items.ownsTuple "dict_keyiterator" = false by decide,zyv,if_false]
 show wpAny _ _ (if (Value.ref d == Value.none)=true then _ else _) _ _ s
 rw[if_neg (show ¬((Value.ref d == Value.none)=true) from zzu)]
 refine wpAny_bind (wpAny_pure (wpAny_bind (wpAny_dictEntries r1 r2 ?_)))
 rw[if_neg (by simp)]
 refine wpAny_bind (wpAny_pure (wpAny_bind (wpAny_dictEpoch r1 r2 ?_)))
 rw[if_neg (by simp)]
 refine wpAny_pure ?_
 simp only[show ¬((i:Int)<0) from by omega,if_false,zzP,Array.getElem?_eq_none hi]
 refine wpAny_bind (wpAny_bind (wpAny_typeNameOfWhole_keyiter ty (wpAny_pure ?_)))
 show wpAny _ _ (setField (.ref it) 0 .none >>= _) _ _ s
 refine wpAny_bind (wpAny_setField g1 g3 (by simp) ?_)
 show wpAny _ _ (newExc (.type "StopIteration") [] >>= _) _ _ _
 refine wpAny_bind ?_
 simp only[newExc,newTuple]
 refine wpAny_bind (wpAny_newObj_type ?_ (by size_fits))
 refine wpAny_bind (m:=firstArgMember _ _) (wpAny_of_eq (a:=Value.none) (by first|rfl | (simp only[firstArgMember];rfl)) ?_)
 refine wpAny_newObj_type ?_ (by size_fits)
 simp only[raiseNew]
 refine wpAny_bind (wpAny_handled ?_)
 rw[show A.in1.handled=none from hh]
 refine wpAny_bind (wpAny_pure (wpAny_throw ?_))
 refine wpAny_bind (wpAny_isInstance (T:="StopIteration") (b:=true) ⟨_,zzs _ rfl,rfl⟩ isSubtype_stop ?_)
 exact wpAny_pure (q _ (((zzX ..).extBut.push _).push _))
theorem Db(lo:(d == sysModules)=false)(es:Array DictEntry)(ep:Nat):KdlSrc prog w "dict" d d es.size (fun i v=>(es[i]?).map (·.key)=some v) (RawD d es ep) where
 type:=fun _ r=>r.type
 there:=fun _ ⟨_,e,_⟩=>⟨zzq e,zzq e⟩
 keep:=fun _ _ r k=>r.keep fun o e=>k d (.inl rfl) o e
 notList:=by decide
 notTuple:=by decide
 hint:=fun _ _ _ _ r q=>kdl_hint_dict r.type q
 iter:=fun A s hh r=>⟨_,fun i h=>h.IsKeyIter s.heap.objs.size d i es.size ep/\RawD d es ep h,(fun _ _ q=>Ae lo r q),{
  sub:=fun b hb=>by simp at hb;simp[hb]
  frame:=fun _ _ _ st k=>⟨st.1.at fun o e=>k _ (by simp) o e,st.2.keep fun o e=>k d (by simp) o e⟩
  item:=fun i s' Q E hi st q=>Af hi rfl st.1 st.2 fun h' g' sb=>by
   have ne:d≠s.heap.objs.size:=by
    obtain⟨_,e,_⟩:=r
    exact zzA (zzq e)
   refine q es[i].key h' s'.toks (by simp[hi]) ⟨g',st.2.keep fun o e=>(sb.2 d ne).trans e⟩ fun b o hb e=>?_
   have hb:b≠s.heap.objs.size:=by simpa using hb
   exact(sb.2 b hb).trans e
  done:=fun s' Q E st q=>Da hh (zzj _) rfl st.1 st.2 fun h' eb=>q h' s'.toks fun b o hb e=>eb b o (by simpa using hb) e
  self:=fun _ _ _ _ st q=>wpAny_pyIter_keyiter st.1 q },⟨⟨_,zzs _ rfl,rfl,rfl⟩,r.keep fun o e=>zzf _ e⟩⟩
end
section
variable{prog:Program}{w:World}{A:Around}{E:Value->Shared->Prop}{s:Shared}
theorem TupI.keep{h h':Heap}{k:List Key}{v:Value}{a:Addr}{xs:Array Value}{n:Nat}(t:TupI h k v)(ha:h.get? a=some (seqObj "list" xs n))(kp:∀b o,b≠a->h.get? b=some o->h'.get? b=some o):TupI h' k v:=by
 obtain⟨b,o,ys,m,rfl,e,c,d,p⟩:=t
 refine⟨b,o,ys,m,rfl,kp b o ?_ e,c,d,p⟩
 rintro rfl
 rw[ha]at e
 cases e
 simp[seqObj]at c
theorem eN{α β:Type}{R S:α->β->Prop}{xs:List α}{ys:List β}(h:Paired R xs ys)(f:∀a b,R a b->S a b):Paired S xs ys:=by
 induction h with
 |nil=>exact .nil
 |cons h _ ih=>exact .cons (f _ _ h) ih
theorem jv{α β:Type}{R:α->β->Prop}{d:α}{e:β}{xs:List α}{ys:List β}(h:Paired R xs ys):∀i,i<xs.length->R (xs.getD i d) (ys.getD i e):=by
 induction h with
 |nil=>intro i hi;simp at hi
 |cons h _ ih =>
  intro i hi
  cases i with
  |zero=>simpa using h
  |succ i=>simpa using ih i (by simpa using hi)
theorem gG{α β:Type}{R:α->β->Prop}{d:α}{e:β}{xs:List α}{ys:List β}(h:Paired R xs ys):∀(is:List Nat),(∀i∈is,i<xs.length)->Paired R (is.map fun i=>xs.getD i d) (is.map fun i=>ys.getD i e)
 |[],_=>.nil
 |i::is,hi=>.cons (jv h i (hi i zzd)) (gG h is fun j hj=>hi j (zzc _ hj))
theorem Bv{h:Heap}:∀{ks:List (List Key)}{vs:List Value},Paired (TupI h) ks vs->(∀k∈ks,k≠[])->∃fs,KatTups h vs fs/\fs.length=vs.length/\∀v∈fs,∃i t,v=Value.int i t
 |_,_,.nil,_=>⟨[],.nil,rfl,fun v hv=>by simp at hv⟩
 |k::ks,v::vs,.cons h1 r,ne=>by
  obtain⟨fs,h2,h3,h4⟩:=Bv r fun k hk=>ne k (zzc _ hk)
  obtain⟨a,o,xs,n,rfl,e,c,d,p⟩:=h1
  have hk:=ne k zzd
  generalize hxs:xs.toList=l at p
  cases p with
  |nil=>exact absurd rfl hk
  |@cons x u ks' us hx hr =>
   obtain⟨i,t,rfl,rfl⟩:=hx
   refine⟨Value.int i t::fs,.cons e c d ?_ h2,by simp[h3],fun v hv=>?_⟩
   ·rw[←zyl,hxs]
    rfl
   ·rcases zzi.mp hv with rfl|hv
    ·exact⟨i,t,rfl⟩
    ·exact h4 v hv
theorem xX{a:Addr}{vs:List Value}{ks:List (List Key)}{n:Nat}{P:PySem.Fin->Shared->Prop}(ho:s.heap.get? a=some (seqObj "list" vs.toArray n))(hp:Paired (TupI s.heap) ks vs)(hne:2 <= ks.length->∀k∈ks,k≠[])(h64:vs.length<64)
  (q:∀(h':Heap) (out:List Value) (c:Nat),(∀b o,b≠a->s.heap.get? b=some o->h'.get? b=some o)->h'.get? a=some (seqObj "list" out.toArray c)->(∀R:List Key->Value->Prop,Paired R ks vs->Paired R (srtK ks) out)->P (.done (.ret .none)) { s with heap:=h' }) :
  wpAny (model prog w) A (Builtin.«list.sort» ⟨[.ref a],[]⟩) P E s:=by
 have hl:=gh hp
 have ha:a<s.heap.objs.size:=zzq ho
 have sb:=zzX s.heap a (Obj.mapSeq fun _=>(#[]:Array Value))
 obtain⟨e1,ho1⟩:∃e1,(s.heap.update a (Obj.mapSeq fun _=>(#[]:Array Value))).get? a=some (seqObj "list" #[] e1):=⟨_,get?_update_seq ho fun _=>#[]⟩
 rw[list_sort_plain]
 refine wpAny_bind (listItems_at ho rfl (wpAny_bind (listUpdate_at ho rfl ?_ (by rw[zzr,sizeLine_eq];omega) (zzG _))))
 refine wpAny_bind (seqEpoch_at ho1 rfl (wpAny_bind (wpAny_newTuple ?_ (by show vs.length <= _;rw[sizeLine_eq];omega))))
 refine wpAny_bind (wpAny_newList (wpAny_holding ?_) (zzG _))
 show wpAny (model prog w) A _ P E { s with heap:=((s.heap.update a (Obj.mapSeq fun _=>(#[]:Array Value))).push (seqObj "tuple" vs.toArray 0)).push (seqObj "list" #[] 0) }
 have kp:∀b o,b≠a->s.heap.get? b=some o->(((s.heap.update a (Obj.mapSeq fun _=>(#[]:Array Value))).push (seqObj "tuple" vs.toArray 0)).push (seqObj "list" #[] 0)).get? b=some o:=fun b o hb e =>
  zzf _ (zzf _ ((sb.2 b hb).trans e))
 have ho3:(((s.heap.update a (Obj.mapSeq fun _=>(#[]:Array Value))).push (seqObj "tuple" vs.toArray 0)).push (seqObj "list" #[] 0)).get? a=some (seqObj "list" #[] e1):=zzf _ (zzf _ ho1)
 generalize ((s.heap.update a (Obj.mapSeq fun _=>(#[]:Array Value))).push (seqObj "tuple" vs.toArray 0)).push (seqObj "list" #[] 0)=h3 at kp ho3
 have hp3:Paired (TupI h3) ks vs:=eN hp fun k v t=>t.keep ho kp
 dsimp only
 have fin:∀(st:SortSt) (out:List Value),(arrOf st).map (·.2)=out.toArray->failedOf st=none->out.length<64->(∀R:List Key->Value->Prop,Paired R ks vs->Paired R (srtK ks) out) ->
   wpAny (model prog w) A (do
    let touched:=(←seqEpoch a) != e1
    Builtin.List.listUpdate (.ref a) fun _=>(arrOf st).map (·.2)
    if let some e:=failedOf st then rule "list.sort.comparison-raised";throw e
    if touched then rule "list.sort.modified";raiseError "ValueError" "list modified during sort"
    ret .none) P E { s with heap:=h3 }:=by
  intro st out e f hz hR
  rw[e,f]
  refine wpAny_bind (seqEpoch_at ho3 rfl ?_)
  refine wpAny_bind (listUpdate_at ho3 rfl ?_ (zzG _) (by show out.toArray.size <= _;rw[zzr,sizeLine_eq];omega))
  simp only[bne_self_eq_false,zyv,if_false]
  refine wpAny_pure (q _ out _ (fun b o hb e=>?_) (get?_update_seq ho3 fun _=>out.toArray) hR)
  exact((zzX h3 a (Obj.mapSeq fun _=>out.toArray)).2 b hb).trans (kp b o hb e)
 by_cases h2:vs.length<2
 ·have hz:vs.toArray.size<2:=by rw[zzr];exact h2
  rw[if_pos hz,if_pos hz]
  refine wpAny_bind (wpAny_pure (wpAny_bind (wpAny_pure ?_)))
  refine fin _ vs ?_ rfl h64 fun R hR=>?_
  ·show (vs.toArray.zip vs.toArray).map (·.2)=vs.toArray
   apply Array.toList_inj.mp
   simp[List.map_snd_zip]
  ·unfold srtK
   rw[if_pos (by omega)]
   exact hR
 ·have hz:¬vs.toArray.size<2:=by rw[zzr];exact h2
  rw[if_neg hz,if_neg hz]
  obtain⟨fs,t1,t2,t3⟩:=Bv hp3 (hne (by omega))
  refine wpAny_bind (kat_kind (s:={ s with heap:=h3 }) (T:=.type "int") t1 (by omega) (fun v hv=>?_) (by decide) ?_)
  ·obtain⟨i,t,rfl⟩:=t3 v hv
   exact Looks.of_pure rfl
  ·refine wpAny_bind (wpAny_mono (kat_run (Q:=fun st' s'=>s'={ s with heap:=h3 }/\(arrOf st').map (·.2)=List.toArray ((kRun (fun i j=>lexI (ks.getD i []) (ks.getD j [])) (kas_sort ks.length)).toList.map fun i=>vs.getD i Value.none)/\failedOf st'=none) (G:=fun p s'=>s'={ s with heap:=h3 }/\p=kRun (fun i j=>lexI (ks.getD i []) (ks.getD j [])) (kas_sort ks.length)) rfl (by omega) h64 (fun p st' s' a1 a2 a3 a4=>?_) ?_) (fun r s' hq=>?_) fun _ _ x=>x)
   ·obtain⟨rfl,rfl⟩:=a4
    exact⟨rfl,kat_snds rfl a2,a3⟩
   ·rw[←hl]
    refine KGood.wp (N:=ks.length) (P:=PmN ks.length) (fun i j C hi hj hC=>?_) _ _ (cq (by omega)) ⟨rfl,rfl⟩
    show wpAny (model prog w) A (keyLt' _ (vs.getD i Value.none) (vs.getD j Value.none)) C (fun _ _=>False) _
    exact CZ (s:={ s with heap:=h3 }) (jv hp3 i hi) (jv hp3 j hj) hC
   ·obtain⟨⟨⟩,st'⟩:=r
    obtain⟨rfl,e,f⟩:=hq
    refine fin st' _ e f ?_ fun R hR=>?_
    ·have:=(KGood.end (fun i j=>lexI (ks.getD i []) (ks.getD j [])) _ (cq (N:=ks.length) (by omega))).length_eq
     rw[zzJ]at this
     rw[zza,this,hl]
     exact h64
    ·unfold srtK
     rw[if_neg (by omega)]
     refine gG hR _ fun i hi=>?_
     have:=KGood.end (fun i j=>lexI (ks.getD i []) (ks.getD j [])) _ (cq (N:=ks.length) (by omega))
     exact zzy.mp (this.mem_iff.mp hi)
end
section
variable{X:Cx}
def Dc(H:Hp)(k:List Key)(v:V):Prop:=∃b,v=.ref b/\H b=some (.tup (k.map kV))
def oR(k:List Key):Prop:=∀x∈k,∃i:Int,x=.inl i
theorem uN:∀{k:List Key}{us:List Value},oR k->Vals (k.map kV) us->Paired isI k us
 |[],us,_,h=>by cases h;exact .nil
 |x::k,us,hi,h=>by
  obtain⟨i,rfl⟩:=hi _ zzd
  rw[zze]at h
  cases h with
  |cons h1 h2 =>
   obtain⟨t,rfl⟩:=(show ∃t,_=Value.int i t from h1)
   exact .cons ⟨i,t,rfl,rfl⟩ (uN (fun y hy=>hi y (zzc _ hy)) h2)
theorem Inv.tupI{pins:List (Addr×Obj)}{σ:St}{H:Hp}{s:Shared}{k:List Key}{b:Addr}(I:Inv X pins σ H s)(hi:oR k)(e:H b=some (.tup (k.map kV))):TupI s.heap k (.ref b):=by
 obtain⟨_,its,r,o,h1,h2,n,h3⟩:=(show ObjOk X.prog X.w H s.heap b (.tup (k.map kV)) from I.hok b _ e)
 refine⟨b,o,its.toArray,n,rfl,h1,?_,h3,?_⟩
 ·exact h2
 ·rw[zyz]
  exact uN hi r
theorem xY{H:Hp}:∀{ks:List (List Key)}{out:List Value},Paired (fun k v=>∃b,v=Value.ref b/\H b=some (.tup (k.map kV))) ks out->∃bs,Paired (Dc H) ks bs/\Vals bs out
 |_,_,.nil=>⟨[],.nil,.nil⟩
 |_,_,.cons h r=>by
  obtain⟨b,rfl,e⟩:=h
  obtain⟨bs,h1,h2⟩:=xY r
  exact⟨.ref b::bs,.cons ⟨b,rfl,e⟩ h1,.cons rfl h2⟩
theorem Dd{H:Hp}{kvs:List (List Key×V)}{xs:List (List Key×Addr×Value)}(r:KT H kvs xs):Paired (fun k v=>∃b,v=Value.ref b/\H b=some (.tup (k.map kV))) (kvs.map (·.1)) (xs.map fun x=>Value.ref x.2.1):=by
 induction r with
 |nil=>exact .nil
 |@cons p q ps qs h t ih=>exact .cons ⟨q.2.1,rfl,h.2.1⟩ ih
theorem wg{α β:Type}{R:α->β->Prop}{xs:List α}{ys:List β}(h:Paired R xs ys):Paired (fun a b=>a∈xs/\R a b) xs ys:=by
 induction h with
 |nil=>exact .nil
 |cons h _ ih=>exact .cons ⟨zzd,h⟩ (eN ih fun a b z=>⟨zzc _ z.1,z.2⟩)
theorem wj(hc:X.calm=true):dO X (.builtin "sorted") (fun xs H Q=>∃a kvs,xs=[.ref a]/\H a=some (.dT kvs)/\(∀k∈kvs.map (·.1),oR k)/\(2 <= kvs.length->∀k∈kvs.map (·.1),k≠[])/\kvs.length<64 /\
  ∀l bs,H l=none->Paired (Dc H) (srtK (kvs.map (·.1))) bs->Q (.ref l) (upd H l (.lst bs))):=by
 intro pins s σ H xs us Q I r h
 obtain⟨a,kvs,rfl,e,hi,hne,h64,q⟩:=h
 obtain⟨u,rfl,e2⟩:=kw r
 cases e2
 obtain⟨z,lo,xs,rel,o,es,ep,g1,g2,g3,g4,g5,g6⟩:=Cl I.hok e
 have hsz:es.size=xs.length:=size_of_entries g4
 have hxl:kvs.length=xs.length:=Paired.length rel
 refine Calls.call_function_entry kind_sorted plain_sorted entry_sorted (args_sorted1 _) ?_
 unfold Builtin.«sorted»
 refine wpAny_bind (m:=checkCount "sorted" 1 1 _) (wpAny_pure ?_)
 refine wpAny_bind (kdu_collect (Db lo es ep) (I.ok.hd hc) ⟨o,g1,g2,g3⟩ (by rw[sizeLine_eq];omega) fun h' tk acc hk hI=>?_)
 have hacc:acc.toList=xs.map fun x=>Value.ref x.2.1:=by
  apply List.ext_getElem?
  intro i
  rw[zyl]
  cases hx:xs[i]? with
  |none =>
   have h1:xs.length <= i:=by simpa using hx
   rw[zzn,hx,Array.getElem?_eq_none (by rw[hI.1];omega)]
   rfl
  |some x =>
   have h1:i<xs.length:=(zzt.mp hx).1
   obtain⟨v,hv⟩:∃v,acc[i]? = some v:=⟨acc[i]'(by rw[hI.1];omega),by simp[hI.1,hsz,h1]⟩
   have h2:(es[i]?).map (·.key)=some v:=hI.2 i v hv
   rw[entry_at g4 i,hx]at h2
   rw[hv,zzn,hx]
   simpa[entryOfKey]using h2.symm
 rw[hacc]
 have I1:Inv X pins σ H { s with heap:=h',toks:=tk }:=I.kept hk
 refine wpAny_bind (wpAny_newList ?_ (by rw[zza,sizeLine_eq];omega))
 have hoL:(h'.push (seqObj "list" (xs.map fun x=>Value.ref x.2.1).toArray 0)).get? h'.objs.size=some (seqObj "list" (xs.map fun x=>Value.ref x.2.1).toArray 0):=zzs _ rfl
 refine wpAny_bind (wpAny_holding (wpAny_call_entry slot_list_sort ⟨_,hoL,rfl⟩ entry_list_sort ?body (args_list_sort _)))
 case body =>
  have kk:=Dd rel
  refine xX (s:={ s with heap:=h'.push (seqObj "list" (xs.map fun x=>Value.ref x.2.1).toArray 0),toks:=tk }) hoL (ks:=kvs.map (·.1)) (eN (wg kk) (S:=TupI _) fun k v z=>?_) (fun h2=>hne (by simpa using h2)) (by rw[zza];omega) fun h4 out c kp ho hR=>?_
  ·obtain⟨hm,b,rfl,hb⟩:=z
   exact((I1.kept (t':=tk) fun b o e=>zzf _ e).tupI (hi k hm) hb)
  ·obtain⟨bs,p1,p2⟩:=xY (hR _ kk)
   have hb:bs.length <= sizeLine:=by
    rw[←gh p1,(qV _).length_eq,zza]
    exact z
   exact⟨_,rfl,wpAny_pure ⟨_,rfl,.ref h'.objs.size,upd H h'.objs.size (.lst bs),I1.laid (o:=.lst bs) (fun b u e=>kp b u (zzA (zzq e)) (zzf _ e)) (zzj _) ⟨hb,out,c,p2,ho⟩,rfl,q _ bs (I1.hok.fresh (zzj _)) p1⟩⟩
end
end L2
namespace PySem
section
variable{prog:Program}{w:World}{A:Around}{E:Value->Shared->Prop}{s:Shared}
set_option maxRecDepth 100000 in
set_option maxHeartbeats 3200000 in
theorem qW{b:Addr}{its:Array Value}{ks:List Int}{R:Value->Shared->Prop}(calm:A.handled=none)(tp:s.heap.IsTuple b its)(isints:PyProof.Rows.IntsAre its.toList ks)(few:its.size+1<scanBound)
  (q:∀(h2:Heap) (tk:Nat),h2.SetOf (intKind prog w) s.heap.objs.size (fun k=>(PyProof.Rows.firstMet (fun i=>ks.getD i 0) its.size).any (· == k)) (PyProof.Rows.firstMet (fun i=>ks.getD i 0) its.size).length ->
   (∀c o,c<s.heap.objs.size->s.heap.get? c=some o->h2.get? c=some o)->R (.ref s.heap.objs.size) { s with heap:=h2,toks:=tk }):wpAny (model prog w) A (call (.type "set") [.ref b]) R E s:=by
 obtain⟨c,tl,hmro⟩:=F.called_set.mro
 have hmade:=F.called_set.made
 have hsub:=F.called_set.sub
 refine wpAny_call (codeAny_of_tree ?_)
 show wpAny _ _ (callAny (.type "set") _) _ _ _
 refine wpAny_pure ⟨Code.quiet_builtin _ (by decide +kernel),codeAny_builtin F.entry_type_call ?_⟩
 rw[Around.under_plain (weight_type_call_type "set" [.ref b] []) rfl]
 have n1:=F.called_set.notType
 have n2:=F.called_set.canCreate
 have n3:=F.typeCall_set_1 (.ref b)
 repeat (any_goals (first|assumption|wp_step))
 refine codeAny_mono (code_set_new_1 (.ref b) (E:=E) (Q₁:=fun obj z=>∃led:Bool,obj=.ref s.heap.objs.size/\z={ s with heap:=s.heap.push { cls:=.type "set",dict:=none,data:=.set #[] 0 (.fresh 0 0 led) } }) fun led=>⟨led,rfl,rfl⟩) fun r z hr=>?_
 cases r with
 |error e=>exact hr
 |ok fl =>
  cases fl with
  |ret obj =>
   obtain⟨led,rfl,rfl⟩:=hr
   have g1:(s.heap.push { cls:=.type "set",dict:=none,data:=.set #[] 0 (.fresh 0 0 led) }).get? s.heap.objs.size=some { cls:=.type "set",dict:=none,data:=.set #[] 0 (.fresh 0 0 led) }:=zzs _ rfl
   have ty:Shared.TypeIs { s with heap:=s.heap.push { cls:=.type "set",dict:=none,data:=.set #[] 0 (.fresh 0 0 led) } } (.ref s.heap.objs.size) "set":=⟨_,g1,rfl⟩
   have i1:=F.called_set.init.lookup
   have i2:=F.called_set.init.bind (.ref s.heap.objs.size)
   repeat (any_goals (first|assumption|wp_step))
   refine codeAny_mono (codeAny_call_builtin (R:=wants (fun r z=>r=.none/\∃h2 tk,z={ s with heap:=h2,toks:=tk } /\
     h2.SetOf (intKind prog w) s.heap.objs.size (fun k=>(PyProof.Rows.firstMet (fun i=>ks.getD i 0) its.size).any (· == k)) (PyProof.Rows.firstMet (fun i=>ks.getD i 0) its.size).length /\
     (∀c o,c<s.heap.objs.size->s.heap.get? c=some o->h2.get? c=some o)) E) F.called_set.init.plain F.entry_set_init (check_set_init_1 ty ?_)) fun r2 z2 hr2=>?_
   ·have tp1:(s.heap.push { cls:=.type "set",dict:=none,data:=.set #[] 0 (.fresh 0 0 led) }).IsTuple b its:=by
     obtain⟨o,e,x⟩:=tp
     exact⟨o,zzf _ e,x⟩
    have blt:b<s.heap.objs.size:=by
     obtain⟨o,e,x⟩:=tp
     exact zzq e
    obtain⟨o,e,oc,n,od⟩:=id tp1
    obtain⟨ocls,odict,odata,oslots⟩:=o
    simp only at oc od
    subst oc;subst od
    have t1:=F.sub_tuple_set
    have t2:=F.sub_tuple_frozenset
    have t3:(Value.type "tuple" == Value.type "dict")=false:=by decide
    unfold Builtin.«set.__init__» noKeywords Builtin.Frozenset.updateFrom
    generalize hPI:pyIter=PI
    wp_walk
    subst hPI
    refine wpAny_pyIter_tuple tp1 ?_
    refine wpAny_bind (wpAny_runValue ?_)
    have calm3:A.in1.in1.in1.handled=none:=by simp[calm]
    have ne:b≠(s.heap.push { cls:=.type "set",dict:=none,data:=.set #[] 0 (.fresh 0 0 led) }).objs.size:=by
     rw[zye];exact zzA (Nat.lt_succ_of_lt blt)
    have off:s.heap.objs.size∉[(s.heap.push { cls:=.type "set",dict:=none,data:=.set #[] 0 (.fresh 0 0 led) }).objs.size,b]:=by
     rw[zye];simp only[zzi,zzw,zzR,or_false,not_or]
     exact⟨zzA (Nat.lt_succ_self _),zyA blt⟩
    have val:∀(i:Nat) (v:Value),its[i]? = some v->∃t,v=.int ((fun i=>ks.getD i 0) i) t:=fun i v hv=>PyProof.Rows.IntsAre.int_at isints i v (by rw[zyl];exact hv)
    refine PyProof.Rows.codeAny_set_update_loopS ((Walks.tuple calm3 _ b ne its).toS) s.heap.objs.size off (fun i=>ks.getD i 0) val few (its.size - 0) 0 _ (by omega) (zzG _) ⟨⟨_,zzs _ rfl,rfl,rfl⟩,?_⟩ ?s0 ?r0
    ·obtain⟨o,e,x⟩:=tp1
     exact⟨o,zzf _ e,x⟩
    case s0 =>
     have hget:((s.heap.push { cls:=.type "set",dict:=none,data:=.set #[] 0 (.fresh 0 0 led) }).push { cls:=.type "tuple_iterator",data:=.fields #[.ref b,.int 0 0] }).get? s.heap.objs.size
       = some { cls:=.type "set",dict:=none,data:=.set #[] 0 (.fresh 0 0 led) }:=zzf _ g1
     exact PyProof.Rows.SetOf_congr ((PyProof.Rows.setObjOf_fresh (knd:=intKind prog w) led).setOf hget (by unfold scanBound;omega)) (fun _=>rfl) rfl
    case r0 =>
     intro z hm hS
     obtain⟨h2,g',d',tk',os'⟩:=z
     have eg:g'=s.gens:=hm.gens
     have ed:d'=s.drawn:=hm.drawn
     have eo:os'=s.os:=hm.os
     subst eg;subst ed;subst eo
     show wpAny _ _ _ _ _ _
     refine wpAny_pure ?_
     show wpAny _ _ (ret Value.none) _ _ _
     refine wpAny_pure ⟨rfl,h2,tk',rfl,hS,fun c o hc e=>?_⟩
     have hc2:c≠(s.heap.push { cls:=.type "set",dict:=none,data:=.set #[] 0 (.fresh 0 0 led) }).objs.size:=by
      rw[zye];exact zzA (Nat.lt_succ_of_lt hc)
     exact hm.heap c o (by simp only[zzi,zzw,zzR,or_false,not_or];exact⟨zzA hc,hc2⟩) (zzf _ (zzf _ e))
   ·cases r2 with
    |error e=>exact hr2
    |ok fl2 =>
     cases fl2 with
     |ret r =>
      obtain⟨rfl,h2,tk,rfl,hS,hk⟩:=hr2
      repeat (any_goals (first|assumption|wp_step))
      exact q _ _ hS hk
     |_=>exact hr2.elim
  |_=>exact hr.elim
end
end PySem
namespace DL
open PySem PySem.Spec L2
open PyProof.Rows hiding St
variable[TB]
def FH:HO->Prop
 |.lst _=>True
 |.dT _=>True
 |_=>False
section
variable{K:PySem.W.Frag}{pp:Option Addr}{M:List Addr}{H:Hp}
theorem Mv.writeX{l:Addr}{o u:HO}(hl:H l=some o)(ho:FH o)(hm:l∈M)(hp:pp≠some l):Mv K pp M H M (upd H l u):=by
 refine⟨fun a zs e=>by rw[aq (mW e hl (by rintro rfl;exact ho))];exact e,fun a zs e n q=>⟨by rw[aq (by rintro rfl;exact n hm)];exact e,n⟩,fun p e h=>?_,fun tb=>tb.upd hl (by rintro(⟨_,rfl⟩|⟨_,_,rfl⟩)<;>exact ho)⟩
 obtain⟨a,ns,t,k,h⟩:=h
 refine⟨a,ns,t,k,?_,?_,h.t0⟩
 ·rw[aq (by rintro rfl;exact hp e)];exact h.lst
 ·rcases h.scr with ⟨o',e⟩|e
  ·refine .inl ⟨o',?_⟩
   rw[aq (mW e hl (by rintro rfl;exact ho))];exact e
  ·exact .inr e
end
def k1D:Key->D
 |.inl i=>.int i
 |.inr x=>.str x
def keyD(k:List Key):D:=.tup (k.map k1D)
theorem iJ{K:PySem.W.Frag}{pp:Option Addr}{M:List Addr}{H:Hp}:∀{k:List Key}{xs:List V},Reps K pp M H (k.map k1D) xs->xs=k.map kV
 |[],xs,h=>by simpa only[zzS,Reps]using h
 |.inl i::r,xs,h=>by
  simp only[zze,k1D,Reps,Rep]at h
  obtain⟨x,t,rfl,rfl,h⟩:=h
  rw[iJ h];rfl
 |.inr i::r,xs,h=>by
  simp only[zze,k1D,Reps,Rep]at h
  obtain⟨x,t,rfl,rfl,h⟩:=h
  rw[iJ h];rfl
theorem oT{K:PySem.W.Frag}{pp:Option Addr}{M:List Addr}{H:Hp}:∀(k:List Key),Reps K pp M H (k.map k1D) (k.map kV)
 |[]=>by simp only[zzS,Reps]
 |.inl i::r=>by
  simp only[zze,k1D,kV,Reps,Rep]
  exact⟨_,_,rfl,rfl,oT r⟩
 |.inr i::r=>by
  simp only[zze,k1D,kV,Reps,Rep]
  exact⟨_,_,rfl,rfl,oT r⟩
theorem kP{K:PySem.W.Frag}{pp:Option Addr}{M:List Addr}{H:Hp}{k:List Key}{v:V}(h:Rep K pp M H (keyD k) v):∃b,v=.ref b/\H b=some (.tup (k.map kV)):=by
 simp only[keyD,Rep]at h
 obtain⟨b,xs,rfl,hb,h⟩:=h
 rw[iJ h]at hb
 exact⟨b,rfl,hb⟩
theorem Ag{K:PySem.W.Frag}{pp:Option Addr}{M:List Addr}{H:Hp}{k:List Key}{b:Addr}(h:H b=some (.tup (k.map kV))):Rep K pp M H (keyD k) (.ref b):=by
 simp only[keyD,Rep]
 exact⟨b,_,rfl,h,oT k⟩
section
variable{α β:Type}
def gt(ps:List (List Key×α))(k:List Key):Option α:=(ps.find? fun p=>decide (p.1=k)).map (·.2)
def putA(ps:List (List Key×α))(k:List Key)(x:α):List (List Key×α) :=
 if (ps.any fun p=>decide (p.1=k))=true then ps.map (fun p=>if p.1=k then(p.1,x) else p) else ps++[(k,x)]
abbrev PK(R:α->β->Prop):List (List Key×α)->List (List Key×β)->Prop:=Paired fun p q=>p.1=q.1/\R p.2 q.2
theorem PK.find{R:α->β->Prop}{ps:List (List Key×α)}{qs:List (List Key×β)}(h:PK R ps qs)(k:List Key):(gt ps k=none/\gt qs k=none)∨∃x y,gt ps k=some x/\gt qs k=some y/\R x y:=by
 induction h with
 |nil=>exact .inl ⟨rfl,rfl⟩
 |@cons p q ps qs h _ ih =>
  unfold gt at ih ⊢
  by_cases e:p.1=k
  ·have e':q.1=k:=h.1.symm.trans e
   refine .inr ⟨p.2,q.2,?_,?_,h.2⟩
   ·rw[zzZ (by simpa using e)];rfl
   ·rw[zzZ (by simpa using e')];rfl
  ·have e':¬q.1=k:=fun z=>e (h.1.trans z)
   rw[zya (by simpa using e),zya (by simpa using e')]
   exact ih
theorem PK.any{R:α->β->Prop}{ps:List (List Key×α)}{qs:List (List Key×β)}(h:PK R ps qs)(k:List Key):(ps.any fun p=>decide (p.1=k))=qs.any fun p=>decide (p.1=k):=by
 induction h with
 |nil=>rfl
 |@cons p q ps qs h _ ih=>simp only[zyM,ih,h.1]
theorem PK.put{R:α->β->Prop}{ps:List (List Key×α)}{qs:List (List Key×β)}(h:PK R ps qs)(k:List Key){x:α}{y:β}(r:R x y):PK R (putA ps k x) (putA qs k y):=by
 unfold putA
 rw[h.any k]
 by_cases e:(qs.any fun p=>decide (p.1=k))=true
 ·rw[if_pos e,if_pos e]
  clear e
  induction h with
  |nil=>exact .nil
  |@cons p q ps qs h _ ih =>
   rw[zze,zze]
   refine .cons ?_ ih
   by_cases e:p.1=k
   ·rw[if_pos e,if_pos (h.1.symm.trans e)];exact⟨h.1,r⟩
   ·rw[if_neg e,if_neg (fun z=>e (h.1.trans z))];exact h
 ·rw[if_neg e,if_neg e]
  exact Paired.snoc h ⟨rfl,r⟩
theorem PK.keys{R:α->β->Prop}{ps:List (List Key×α)}{qs:List (List Key×β)}(h:PK R ps qs):ps.map (·.1)=qs.map (·.1):=by
 induction h with
 |nil=>rfl
 |cons h _ ih=>simp only[zze,ih,h.1]
end
theorem oU(kvs:List (List Key×V))(k:List Key):gt kvs k=valV kvs k:=rfl
section
variable{K:PySem.W.Frag}{pp:Option Addr}{M:List Addr}{H:Hp}
theorem Ah:∀{kds:List (List Key×D)}{kvs:List (List Key×V)},kvs.map (·.1)=kds.map (·.1)->Reps K pp M H (kds.map (·.2)) (kvs.map (·.2))->PK (Rep K pp M H) kds kvs
 |[],[],_,_=>.nil
 |[],_::_,h,_=>by simp at h
 |_::_,[],h,_=>by simp at h
 |p::ps,q::qs,h,r=>by
  simp only[zze,List.cons.injEq]at h
  simp only[zze,Reps]at r
  obtain⟨x,t,e,r1,r2⟩:=r
  injection e with e1 e2
  subst e1 e2
  exact .cons ⟨h.1.symm,r1⟩ (Ah h.2 r2)
theorem De{kds:List (List Key×D)}{kvs:List (List Key×V)}(h:PK (Rep K pp M H) kds kvs):Reps K pp M H (kds.map (·.2)) (kvs.map (·.2)):=by
 induction h with
 |nil=>simp only[zzS,Reps]
 |cons h _ ih=>exact .cons h.2 ih
theorem PK.imp{α β:Type}{R S:α->β->Prop}{ps:List (List Key×α)}{qs:List (List Key×β)}(h:PK R ps qs)(f:∀a b,R a b->S a b):PK S ps qs:=by
 induction h with
 |nil=>exact .nil
 |cons h _ ih=>exact .cons ⟨h.1,f _ _ h.2⟩ ih
def dvO(kds:List (List Key×D)):O:=.dct (kds.map (·.1)) (kds.map fun p=>.val p.2)
theorem ro_dv{kds:List (List Key×D)}{v:V}{A:List Addr}:RO K pp M H (dvO kds) v A↔∃a kvs,v=.ref a/\H a=some (.dT kvs)/\A=[a]/\PK (Rep K pp M H) kds kvs:=by
 have vals:∀{kds:List (List Key×D)}{xs:List V}{B:List Addr},ROs K pp M H (kds.map fun p=>O.val p.2) xs B->B=[]/\Reps K pp M H (kds.map (·.2)) xs:=by
  intro kds
  induction kds with
  |nil=>intro xs B h;simp only[zzS,ROs]at h;exact⟨h.2,by simp only[zzS,Reps];exact h.1⟩
  |cons p ps ih =>
   intro xs B h
   simp only[zze,ROs,RO]at h
   obtain⟨x,r,B1,C,rfl,rfl,⟨rfl,h1⟩,h2⟩:=h
   obtain⟨rfl,h3⟩:=ih h2
   exact⟨rfl,.cons h1 h3⟩
 constructor
 ·intro h
  simp only[dvO,RO]at h
  obtain⟨a,kvs,B,rfl,ha,ek,rfl,r⟩:=h
  obtain⟨rfl,r2⟩:=vals r
  exact⟨a,kvs,rfl,ha,rfl,Ah ek r2⟩
 ·rintro⟨a,kvs,rfl,ha,rfl,r⟩
  simp only[dvO,RO]
  refine⟨a,kvs,[],rfl,ha,r.keys.symm,rfl,?_⟩
  have:=ROs.vals (De r)
  rw[zzh]at this
  exact this
def dlO(kls:List (List Key×List D)):O:=.dct (kls.map (·.1)) (kls.map fun p=>.lst (p.2.map .val))
def PL(K:PySem.W.Frag)(pp:Option Addr)(M:List Addr)(H:Hp):List (List Key×List D)->List (List Key×V)->List Addr->Prop
 |[],kvs,ls=>kvs=[]/\ls=[]
 |p::ps,kvs,ls=>∃l xs r t,kvs=(p.1,.ref l)::r/\ls=l::t/\H l=some (.lst xs)/\Reps K pp M H p.2 xs/\PL K pp M H ps r t
theorem Ai{ds:List D}{xs:List V}{B:List Addr}(h:ROs K pp M H (ds.map O.val) xs B):B=[]/\Reps K pp M H ds xs:=by
 induction ds generalizing xs B with
 |nil=>simp only[zzS,ROs]at h;exact⟨h.2,by simp only[Reps];exact h.1⟩
 |cons d ds ih =>
  simp only[zze,ROs,RO]at h
  obtain⟨x,r,B1,C,rfl,rfl,⟨rfl,h1⟩,h2⟩:=h
  obtain⟨rfl,h3⟩:=ih h2
  exact⟨rfl,.cons h1 h3⟩
theorem FI:∀{kls:List (List Key×List D)}{kvs:List (List Key×V)}{B:List Addr},kvs.map (·.1)=kls.map (·.1)->ROs K pp M H (kls.map fun p=>O.lst (p.2.map .val)) (kvs.map (·.2)) B->PL K pp M H kls kvs B
 |[],[],B,_,h=>by simp only[zzS,ROs]at h;exact⟨rfl,h.2⟩
 |[],_::_,_,h,_=>by simp at h
 |_::_,[],_,h,_=>by simp at h
 |p::ps,q::qs,B,e,h=>by
  simp only[zze,List.cons.injEq]at e
  simp only[zze,ROs,RO]at h
  obtain⟨x,r,B1,C,e1,rfl,⟨l,xs,B2,rfl,hl,rfl,h1⟩,h2⟩:=h
  injection e1 with e2 e3
  subst e3
  obtain⟨rfl,h3⟩:=Ai h1
  exact⟨l,xs,qs,C,by rw[←e.1,←e2],rfl,hl,h3,FI e.2 h2⟩
theorem FJ:∀{kls:List (List Key×List D)}{kvs:List (List Key×V)}{B:List Addr},PL K pp M H kls kvs B->kvs.map (·.1)=kls.map (·.1)/\ROs K pp M H (kls.map fun p=>O.lst (p.2.map .val)) (kvs.map (·.2)) B
 |[],kvs,B,h=>by
  obtain⟨rfl,rfl⟩:=h
  simp only[zzS,ROs]
  exact⟨trivial,trivial,trivial⟩
 |p::ps,kvs,B,h=>by
  obtain⟨l,xs,r,t,rfl,rfl,hl,h1,h2⟩:=h
  obtain⟨e,h3⟩:=FJ h2
  refine⟨by simp only[zze,e],?_⟩
  simp only[zze,ROs,RO]
  exact⟨.ref l,_,[l],t,rfl,rfl,⟨l,xs,[],rfl,hl,rfl,ROs.vals h1⟩,h3⟩
theorem ro_dl{kls:List (List Key×List D)}{v:V}{A:List Addr}:RO K pp M H (dlO kls) v A↔∃a kvs ls,v=.ref a/\H a=some (.dT kvs)/\A=a::ls/\PL K pp M H kls kvs ls:=by
 constructor
 ·intro h
  simp only[dlO,RO]at h
  obtain⟨a,kvs,B,rfl,ha,ek,rfl,r⟩:=h
  exact⟨a,kvs,B,rfl,ha,rfl,FI ek r⟩
 ·rintro⟨a,kvs,ls,rfl,ha,rfl,r⟩
  simp only[dlO,RO]
  obtain⟨e,r⟩:=FJ r
  exact⟨a,kvs,ls,rfl,ha,e,rfl,r⟩
end
variable[Frm]
section
variable{K:PySem.W.Frag}{F:Fx}{M M':List Addr}{H H':Hp}{σ:St}{ρ:DS}{i:Nat}{q q':O}
theorem RSt.objStep(r:RSt K F M H σ ρ)(h:ρ[i]? = some (.obj q))(m:Mv K F.pp M H M' H')
  (k:∀v A,σ[i]? = some (some v)->A.Nodup->RO K F.pp M H q v A->(∀a∈A,a∈M/\F.H0 a=none/\F.pp≠some a)->∃A',A'.Nodup/\RO K F.pp M' H' q' v A'/\(∀b∈A',b∈M'/\F.H0 b=none/\F.pp≠some b/\(b∈A∨b∉M)) /\
   ∀a,a∈M->F.pp≠some a->F.H0 a=none->a∉A->a∈M'/\∀x,H a=some x->NT x->H' a=some x)
  (sub:∀a∈F.M0,a∈M') (same:SameQ K F.pp F.H0 H') (liv:Lv0 F.pp M' H'):RSt K F M' H' σ (ρ.set i (.obj q')):=by
 obtain⟨v,A,ho,nd,hq,hA,hoth⟩:=r.objAt h
 obtain⟨_,_,_,_,ke⟩:=k v A ho nd hq hA
 refine⟨by simp[r.len],fun j s o h1 h2=>?_,r.ow.step m i (fun _ _=>rfl) (fun j e=>zzC (Ne.symm e)) (fun A1 hA1 hB1=>?_),sub,same,r.old,liv,r.lk.cl m⟩
 ·by_cases e:i=j
  ·subst e
   rw[ho]at h2
   rw[aZ h1]
   cases h2
   exact⟨v,rfl⟩
  ·rw[zzC e]at h1
   have q':=r.sl j s o h1 h2
   cases s with
   |nil=>trivial
   |val d=>obtain⟨v,e,q⟩:=q';exact⟨v,e,q.mv m⟩
   |pin w d=>obtain⟨v,e,ew,q⟩:=q';exact⟨v,e,ew,q.mv m⟩
   |own es =>
    obtain⟨l',zs,rfl,hm',h0',hp',hl'',hr'⟩:=q'
    have nl:l'∉A:=hoth j _ _ (Ne.symm e) h1 h2 _ ⟨es,rfl⟩ rfl
    obtain⟨k1,k2⟩:=ke l' hm' hp' h0' nl
    exact⟨l',zs,rfl,k1,h0',hp',k2 _ hl'' (by intro _ z;cases z),hr'.mv m⟩
   |obj q=>exact q'
 ·obtain⟨nd1,v1,e1,hq1⟩:=hA1 _ _ h ho
  cases e1
  obtain⟨A',nd',ro,hb,ha⟩:=k v A1 ho nd1 hq1 hB1
  refine⟨A',fun s o e1 e2=>?_,hb,ha⟩
  rw[ho]at e2
  cases e2
  rw[aZ e1]
  exact⟨nd',v,rfl,ro⟩
theorem Lv0.upd{pp:Option Addr}{l:Addr}{o:HO}(h:Lv0 pp M H):Lv0 pp M (L2.upd H l o):=by
 refine⟨fun a ha=>?_,fun p e=>?_⟩
 ·by_cases z:a=l
  ·subst z;rw[ak];intro z;cases z
  ·rw[aq z];exact h.m a ha
 ·by_cases z:p=l
  ·subst z;rw[ak];intro z;cases z
  ·rw[aq z];exact h.p p e
theorem RSt.sameW{l:Addr}{o:HO}(r:RSt K F M H σ ρ)(h0:F.H0 l=none)(m:Mv K F.pp M H M' (L2.upd H l o)):SameQ K F.pp F.H0 (L2.upd H l o):=by
 refine⟨fun b o e n=>?_,fun p e h=>m.pen p e (r.same.pen p e h),fun b e=>?_⟩
 ·rw[aq (by rintro rfl;rw[h0]at e;cases e)]
  exact r.same.keep b o e n
 ·by_cases z:b=l
  ·subst z;rw[ak];intro z;cases z
  ·rw[aq z];exact r.same.live b e
end
section
variable{X:Cx}
def FL:Sl->Prop
 |.obj _=>True
 |_=>False
omit [Frm] in
theorem Aj{s:Sl}(h:FL s):∃q,s=.obj q:=by
 cases s<;>first|exact⟨_,rfl⟩|exact h.elim
abbrev Ht(i:Nat):DTS:=fun E ρ=>E.nx (ρ.set i (.obj (.dct [] [])))
theorem xZ{i:Nat}{y:Str}{py dpos pos:Pos}(hN:X.N.Nodup)(hi:X.N[i]? = some y)(hx:Loc X.env.scope y)(hs:swapsWith (.Dict [] [] dpos) (some (.Name y py)) pos.line X.env=pure false:=by rfl)
  (hf:X.fn y=true∨X.env.scope.names.lookup y=some .local:=by first|exact .inl rfl|exact .inr rfl|assumption):PSD X (.Assign [.Name y py] (.Dict [] [] dpos) pos) (Ht i):=by
 refine⟨_,ip hN hi hx zK hs hf,fun {F} M H σ ρ E D rs o q p hp=>?_⟩
 have lf:=rs.liv.fresh hp
 obtain⟨m,rs2⟩:=rs.newObj (q:=.dct [] []) (A:=[p]) (v:=.ref p) (.new hp) (by simp) (fun a ha=>by rw[zzw.mp ha];exact⟨hp,lf.2⟩) (by simp only[RO,ROs];exact⟨p,[],[],rfl,ak,rfl,rfl,rfl,rfl⟩) i
 exact o.nx _ _ _ _ m rs2 q
abbrev Hu(i:Nat)(tk te:DE):DTS:=fun E ρ=>te ρ fun d ρ1=>FL (slot ρ1 i)/\tk ρ1 fun dk ρ2=>∃kds k,slot ρ2 i=.obj (dvO kds)/\dk=keyD k/\kds.length<sizeLine/\E.nx (ρ2.set i (.obj (dvO (putA kds k d))))
omit [Frm] in
theorem FM{α β:Type}{R:α->β->Prop}{ps:List (List Key×α)}{qs:List (List Key×β)}(h:PK R ps qs):ps.length=qs.length:=gh h
theorem Dg{i r:Nat}{o ek e:Expr}{pos' pos:Pos}{tk te:DE}(hr:Room r X.A)(ho:PE X o (tVar i))(hk:PED X ek tk)(he:PED X e te)(hs:swapsWith e (some (.Subscript o ek pos')) pos.line X.env=pure false:=by rfl) :
  PSD X (.Assign [.Subscript o ek pos'] e pos) (Hu i tk te):=by
 obtain⟨Tk,pk,rk⟩:=hk.run
 obtain⟨Te,pe,re⟩:=he.run
 refine⟨_,Co (by have:=hr.units;omega) ho pk pe hs,fun {F} M H σ ρ E D rs oo h=>re M H σ ρ _ rs (he.mono _ _ _ (fun d ρ1 h M1 H1 v m1 rs1 r1=>?_) h)⟩
 obtain⟨q0,e0⟩:=Aj h.1
 obtain⟨v0,_,hv0,_⟩:=rs1.objAt (aR e0 (by intro z;cases z))
 refine⟨v0,hv0,rk M1 H1 σ ρ1 _ rs1 (hk.mono _ _ _ (fun dk ρ2 h M2 H2 y m2 rs2 r2=>?_) h.2)⟩
 obtain⟨kds,k,es,rfl,hl,h⟩:=h
 obtain⟨b,rfl,hb⟩:=kP r2
 have g:=aR es (by intro z;cases z)
 obtain⟨v1,A,hv1,nd,hq,hA,_⟩:=rs2.objAt g
 rw[hv0]at hv1
 cases hv1
 obtain⟨a,kvs,rfl,ha,rfl,pk⟩:=ro_dv.mp hq
 obtain⟨am,a0,ap⟩:=hA a (by simp)
 have mw:Mv X.K F.pp M2 H2 M2 (upd H2 a (.dT (putK kvs k v))):=.writeX ha trivial am ap
 refine⟨a,_,rfl,DPut.t ha hb (by rw[←FM pk];exact hl),oo.nx M2 _ σ _ ((m1.trans m2).trans mw) ?_ h⟩
 refine rs2.objStep g mw (fun v' A' hv' _ hq' hA'=>?_) rs2.sub (rs2.sameW a0 mw) rs2.liv.upd
 rw[hv0]at hv'
 cases hv'
 obtain⟨a',kvs',e,ha',rfl,pk'⟩:=ro_dv.mp hq'
 cases e
 rw[ha]at ha'
 cases ha'
 refine⟨[a],by simp,ro_dv.mpr ⟨a,_,rfl,ak,rfl,(pk'.imp fun x y z=>z.mv mw).put k ((r1.mv m2).mv mw)⟩,fun c hc=>?_,fun c hc _ _ hn=>⟨hc,fun x e _=>?_⟩⟩
 ·rw[zzw.mp hc]
  exact⟨am,a0,ap,.inl (by simp)⟩
 ·rw[aq (by rintro rfl;exact hn (by simp))]
  exact e
def gIxT:D->D->(D->Prop)->Prop:=fun x y P=>∃(kds:List (List Key×D)) (k:List Key) (d:D),x=.dT (kds.map (·.1)) (kds.map (·.2))/\y=keyD k/\gt kds k=some d/\P d
theorem Bw{r:Nat}{a b:Expr}{ta tb:DE}{pos:Pos}(hr:Room r X.A)(ha:PED X a ta)(hb:PED X b tb)(hs:NoSl b):PED X (.Subscript a b pos) (dOp gIxT ta tb):=by
 have gm:∀x y P P',(∀d,P d->P' d)->gIxT x y P->gIxT x y P':=fun x y P P' f ⟨kds,k,d,h1,h2,h3,h4⟩=>⟨kds,k,d,h1,h2,h3,f _ h4⟩
 obtain⟨Ta,pa,ra⟩:=ha.run
 obtain⟨Tb,pb,rb⟩:=hb.run
 refine⟨iB gm ha hb,_,Cn (by have:=hr.units;omega) pa pb hs,fun {F} M H σ ρ Q rs h=>?_⟩
 refine ra M H σ ρ _ rs (ha.mono _ _ _ (fun x ρ1 h M1 H1 v m1 rs1 r1=>?_) h)
 refine rb M1 H1 σ ρ1 _ rs1 (hb.mono _ _ _ (fun y ρ2 h M2 H2 u m2 rs2 r2=>?_) h)
 obtain⟨kds,k,d,rfl,rfl,ef,h⟩:=h
 obtain⟨b,rfl,hb⟩:=kP r2
 have r1:=r1.mv m2
 simp only[Rep]at r1
 obtain⟨c,kvs,rfl,_,_,hc,ek,rr⟩:=r1
 rcases (Ah ek rr).find k with ⟨e1,e2⟩|⟨x,y,e1,e2,rxy⟩
 ·rw[ef]at e1;cases e1
 ·rw[ef]at e1
  cases e1
  rw[oU]at e2
  exact⟨c,y,rfl,e2 ▸ DGet.t hc hb,h M2 H2 y (m1.trans m2) rs2 rxy⟩
def ya:DSp:=fun ds P=>match ds with
 |[.dT ks _]=>((∀k∈ks,oR k)/\(2 <= ks.length->∀k∈ks,k≠[])/\ks.length<64)/\P (.lst ((srtK ks).map keyD))
 |_=>False
omit [Frm] in
theorem yb{K:PySem.W.Frag}{pp:Option Addr}{M:List Addr}{H:Hp}{ks:List (List Key)}{bs:List V}(h:Paired (Dc H) ks bs):Reps K pp M H (ks.map keyD) bs:=by
 induction h with
 |nil=>simp only[zzS,Reps]
 |cons h _ ih =>
  obtain⟨b,rfl,hb⟩:=h
  exact .cons (Ag hb) ih
theorem uO(hc:X.calm=true:=by rfl):CallD X (.builtin "sorted") ya:=by
 refine⟨fun ds P P' f h=>?_,_,wj hc,fun {pp} M H ds vs Q lv r h=>?_⟩
 ·unfold ya at h ⊢
  split at h
  ·exact⟨h.1,f _ h.2⟩
  ·exact h.elim
 ·unfold ya at h
  split at h
  ·rename_i ks es
   obtain⟨⟨h1,h2,h3⟩,h⟩:=h
   simp only[Reps,Rep]at r
   obtain⟨x,t,rfl,⟨a,kvs,rfl,_,_,ha,rfl,_⟩,rfl⟩:=r
   rw[zza]at h2 h3
   refine⟨a,kvs,rfl,ha,h1,h2,h3,fun l bs hl hp=>h _ _ (.new hl) ?_⟩
   simp only[Rep]
   exact⟨l,bs,rfl,(lv.fresh hl).1,(lv.fresh hl).2,ak,(yb hp).mv (.new hl)⟩
  ·exact h.elim
end
end DL
namespace L2
open PySem PySem.Spec PyProof.Rows
section
variable{X:Cx}
def sT(ns:List Int):Nat:=(firstMet (fun i=>ns.getD i 0) ns.length).length
theorem nO:∀{ns:List Int}{us:List Value},Vals (ns.map V.int) us->IntsAre us ns
 |[],us,h=>by cases h;exact .nil
 |n::r,us,h=>by
  rw[zze]at h
  cases h with
  |cons h1 h2 =>
   obtain⟨t,rfl⟩:=(show ∃t,_=Value.int n t from h1)
   exact .cons _ _ (nO h2)
theorem yc(hc:X.calm=true):dO X (.type "set") (fun xs H Q=>∃b ns,xs=[.ref b]/\H b=some (.tup (ns.map V.int))/\ns.length <= 1000/\∀l S,H l=none->Q (.ref l) (upd H l (.set S (sT ns)))):=by
 intro pins s σ H xs us Q I r h
 obtain⟨b,ns,rfl,e,hl,q⟩:=h
 obtain⟨u,rfl,e2⟩:=kw r
 cases e2
 obtain⟨_,its,rv,o,h1,h2,n,h3⟩:=(show ObjOk X.prog X.w H s.heap b (.tup (ns.map V.int)) from I.hok b _ e)
 have hlen:its.length=ns.length:=by have:=rv.length;simpa using this.symm
 refine qW (its:=its.toArray) (ks:=ns) (I.ok.hd hc) ⟨o,h1,h2,n,h3⟩ (by rw[zyz];exact nO rv) (by rw[zzr,hlen];unfold scanBound;omega) fun h' tk hS hk=>?_
 have hz:its.toArray.size=ns.length:=by rw[zzr,hlen]
 rw[hz]at hS
 exact⟨.ref s.heap.objs.size,_,I.laid (o:=.set (fun k=>(firstMet (fun i=>ns.getD i 0) ns.length).any (· == k)) (sT ns)) (fun b o e=>hk b o (zzq e) e) (zzj _) hS,rfl,q _ _ (I.hok.fresh (zzj _))⟩
theorem yd:dO X (.builtin "len") (fun xs H Q=>∃p S n,xs=[.ref p]/\H p=some (.set S n)/\Q (.int n) H):=by
 intro pins s σ H xs us Q I r h
 obtain⟨p,S,n,rfl,e,q⟩:=h
 obtain⟨u,rfl,e2⟩:=kw r
 cases e2
 obtain⟨o,es,ep,t,g1,g2,g3,_,_,g4,g5,g6⟩:=(show ObjOk X.prog X.w H s.heap p (.set S n) from I.hok p _ e)
 refine call_len_set g1 g2 g3 g5 (by unfold scanBound at g4;omega) ?_
 rw[g6]
 exact⟨.int n,H,I.tok _,⟨_,rfl⟩,q⟩
theorem sU{ns:List Int}(h:ns.Nodup):sT ns=ns.length:=by
 unfold sT
 have key:∀i,i <= ns.length->(firstMet (fun i=>ns.getD i 0) i).length=i:=by
  intro i
  induction i with
  |zero=>intro _;rfl
  |succ i ih =>
   intro hi
   rw[firstMet_succ,step_length,firstMet_any,if_neg,ih (by omega)]
   intro hz
   obtain⟨x,hx,e⟩:=List.any_eq_true.mp hz
   obtain⟨j,hj,rfl⟩:=zzb.mp hx
   have hj:=zzy.mp hj
   have hji:j<ns.length:=by omega
   have e:ns[j]=ns[i]:=by simpa[hji,show i<ns.length by omega]using e
   have:=(zyQ h).mp e
   omega
 exact key _ (zzj _)
end
end L2
namespace DL
open PySem PySem.Spec L2
open PyProof.Rows hiding St
variable[TB]
variable[Frm]
section
variable{X:Cx}
omit [Frm] in
theorem nP{K:PySem.W.Frag}{pp:Option Addr}{M:List Addr}{H:Hp}:∀{ns:List Int}{xs:List V},Reps K pp M H (ns.map D.int) xs->xs=ns.map V.int
 |[],xs,h=>by simpa only[zzS,Reps]using h
 |n::r,xs,h=>by
  simp only[zze,Reps,Rep]at h
  obtain⟨x,t,rfl,rfl,h⟩:=h
  rw[nP h];rfl
abbrev Dh(te:DE):DE:=fun ρ Q=>te ρ fun d ρ'=>∃ns:List Int,d=.tup (ns.map .int)/\ns.length <= 1000/\Q (.int (sT ns)) ρ'
theorem ye{e:Expr}{te:DE}{p p' pos pos':Pos}(hc:X.calm=true)(hgl:Gl X "len")(hml:X.mg "len" = none)(hgs:Gl X "set")(hms:X.mg "set" = none)(he:PED X e te)
  (h1:starEach [e] X.env=(false,eval e X.env)::starEach [] X.env:=by rfl)
  (h2:starEach [.Call (.Name "set" p') [e] [] pos'] X.env=(false,eval (.Call (.Name "set" p') [e] [] pos') X.env)::starEach [] X.env:=by rfl)
  (hp:(backTo pos (starEach [] X.env)).any (·.1)=false:=by rfl) (hp':(backTo pos' (starEach [] X.env)).any (·.1)=false:=by rfl) :
  PED X (.Call (.Name "len" p) [.Call (.Name "set" p') [e] [] pos'] [] pos) (Dh te):=by
 obtain⟨T,pe,re⟩:=he.run
 refine⟨fun ρ P P' f h=>he.mono _ _ _ (fun d ρ1 ⟨ns,e1,e2,h⟩=>⟨ns,e1,e2,f _ _ h⟩) h,_,iq (he:=h2) (hpl:=hp) yd hgl hml zyb (bD (ir (he:=h1) (hpl:=hp') (yc hc) hgs hms rfl (bD pe cT h1)) cT h2),fun {F} M H σ ρ Q rs h=>?_⟩
 refine re M H σ ρ _ rs (he.mono _ _ _ (fun d ρ1 h M1 H1 v m1 rs1 r1=>?_) h)
 obtain⟨ns,rfl,hl,h9⟩:=h
 simp only[Rep]at r1
 obtain⟨a,xs,rfl,ha,rr⟩:=r1
 rw[nP rr]at ha
 refine⟨a,ns,rfl,ha,hl,fun l S hn=>⟨l,S,sT ns,rfl,ak,h9 M1 _ _ (m1.trans (.new hn)) (rs1.sameP (.new hn)) bE⟩⟩
def Hv(i:Nat)(E:DEnds)(ρ:DS)(d:D):Sl->Prop
 |.own ds=>∃es,d=.lst es/\ds.length+es.length <= sizeLine/\E.nx (ρ.set i (.own (ds++es)))
 |_=>False
abbrev dExt(i:Nat)(te:DE):DTS:=fun E ρ=>zV (slot ρ i)/\te ρ fun d ρ'=>Hv i E ρ' d (slot ρ' i)
theorem FN{i:Nat}{o e:Expr}{apos cpos pos:Pos}{te:DE}(ho:PE X o (tVar i))(he:PED X e te)
  (hbase:attributeBase o "extend" X.env (eval o X.env)=eval o X.env:=by rfl)
  (hfew:((backTo cpos (starEach [e] X.env)).all (fun x=>!x.1) && (backToKw cpos (keywordEach [] X.env)).all (fun x=>x.1.isSome)
   && decide ([e].length+([]:List Keyword).length+(if ([]:List Keyword).isEmpty then 0 else 1)<30))=true:=by rfl)
  (hline:(apos.endLine == cpos.line)=true:=by rfl) (hst:starEach [e] X.env=(false,eval e X.env)::starEach [] X.env:=by rfl) (hpl:(backTo cpos (starEach [] X.env)).any (·.1)=false:=by rfl)
  (hs:swapsWith (.Call (.Attribute o "extend" apos) [e] [] cpos) none pos.line X.env=pure false:=by rfl):PSD X (.Expr (.Call (.Attribute o "extend" apos) [e] [] cpos) pos) (dExt i te):=by
 have hm:PE X (.Call (.Attribute o "extend" apos) [e] [] cpos) (tBM X.K "list" xp (tVar i) (zE (Classical.choose he.run) tNil)):=xm zyS PySem.F.slot_list_extend PySem.F.type_list_extend xq ho (bD (zzI he.run).1 cT hst) hbase hfew hline hst hpl
 obtain⟨_,r⟩:=zzI he.run
 refine⟨_,oj hm hs,fun {F} M H σ ρ E D rs oo h=>?_⟩
 obtain⟨h0,h⟩:=h
 cases q:slot ρ i with
 |nil=>rw[q]at h0;exact h0.elim
 |val d=>rw[q]at h0;exact h0.elim
 |pin w d=>rw[q]at h0;exact h0.elim
 |obj z=>rw[q]at h0;exact h0.elim
 |own ds =>
  obtain⟨oo1,ho1,l,xs,rfl,hm1,h01,hp1,hl1,hr1⟩:=rs.at (aR q (by intro z;cases z))
  refine⟨.ref l,ho1,.inl ⟨rfl,xs,SqL.of hl1⟩,?_⟩
  refine r M H σ ρ _ rs (he.mono _ _ _ (fun d ρ' h M' H' v m rs' rd=>?_) h)
  cases q':slot ρ' i with
  |nil=>rw[q']at h;exact h.elim
  |val d=>rw[q']at h;exact h.elim
  |pin w d=>rw[q']at h;exact h.elim
  |obj z=>rw[q']at h;exact h.elim
  |own ds' =>
   rw[q']at h
   obtain⟨es,rfl,hlen,h9⟩:=h
   have g1:=aR q' (by intro z;cases z)
   obtain⟨l',xs',e',hm',h0',hp',hl',hr'⟩:=rs'.sl i _ _ g1 ho1
   cases e'
   simp only[Rep]at rd
   obtain⟨c,zs,rfl,hc,_,hzs,rz⟩:=rd
   obtain⟨m2,rs2⟩:=rs'.write g1 ho1 (hr'.append rz)
   exact⟨l,c,xs',zs,rfl,rfl,hl',hzs,by rw[←hr'.length,←rz.length];exact hlen,oo.nx M' _ _ _ (m.trans m2) rs2 h9⟩
end
section
variable{K:PySem.W.Frag}{pp:Option Addr}{M M':List Addr}{H H':Hp}
omit [Frm] in
theorem PL.mv(m:Mv K pp M H M' H'):∀{kls:List (List Key×List D)}{kvs:List (List Key×V)}{ls:List Addr},(∀b∈ls,∀o,H b=some o->H' b=some o)->PL K pp M H kls kvs ls->PL K pp M' H' kls kvs ls
 |[],kvs,ls,_,h=>h
 |p::ps,kvs,ls,kp,h=>by
  obtain⟨l,xs,r,t,rfl,rfl,hl,h1,h2⟩:=h
  exact⟨l,xs,r,t,rfl,rfl,kp l zzd _ hl,h1.mv m,PL.mv m (fun b hb=>kp b (zzc _ hb)) h2⟩
omit [Frm] in
theorem PL.snoc{k:List Key}{es:List D}{l:Addr}{xs:List V}(hl:H l=some (.lst xs))(hr:Reps K pp M H es xs):∀{kls:List (List Key×List D)}{kvs:List (List Key×V)}{ls:List Addr},PL K pp M H kls kvs ls->PL K pp M H (kls++[(k,es)]) (kvs++[(k,.ref l)]) (ls++[l])
 |[],kvs,ls,h=>by
  obtain⟨rfl,rfl⟩:=h
  exact⟨l,xs,[],[],rfl,rfl,hl,hr,rfl,rfl⟩
 |p::ps,kvs,ls,h=>by
  obtain⟨l',xs',r,t,rfl,rfl,hl',h1,h2⟩:=h
  exact⟨l',xs',r++[(k,.ref l)],t++[l],rfl,rfl,hl',h1,PL.snoc hl hr h2⟩
def nq(k:List Key)(d:D):List (List Key×List D)->List (List Key×List D)
 |[]=>[(k,[d])]
 |p::r=>if p.1=k then(p.1,p.2++[d])::r else p::nq k d r
omit [Frm] in
theorem PL.add(k:List Key)(d:D):∀{kls:List (List Key×List D)}{kvs:List (List Key×V)}{ls:List Addr},PL K pp M H kls kvs ls->ls.Nodup ->
  (valV kvs k=none/\nq k d kls=kls++[(k,[d])])∨∃l0 xs,valV kvs k=some (.ref l0)/\l0∈ls/\H l0=some (.lst xs)/\(∃p∈kls,p.1=k/\p.2.length=xs.length) /\
   ∀{M':List Addr}{H':Hp}{v:V},Mv K pp M H M' H'->Rep K pp M' H' d v->H' l0=some (.lst (xs++[v]))->(∀b∈ls,b≠l0->∀o,H b=some o->H' b=some o)->PL K pp M' H' (nq k d kls) kvs ls
 |[],kvs,ls,h,_=>by
  obtain⟨rfl,rfl⟩:=h
  exact .inl ⟨rfl,rfl⟩
 |p::ps,kvs,ls,h,nd=>by
  obtain⟨l,xs,r,t,rfl,rfl,hl,h1,h2⟩:=h
  obtain⟨n1,n2⟩:=zzY.mp nd
  by_cases e:p.1=k
  ·refine .inr ⟨l,xs,kJ (p:=(p.1,V.ref l)) e,zzd,hl,⟨p,zzd,e,h1.length⟩,fun {M' H' v} m rd hv kp=>?_⟩
   unfold nq
   rw[if_pos e]
   exact⟨l,_,r,t,rfl,rfl,hv,(h1.mv m).append (.one rd),PL.mv m (fun b hb=>kp b (zzc _ hb) (by rintro rfl;exact n1 hb)) h2⟩
  ·rcases PL.add k d h2 n2 with ⟨a1,a2⟩|⟨l0,ys,a1,a2,a3,⟨p',a4,a5⟩,f⟩
   ·refine .inl ⟨by rw[iw (p:=(p.1,V.ref l)) e];exact a1,?_⟩
    unfold nq
    rw[if_neg e,a2]
    rfl
   ·refine .inr ⟨l0,ys,by rw[iw (p:=(p.1,V.ref l)) e];exact a1,zzc _ a2,a3,⟨p',zzc _ a4,a5⟩,fun {M' H' v} m rd hv kp=>?_⟩
    unfold nq
    rw[if_neg e]
    exact⟨l,xs,r,t,rfl,rfl,kp l zzd (by rintro rfl;exact n1 a2) _ hl,h1.mv m,f m rd hv fun b hb=>kp b (zzc _ hb)⟩
end
section
variable{X:Cx}
abbrev dSda(i jk ja:Nat):DTS:=fun E ρ=>∃(kls:List (List Key×List D)) (k:List Key) (d:D),slot ρ i=.obj (dlO kls)/\slot ρ jk=.val (keyD k)/\slot ρ ja=.val d/\kls.length<sizeLine/\(∀p∈kls,p.2.length<sizeLine)/\E.nx (ρ.set i (.obj (dlO (nq k d kls))))
omit [Frm] in
theorem PL.len{K:PySem.W.Frag}{pp:Option Addr}{M:List Addr}{H:Hp}:∀{kls:List (List Key×List D)}{kvs:List (List Key×V)}{ls:List Addr},PL K pp M H kls kvs ls->kls.length=kvs.length
 |[],kvs,ls,h=>by rw[h.1];rfl
 |p::ps,kvs,ls,h=>by
  obtain⟨l,xs,r,t,rfl,rfl,hl,h1,h2⟩:=h
  simp[PL.len h2]
theorem FO{i jk ja r:Nat}{o ek ea:Expr}{lp p1 p2 p3 p4 pos:Pos}(hr:Room r X.A)(ho:PE X o (tVar i))(hk:PE X ek (tVar jk))(ha:PE X ea (tVar ja))
  (b1:attributeBase o "setdefault" X.env (eval o X.env)=eval o X.env:=by rfl)
  (f1:((backTo p2 (starEach [ek,.List [] lp] X.env)).all (fun x=>!x.1) && (backToKw p2 (keywordEach [] X.env)).all (fun x=>x.1.isSome)
   && decide ([ek,.List [] lp].length+([]:List Keyword).length+(if ([]:List Keyword).isEmpty then 0 else 1)<30))=true:=by rfl)
  (l1:(p1.endLine == p2.line)=true:=by rfl) (s1:starEach [ek,.List [] lp] X.env=(false,eval ek X.env)::starEach [.List [] lp] X.env:=by rfl) (s1':starEach [.List [] lp] X.env=(false,eval (.List [] lp) X.env)::starEach [] X.env:=by rfl)
  (q1:(backTo p2 (starEach [.List [] lp] X.env)).any (·.1)=false:=by rfl)
  (b2:attributeBase (.Call (.Attribute o "setdefault" p1) [ek,.List [] lp] [] p2) "append" X.env (eval (.Call (.Attribute o "setdefault" p1) [ek,.List [] lp] [] p2) X.env)=eval (.Call (.Attribute o "setdefault" p1) [ek,.List [] lp] [] p2) X.env:=by rfl)
  (f2:((backTo p4 (starEach [ea] X.env)).all (fun x=>!x.1) && (backToKw p4 (keywordEach [] X.env)).all (fun x=>x.1.isSome)
   && decide ([ea].length+([]:List Keyword).length+(if ([]:List Keyword).isEmpty then 0 else 1)<30))=true:=by rfl)
  (l2:(p3.endLine == p4.line)=true:=by rfl) (s2:starEach [ea] X.env=(false,eval ea X.env)::starEach [] X.env:=by rfl) (q2:(backTo p4 (starEach [] X.env)).any (·.1)=false:=by rfl)
  (hs:swapsWith (.Call (.Attribute (.Call (.Attribute o "setdefault" p1) [ek,.List [] lp] [] p2) "append" p3) [ea] [] p4) none pos.line X.env=pure false:=by rfl) :
  PSD X (.Expr (.Call (.Attribute (.Call (.Attribute o "setdefault" p1) [ek,.List [] lp] [] p2) "append" p3) [ea] [] p4) pos) (dSda i jk ja):=by
 have hm:=xm zyS PySem.F.slot_list_append PySem.F.type_list_append lq (xm PySem.F.plainAttrs_dict PySem.F.slot_dict_setdefault PySem.F.type_dict_setdefault (oP (X:=X) (by have:=hr.units;omega)) ho (bD hk (bD (xc (pos:=lp) cT) cT s1') s1) b1 f1 l1 s1 q1) (bD ha cT s2) b2 f2 l2 s2 q2
 refine⟨_,oj hm hs,fun {F} M H σ ρ E D rs oo h=>?_⟩
 obtain⟨kls,k,d,e1,e2,e3,hlen,hlens,h9⟩:=h
 have g1:=aR e1 (by intro z;cases z)
 obtain⟨v0,A,hv0,nd,hq,hA,_⟩:=rs.objAt g1
 obtain⟨a,kvs,ls,rfl,hd,rfl,pl⟩:=ro_dl.mp hq
 obtain⟨_,hk0,vk,rfl,rk⟩:=rs.at (aR e2 (by intro z;cases z))
 obtain⟨_,ha0,va,rfl,ra⟩:=rs.at (aR e3 (by intro z;cases z))
 obtain⟨b,rfl,hb⟩:=kP rk
 obtain⟨am,a0,ap⟩:=hA a zzd
 obtain⟨nd1,nd2⟩:=zzY.mp nd
 refine⟨.ref a,hv0,.inr (.inr (.inl ⟨rfl,.inr ⟨kvs,hd⟩⟩)),.ref b,hk0,zzG _,fun l hl=>?_⟩
 have la:a≠l:=by rintro rfl;rw[hd]at hl;cases hl
 have lb:b≠l:=by rintro rfl;rw[hb]at hl;cases hl
 have lf:=rs.liv.fresh hl
 have hd1:upd H l (.lst []) a=some (.dT kvs):=by rw[aq la];exact hd
 have mn:Mv X.K F.pp M H M (upd H l (.lst [])):=.new hl
 have rs1:RSt X.K F M (upd H l (.lst [])) σ ρ:=rs.sameP (.new hl)
 have f0:F.H0 l=none:=by
  cases e:F.H0 l with
  |none=>rfl
  |some o=>exact absurd hl (rs.same.live l (by rw[e];intro z;cases z))
 refine⟨a,kvs,k,b,.ref l,rfl,rfl,hd1,by rw[aq lb];exact hb,by rw[←pl.len];exact hlen,fun v hv=>?_,fun hn=>?_⟩
 ·rcases pl.add k d nd2 with ⟨a1,_⟩|⟨l0,xs,a1,a2,a3,⟨p',c1,c2,c3⟩,_⟩
  ·rw[hv]at a1;cases a1
  rw[hv]at a1
  cases a1
  obtain⟨lm,l00,lp0⟩:=hA l0 (zzc _ a2)
  have n0:l0≠l:=by rintro rfl;rw[hl]at a3;cases a3
  have hl1:upd H l (.lst []) l0=some (.lst xs):=by rw[aq n0];exact a3
  have mw:Mv X.K F.pp M (upd H l (.lst [])) M (upd (upd H l (.lst [])) l0 (.lst (xs++[va]))):=.writeX hl1 trivial lm lp0
  have m:=mn.trans mw
  refine⟨.inl ⟨rfl,xs,SqL.of hl1⟩,va,ha0,l0,xs,va,rfl,rfl,hl1,by rw[←c3];exact hlens p' c1,oo.nx M _ σ _ m ?_ h9⟩
  refine rs.objStep g1 m (fun v' A' hv' nd' hq' hA'=>?_) rs.sub (rs1.sameW l00 mw) rs1.liv.upd
  rw[hv0]at hv'
  cases hv'
  obtain⟨a',kvs',ls',e,hd',rfl,pl'⟩:=ro_dl.mp hq'
  cases e
  rw[hd]at hd'
  cases hd'
  obtain⟨nd1',nd2'⟩:=zzY.mp nd'
  rcases pl'.add k d nd2' with ⟨z,_⟩|⟨l0',xs',z1,z2,z3,_,f⟩
  ·rw[hv]at z;cases z
  rw[hv]at z1
  cases z1
  rw[a3]at z3
  cases z3
  have na:a≠l0:=by rintro rfl;exact nd1' z2
  have keep:∀c x,c≠l0->H c=some x->upd (upd H l (.lst [])) l0 (.lst (xs++[va])) c=some x:=fun c x h1 h2=>by
   rw[aq h1,aq (by rintro rfl;rw[hl]at h2;cases h2)]
   exact h2
  refine⟨a::ls',nd',ro_dl.mpr ⟨a,kvs,ls',rfl,keep a _ na hd,rfl,f m (ra.mv m) ak fun c _ h1 x h2=>keep c x h1 h2⟩,fun c hc=>⟨(hA' c hc).1,(hA' c hc).2.1,(hA' c hc).2.2,.inl hc⟩,fun c hc _ _ hn=>⟨hc,fun x e _=>keep c x (by rintro rfl;exact hn (zzc _ z2)) e⟩⟩
 ·have hput:putK kvs k (.ref l)=kvs++[(k,.ref l)]:=by
   unfold putK
   rw[oC,hn]
   rfl
  rw[hput]
  have m1:Mv X.K F.pp M H (l::M) (upd H l (.lst [])):=.newOwn hl
  have m2:Mv X.K F.pp (l::M) (upd H l (.lst [])) (l::M) (upd (upd H l (.lst [])) a (.dT (kvs++[(k,.ref l)]))):=.writeX hd1 trivial (zzc _ am) ap
  have m2':Mv X.K F.pp M (upd H l (.lst [])) M (upd (upd H l (.lst [])) a (.dT (kvs++[(k,.ref l)]))):=.writeX hd1 trivial am ap
  have hl2:upd (upd H l (.lst [])) a (.dT (kvs++[(k,.ref l)])) l=some (.lst []):=by rw[aq (Ne.symm la),ak]
  have m3:Mv X.K F.pp (l::M) (upd (upd H l (.lst [])) a (.dT (kvs++[(k,.ref l)]))) (l::M) (upd (upd (upd H l (.lst [])) a (.dT (kvs++[(k,.ref l)]))) l (.lst ([]++[va]))):=.writeX hl2 trivial zzd lf.2
  have m:=(m1.trans m2).trans m3
  have same2:=rs1.sameW a0 m2'
  have same3:SameQ X.K F.pp F.H0 (upd (upd (upd H l (.lst [])) a (.dT (kvs++[(k,.ref l)]))) l (.lst ([]++[va]))):=by
   refine⟨fun c x e n=>?_,fun p e h=>m3.pen p e (same2.pen p e h),fun c e=>?_⟩
   ·rw[aq (by rintro rfl;rw[f0]at e;cases e)]
    exact same2.keep c x e n
   ·by_cases z:c=l
    ·subst z;rw[ak];intro z;cases z
    ·rw[aq z];exact same2.live c e
  have lv3:=(rs1.liv.upd (l:=a) (o:=.dT (kvs++[(k,.ref l)]))).upd (l:=l) (o:=.lst ([]++[va]))
  refine⟨.inl ⟨rfl,[],SqL.of hl2⟩,va,ha0,l,[],va,rfl,rfl,hl2,by decide,oo.nx (l::M) _ σ _ m ?_ h9⟩
  refine rs.objStep g1 m (fun v' A' hv' nd' hq' hA'=>?_) (fun c hc=>zzc _ (rs.sub c hc)) same3 ⟨fun c hc=>?_,lv3.p⟩
  ·rw[hv0]at hv'
   cases hv'
   obtain⟨a',kvs',ls',e,hd',rfl,pl'⟩:=ro_dl.mp hq'
   cases e
   rw[hd]at hd'
   cases hd'
   obtain⟨nd1',nd2'⟩:=zzY.mp nd'
   have lls:l∉ls':=fun z=>lf.1 (hA' l (zzc _ z)).1
   rcases pl'.add k d nd2' with ⟨_,z⟩|⟨l0',xs',z1,_⟩
   ·have keep:∀c x,c≠a->c≠l->H c=some x->upd (upd (upd H l (.lst [])) a (.dT (kvs++[(k,.ref l)]))) l (.lst ([]++[va])) c=some x:=fun c x h1 h2 h3=>by
     rw[aq h2,aq h1,aq h2]
     exact h3
    have hal:upd (upd (upd H l (.lst [])) a (.dT (kvs++[(k,.ref l)]))) l (.lst ([]++[va])) a=some (.dT (kvs++[(k,.ref l)])):=by rw[aq la,ak]
    refine⟨a::(ls'++[l]),?_,ro_dl.mpr ⟨a,_,ls'++[l],rfl,hal,rfl,?_⟩,fun c hc=>?_,fun c hc _ _ hn=>⟨zzc _ hc,fun x e _=>keep c x (by rintro rfl;exact hn zzd) (by rintro rfl;exact lf.1 hc) e⟩⟩
    ·refine zzY.mpr ⟨fun z=>?_,zyN.mpr ⟨nd2',by simp,fun x hx y hy e=>?_⟩⟩
     ·rcases zzx.mp z with z|z
      ·exact nd1' z
      ·exact la (zzw.mp z)
     ·rw[zzw.mp hy]at e
      subst e
      exact lls hx
    ·rw[z]
     exact PL.snoc ak (.one (ra.mv m)) (pl'.mv m fun c hc x e=>keep c x (by rintro rfl;exact nd1' hc) (by rintro rfl;exact lls hc) e)
    ·rcases zzi.mp hc with rfl|hc
     ·exact⟨zzc _ am,a0,ap,.inl zzd⟩
     rcases zzx.mp hc with hc|hc
     ·have:=hA' c (zzc _ hc)
      exact⟨zzc _ this.1,this.2.1,this.2.2,.inl (zzc _ hc)⟩
     ·rw[zzw.mp hc]
      exact⟨zzd,f0,lf.2,.inr lf.1⟩
   ·rw[hn]at z1;cases z1
  ·rcases zzi.mp hc with rfl|hc
   ·rw[ak];intro z;cases z
   ·exact lv3.m c hc
def isDT:D->Prop
 |.dT _ _=>True
 |_=>False
abbrev Hw(tx tk te:DE):DE:=fun ρ Q=>tx ρ fun x ρ0=>isDT x/\tk ρ0 fun dk ρ1=>te ρ1 fun d ρ2=>∃kds k,x=.dT (List.map (·.1) kds) (List.map (·.2) kds)/\dk=keyD k/\Q ((gt kds k).getD d) ρ2
theorem Di{r:Nat}{o ek e:Expr}{apos cpos:Pos}{tx tk te:DE}(hr:Room r X.A)(hx:PED X o tx)(hk:PED X ek tk)(he:PED X e te)(m:M2 X o "get" apos ek e cpos:=by exact⟨rfl,rfl,rfl,rfl⟩) :
  PED X (.Call (.Attribute o "get" apos) [ek,e] [] cpos) (Hw tx tk te):=by
 obtain⟨Tx,px,rx⟩:=hx.run
 obtain⟨Tk,pk,rk⟩:=hk.run
 obtain⟨Te,pe,re⟩:=he.run
 refine⟨fun ρ P P' f h=>hx.mono _ _ _ (fun x ρ0 h=>⟨h.1,hk.mono _ _ _ (fun dk ρ1 h=>he.mono _ _ _ (fun d ρ2 ⟨kds,k,h1,h2,h3⟩=>⟨kds,k,h1,h2,f _ _ h3⟩) h) h.2⟩) h,_,zL (by have:=hr.units;omega) px pk pe m,fun {F} M H σ ρ Q rs h=>?_⟩
 refine rx M H σ ρ _ rs (hx.mono _ _ _ (fun x ρ0 h M0 H0 v m0 rs0 r0=>?_) h)
 cases x with
 |dT ks ds =>
  simp only[Rep]at r0
  obtain⟨a,kvs,rfl,an,ap,ha,ek',rr⟩:=r0
  refine⟨a,rfl,.inr ⟨kvs,.inl ha⟩,?_⟩
  refine rk M0 H0 σ ρ0 _ rs0 (hk.mono _ _ _ (fun dk ρ1 h M1 H1 y m1 rs1 r1=>?_) h.2)
  refine re M1 H1 σ ρ1 _ rs1 (he.mono _ _ _ (fun d ρ2 h M2 H2 z m2 rs2 r2=>?_) h)
  obtain⟨kds,k,e1,e2,h9⟩:=h
  subst e2
  cases e1
  obtain⟨b,rfl,hb⟩:=kP (r1.mv m2)
  have ha2:=((m1.trans m2).oth a _ ha an (np ap)).1
  refine⟨_,DGet.t ha2 hb,h9 M2 H2 _ ((m0.trans m1).trans m2) rs2 ?_⟩
  rcases (Ah ek' (Reps.mv (m1.trans m2) _ _ rr)).find k with ⟨e1,e2⟩|⟨x,y,e1,e2,rxy⟩
  ·rw[oU]at e2
   rw[e1,e2]
   exact r2
  ·rw[oU]at e2
   rw[e1,e2]
   exact rxy
 |_=>exact h.1.elim
end
end DL
namespace L2
open PySem PySem.Spec PyProof.Rows PySem.W
theorem ej{α β:Type}(c:Nat->Nat->Bool)(f:α->KasT β):∀t:KasT α,kRun c (t.bind f)=kRun c (f (kRun c t))
 |.ret _=>rfl
 |.ask i j k=>ej c f (k (c i j))
structure StrO(N:Nat)(c:Nat->Nat->Bool):Prop where
 tr:∀i j k,i<N->j<N->k<N->c i j=true->c j k=true->c i k=true
 as:∀i j,i<N->j<N->c i j=true->c j i=false
 to:∀i j,i<N->j<N->i≠j->c i j=false->c j i=true
section
variable{N:Nat}{c:Nat->Nat->Bool}{p:Array Nat}
theorem PmN.size(h:PmN N p):p.size=N:=by
 have:=h.length_eq
 simpa using this
theorem PmN.ne(h:PmN N p){i j:Nat}(hi:i<N)(hj:j<N)(e:i≠j):p.getD i 0≠p.getD j 0:=by
 have nd:p.toList.Nodup:=h.nodup_iff.mpr List.nodup_range
 have s:=h.size
 have e1:p.getD i 0=p.toList[i]'(by simpa[s]using hi):=by simp[Array.getD,s,hi]
 have e2:p.getD j 0=p.toList[j]'(by simpa[s]using hj):=by simp[Array.getD,s,hj]
 rw[e1,e2]
 intro z
 exact e ((zyQ nd).mp z)
def Asc(c:Nat->Nat->Bool)(p:Array Nat)(n:Nat):Prop:=∀i j,i<j->j<n->c (p.getD i 0) (p.getD j 0)=true
def Dsc(c:Nat->Nat->Bool)(p:Array Nat)(n:Nat):Prop:=∀i j,i<j->j<n->c (p.getD j 0) (p.getD i 0)=true
theorem Asc.step(O:StrO N c)(h:PmN N p){n:Nat}(hn:1 <= n)(hN:n<N)(a:Asc c p n)(e:c (p.getD n 0) (p.getD (n - 1) 0)=false):Asc c p (n+1):=by
 have h0:0<N:=by omega
 have last:c (p.getD (n - 1) 0) (p.getD n 0)=true:=O.to _ _ (h.lt h0 _) (h.lt h0 _) (h.ne hN (by omega) (by omega)) e
 intro i j hij hj
 by_cases z:j=n
 ·subst z
  by_cases y:i=j - 1
  ·subst y;exact last
  ·exact O.tr _ _ _ (h.lt h0 _) (h.lt h0 _) (h.lt h0 _) (a i (j - 1) (by omega) (by omega)) last
 ·exact a i j hij (by omega)
theorem Dsc.step(O:StrO N c)(h:PmN N p){n:Nat}(hn:1 <= n)(hN:n<N)(a:Dsc c p n)(last:c (p.getD n 0) (p.getD (n - 1) 0)=true):Dsc c p (n+1):=by
 have h0:0<N:=by omega
 intro i j hij hj
 by_cases z:j=n
 ·subst z
  by_cases y:i=j - 1
  ·subst y;exact last
  ·exact O.tr _ _ _ (h.lt h0 _) (h.lt h0 _) (h.lt h0 _) last (a i (j - 1) (by omega) (by omega))
 ·exact a i j hij (by omega)
theorem sV(O:StrO N c)(h:PmN N p):∀(f n:Nat),1 <= n->n+f <= N->Asc c p n->Asc c p (kRun c (kas_asc p f n))/\n <= kRun c (kas_asc p f n)/\kRun c (kas_asc p f n) <= n+f/\(kRun c (kas_asc p f n)=n+f∨c (p.getD (kRun c (kas_asc p f n)) 0) (p.getD (kRun c (kas_asc p f n) - 1) 0)=true)
 |0,n,_,_,a=>⟨a,zzj _,zzj _,.inl rfl⟩
 |f+1,n,hn,hN,a=>by
  have e0:kRun c (kas_asc p (f+1) n)=kRun c (if c (p.getD n 0) (p.getD (n - 1) 0)=true then .ret n else kas_asc p f (n+1)):=rfl
  cases e:c (p.getD n 0) (p.getD (n - 1) 0) with
  |true =>
   rw[e0,if_pos e]
   exact⟨a,zzj _,by show n <= _;omega,.inr e⟩
  |false =>
   rw[e0,if_neg (by rw[e];intro z;cases z)]
   obtain⟨b1,b2,b3,b4⟩:=sV O h f (n+1) (by omega) (by omega) (a.step O h hn (by omega) e)
   refine⟨b1,by omega,by omega,?_⟩
   rcases b4 with b4|b4
   ·exact .inl (by omega)
   ·exact .inr b4
theorem uP(O:StrO N c)(h:PmN N p):∀(f n:Nat),1 <= n->n+f <= N->Dsc c p n->∃m,kRun c (kas_desc f p n 0)=(p,m,0)/\Dsc c p m/\n <= m/\m <= n+f
 |0,n,_,_,a=>⟨n,rfl,a,zzj _,zzj _⟩
 |f+1,n,hn,hN,a=>by
  have h0:0<N:=by omega
  have e0:kRun c (kas_desc (f+1) p n 0)=kRun c (if c (p.getD n 0) (p.getD (n - 1) 0)=true then(if 0>0 then kas_desc f (kas_rev p (n - (0+1)) n) (n+1) 0 else kas_desc f p (n+1) 0)
   else .ask (p.getD (n - 1) 0) (p.getD n 0) fun d=>if d=true then .ret (p,n,0) else kas_desc f p (n+1) (0+1)):=rfl
  rw[e0]
  cases e:c (p.getD n 0) (p.getD (n - 1) 0) with
  |true =>
   rw[if_pos rfl,if_neg (by omega)]
   obtain⟨m,b1,b2,b3,b4⟩:=uP O h f (n+1) (by omega) (by omega) (a.step O h hn (by omega) e)
   exact⟨m,b1,b2,by omega,by omega⟩
  |false =>
   rw[if_neg (by intro z;cases z)]
   have last:c (p.getD (n - 1) 0) (p.getD n 0)=true:=O.to _ _ (h.lt h0 _) (h.lt h0 _) (h.ne (by omega) (by omega) (by omega)) e
   have e1:kRun c (.ask (p.getD (n - 1) 0) (p.getD n 0) fun d=>if d=true then .ret (p,n,0) else kas_desc f p (n+1) (0+1))=kRun c (if c (p.getD (n - 1) 0) (p.getD n 0)=true then .ret (p,n,0) else kas_desc f p (n+1) (0+1)):=rfl
   rw[e1,if_pos last]
   exact⟨n,rfl,a,zzj _,by omega⟩
theorem yf{p:Array Nat}{a b:Nat}(ha:a<p.size)(hb:b<p.size)(i:Nat):(p.swapIfInBounds a b).getD i 0=if i=a then p.getD b 0 else if i=b then p.getD a 0 else p.getD i 0:=by
 have e:∀(q:Array Nat) (j:Nat),q.getD j 0=(q[j]?).getD 0:=fun q j=>by
  by_cases h:j<q.size<;>simp[Array.getD,h]
 rw[e,e,e,e,Array.swapIfInBounds_def,dif_pos ha,dif_pos hb,Array.getElem?_swap]
 by_cases h1:i=a
 ·subst h1
  by_cases h2:i=b
  ·subst h2;simp[hb]
  ·simp[h2,hb,Ne.symm h2]
 ·by_cases h2:i=b
  ·subst h2
   simp[h1,ha,hb]
  ·simp[h1,h2,Ne.symm h1,Ne.symm h2]
theorem uQ{p:Array Nat}{k:Nat}(hk:k<p.size):∀(d:Nat),d <= k->∀i,(bubble p k d).getD i 0=if i=k - d then p.getD k 0 else if k - d<i/\i <= k then p.getD (i - 1) 0 else p.getD i 0
 |0,_,i=>by
  show p.getD i 0=_
  by_cases h:i=k
  ·subst h;simp
  ·rw[if_neg (by omega),if_neg (by omega)]
 |d+1,hd,i=>by
  rw[bubble_succ,yf (by rw[bubble_size];omega) (by rw[bubble_size];omega),uQ hk d (by omega),uQ hk d (by omega),uQ hk d (by omega)]
  by_cases h1:i=k - d
  ·rw[if_pos h1,if_neg (by omega),if_neg (by omega),if_neg (by omega),if_pos (by omega),show k - d - 1=i - 1 by omega]
  ·rw[if_neg h1]
   by_cases h2:i=k - d - 1
   ·rw[if_pos h2,if_pos rfl,if_pos (by omega)]
   ·rw[if_neg h2,if_neg h1,if_neg (show ¬i=k - (d+1) by omega)]
    by_cases h3:k - d<i/\i <= k
    ·rw[if_pos h3,if_pos (by omega)]
    ·rw[if_neg h3,if_neg (by omega)]
theorem uR{p:Array Nat}{n:Nat}(hn:n <= p.size):∀(d:Nat),d <= n / 2->∀i,(mirror p 0 n d).getD i 0=if i<d∨(n - d <= i/\i<n) then p.getD (n - 1 - i) 0 else p.getD i 0
 |0,_,i=>by
  show p.getD i 0=_
  rw[if_neg (by omega)]
 |d+1,hd,i=>by
  rw[mirror_succ,yf (by rw[mirror_size];omega) (by rw[mirror_size];omega),uR hn d (by omega),uR hn d (by omega),uR hn d (by omega)]
  by_cases h1:i=0+d
  ·rw[if_pos h1,if_neg (by omega),if_pos (by omega),show n - 1 - d=n - 1 - i by omega]
  ·rw[if_neg h1]
   by_cases h2:i=n - 1 - d
   ·rw[if_pos h2,if_neg (by omega),if_pos (by omega),show n - 1 - i=0+d by omega]
   ·rw[if_neg h2]
    by_cases h3:i<d∨(n - d <= i/\i<n)
    ·rw[if_pos h3,if_pos (by omega)]
    ·rw[if_neg h3,if_neg (by omega)]
theorem Bx{p:Array Nat}{n:Nat}(hn:n <= p.size)(i:Nat):(kas_rev p 0 n).getD i 0=if i<n then p.getD (n - 1 - i) 0 else p.getD i 0:=by
 unfold kas_rev
 rw[uR hn _ (by omega)]
 by_cases h:i<(n - 0) / 2∨(n - (n - 0) / 2 <= i/\i<n)
 ·rw[if_pos h,if_pos (by omega)]
 ·rw[if_neg h]
  by_cases h2:i<n
  ·rw[if_pos h2,show n - 1 - i=i by omega]
  ·rw[if_neg h2]
theorem Dsc.rev{n:Nat}(h:PmN N p)(hn:n <= N)(a:Dsc c p n):Asc c (kas_rev p 0 n) n:=by
 intro i j hij hj
 have s:=h.size
 rw[Bx (by omega),Bx (by omega),if_pos (by omega),if_pos hj]
 exact a _ _ (by omega) (by omega)
theorem yg(O:StrO N c)(h:PmN N p)(h2:2 <= N):Asc c (kRun c (kas_count N p)).2 (kRun c (kas_count N p)).1/\1 <= (kRun c (kas_count N p)).1/\(kRun c (kas_count N p)).1 <= N:=by
 obtain⟨a1,a2,a3,a4⟩:=sV O h (N - 1) 1 (zzj _) (by omega) (fun i j hij hj=>by omega)
 unfold kas_count
 rw[ej]
 generalize kRun c (kas_asc p (N - 1) 1)=n at a1 a2 a3 a4
 by_cases e1:(n == N)=true
 ·rw[if_pos e1]
  exact⟨a1,a2,by show n <= N;omega⟩
 ·rw[if_neg e1]
  have nN:n≠N:=fun z=>e1 (by rw[z];exact beq_self_eq_true _)
  by_cases e2:n>1
  ·rw[if_pos e2]
   have e3:kRun c (.ask (p.getD 0 0) (p.getD (n - 1) 0) fun b=>if b=true then .ret (n,p) else kas_descPart n N (kas_rev p 0 n))=kRun c (if c (p.getD 0 0) (p.getD (n - 1) 0)=true then .ret (n,p) else kas_descPart n N (kas_rev p 0 n)):=rfl
   rw[e3,if_pos (a1 0 (n - 1) (by omega) (by omega))]
   exact⟨a1,a2,by show n <= N;omega⟩
  ·rw[if_neg e2]
   have n1:n=1:=by omega
   subst n1
   have last:c (p.getD 1 0) (p.getD (1 - 1) 0)=true:=by
    rcases a4 with a4|a4
    ·exact absurd a4 (by omega)
    ·exact a4
   have d2:Dsc c p (1+1):=Dsc.step O h (zzj _) (by omega) (fun i j hij hj=>by omega) last
   unfold kas_descPart
   rw[ej]
   obtain⟨m,b1,b2,b3,b4⟩:=uP O h (N - (1+1)) (1+1) (by omega) (by omega) d2
   rw[b1]
   show Asc c (kRun c (if (0:Nat)>0 then _ else kas_tail3 m N p)).2 _/\_
   rw[if_neg (by omega)]
   have mN:m <= N:=by omega
   unfold kas_tail3
   rw[ej]
   obtain⟨c1,c2,c3,_⟩:=sV O (h.rev 0 m) (N - m) m (by omega) (by omega) (b2.rev h mN)
   exact⟨c1,by show 1 <= kRun c _;omega,by show kRun c _ <= N;omega⟩
theorem lR(O:StrO N c)(h:PmN N p){k:Nat}(hk:k<N)(a:Asc c p k):∀(f l r:Nat),r - l <= f->l <= r->r <= k->(∀i,i<l->c (p.getD i 0) (p.getD k 0)=true)->(∀i,r <= i->i<k->c (p.getD k 0) (p.getD i 0)=true) ->
  (kRun c (kas_place p k f l r) <= k/\(∀i,i<kRun c (kas_place p k f l r)->c (p.getD i 0) (p.getD k 0)=true)/\∀i,kRun c (kas_place p k f l r) <= i->i<k->c (p.getD k 0) (p.getD i 0)=true)
 |0,l,r,hf,hlr,hr,h1,h2=>by
  show l <= k/\_
  have:l=r:=by omega
  subst this
  exact⟨hr,h1,h2⟩
 |f+1,l,r,hf,hlr,hr,h1,h2=>by
  have h0:0<N:=by omega
  unfold kas_place
  by_cases e:l ≥ r
  ·rw[if_pos e]
   have:l=r:=by omega
   subst this
   exact⟨hr,h1,h2⟩
  ·rw[if_neg e]
   have e3:∀(t u:KasT Nat),kRun c (.ask (p.getD k 0) (p.getD ((l+r) / 2) 0) fun b=>if b=true then t else u)=kRun c (if c (p.getD k 0) (p.getD ((l+r) / 2) 0)=true then t else u):=fun _ _=>rfl
   rw[e3]
   cases z:c (p.getD k 0) (p.getD ((l+r) / 2) 0) with
   |true =>
    rw[if_pos rfl]
    refine lR O h hk a f l ((l+r) / 2) (by omega) (by omega) (by omega) h1 fun i hi hik=>?_
    by_cases y:i=(l+r) / 2
    ·rw[y];exact z
    ·exact O.tr _ _ _ (h.lt h0 _) (h.lt h0 _) (h.lt h0 _) z (a _ _ (by omega) hik)
   |false =>
    rw[if_neg (by intro z;cases z)]
    have z':c (p.getD ((l+r) / 2) 0) (p.getD k 0)=true:=O.to _ _ (h.lt h0 _) (h.lt h0 _) (h.ne hk (by omega) (by omega)) z
    refine lR O h hk a f ((l+r) / 2+1) r (by omega) (by omega) hr (fun i hi=>?_) h2
    by_cases y:i=(l+r) / 2
    ·rw[y];exact z'
    ·exact O.tr _ _ _ (h.lt h0 _) (h.lt h0 _) (h.lt h0 _) (a i _ (by omega) (by omega)) z'
theorem Asc.bub(h:PmN N p){k l:Nat}(hk:k<N)(a:Asc c p k)(hl:l <= k)(h1:∀i,i<l->c (p.getD i 0) (p.getD k 0)=true)(h2:∀i,l <= i->i<k->c (p.getD k 0) (p.getD i 0)=true):Asc c (bubble p k (k - l)) (k+1):=by
 intro i j hij hj
 have s:=h.size
 have e:=uQ (p:=p) (k:=k) (by omega) (k - l) (by omega)
 have el:k - (k - l)=l:=by omega
 rw[e i,e j,el]
 by_cases i1:i=l
 ·rw[if_pos i1,if_neg (by omega),if_pos (by omega)]
  exact h2 (j - 1) (by omega) (by omega)
 ·rw[if_neg i1]
  by_cases j1:j=l
  ·rw[if_pos j1,if_neg (by omega)]
   exact h1 i (by omega)
  ·rw[if_neg j1]
   by_cases i2:l<i/\i <= k
   ·rw[if_pos i2,if_pos (by omega)]
    exact a _ _ (by omega) (by omega)
   ·rw[if_neg i2]
    by_cases j2:l<j/\j <= k
    ·rw[if_pos j2]
     exact a _ _ (by omega) (by omega)
    ·rw[if_neg j2]
     exact a _ _ hij (by omega)
theorem yh(O:StrO N c):∀(f:Nat) (p:Array Nat) (k:Nat),PmN N p->1 <= k->k+f=N->Asc c p k->Asc c (kRun c (kas_bin f p k)) N
 |0,p,k,h,_,e,a=>by
  have:k=N:=by omega
  subst this
  exact a
 |f+1,p,k,h,hk,e,a=>by
  unfold kas_bin
  rw[ej]
  obtain⟨b1,b2,b3⟩:=lR O h (k:=k) (by omega) a k 0 k (by omega) (by omega) (zzj _) (fun i hi=>by omega) (fun i hi hik=>by omega)
  exact yh O f _ (k+1) (h.bub _ _) (by omega) (by omega) (a.bub h (by omega) b1 b2 b3)
theorem Ak(O:StrO N c)(h2:2 <= N):Asc c (kRun c (kas_sort N)) N:=by
 have hp:PmN N (List.toArray (List.range N)):=by unfold PmN;rw[zyz]
 unfold kas_sort
 rw[ej]
 obtain⟨a1,a2,a3⟩:=yg O hp h2
 have pm:=KGood.end c _ (nM (N:=N) (by omega) hp N)
 generalize kRun c (kas_count N (List.toArray (List.range N)))=r at a1 a2 a3 pm
 by_cases e:r.1<N
 ·rw[if_pos e]
  have em:max r.1 1=r.1:=by omega
  rw[em]
  exact yh O _ _ _ pm a2 (by omega) a1
 ·rw[if_neg e]
  have:r.1=N:=by omega
  rw[this]at a1
  exact a1
end
end L2
namespace L2
open PySem PySem.Spec PyProof.Rows
def IterX:Bool->Heap->Addr->Addr->Nat->Prop
 |true,h,i,a,k=>h.IsTupleIter i a k
 |false,h,i,a,k=>h.IsListIter i a k
def SeqX:Bool->Heap->Addr->Array Value->Prop
 |true,h,a,xs=>h.IsTuple a xs
 |false,h,a,xs=>h.IsList a xs
theorem IterX.extBut{t:Bool}{h h':Heap}{i a b:Addr}{k:Nat}(x:IterX t h i a k)(hs:Heap.ExtBut b h h')(e:i≠b):IterX t h' i a k:=by
 cases t with
 |true=>exact Heap.IsTupleIter.extBut x hs e
 |false=>exact Heap.IsListIter.extBut x hs e
theorem IterX.at{t:Bool}{h h':Heap}{i a:Addr}{k:Nat}(x:IterX t h i a k)(e:∀o,h.get? i=some o->h'.get? i=some o):IterX t h' i a k:=by
 cases t with
 |true=>exact Heap.IsTupleIter.at x e
 |false=>exact Heap.IsListIter.at x e
theorem IterX.cell{t:Bool}{h:Heap}{i a:Addr}{k:Nat}(x:IterX t h i a k):∃o,h.get? i=some o/\∀v,o.data ≠ .cell v:=by
 cases t with
 |true=>obtain⟨o,e,_,d⟩:=(show h.IsTupleIter i a k from x);exact⟨o,e,fun v z=>by rw[d]at z;cases z⟩
 |false=>obtain⟨o,e,_,d⟩:=(show h.IsListIter i a k from x);exact⟨o,e,fun v z=>by rw[d]at z;cases z⟩
theorem SeqX.extBut{t:Bool}{h h':Heap}{a b:Addr}{xs:Array Value}(x:SeqX t h a xs)(hs:Heap.ExtBut b h h')(e:a≠b):SeqX t h' a xs:=by
 cases t with
 |true=>exact Heap.IsTuple.extBut x hs e
 |false=>exact Heap.IsList.extBut x hs e
theorem SeqX.at{t:Bool}{h h':Heap}{a:Addr}{xs:Array Value}(x:SeqX t h a xs)(e:∀o,h.get? a=some o->h'.get? a=some o):SeqX t h' a xs:=by
 cases t with
 |true=>obtain⟨o,ho,r⟩:=(show h.IsTuple a xs from x);exact⟨o,e o ho,r⟩
 |false=>exact Heap.IsList.at x e
theorem SeqX.lt{t:Bool}{h:Heap}{a:Addr}{xs:Array Value}(x:SeqX t h a xs):a<h.objs.size:=by
 cases t with
 |true=>obtain⟨o,ho,_⟩:=(show h.IsTuple a xs from x);exact zzq ho
 |false=>obtain⟨o,ho,_⟩:=(show h.IsList a xs from x);exact zzq ho
section
variable{prog:Program}{w:World}{A:Around}{E:Value->Shared->Prop}{s:Shared}
theorem fu{it t:Addr}{i:Nat}{xs:Array Value}{v:Value}{Q:Value->Shared->Prop}(h1:s.heap.IsTupleIter it t i)(h2:s.heap.IsTuple t xs)(h3:xs[i]? = some v)
  (q:∀h',h'.IsTupleIter it t (i+1)->Heap.SameBut it s.heap h'->Q v { s with heap:=h' }):wpAny (model prog w) A (Builtin.SmallTypes.nextOf (.ref it)) Q E s:=by
 obtain⟨ob,ho,oc,od⟩:=id h1
 obtain⟨ot,hot,_,nt,odt⟩:=h2
 unfold Builtin.SmallTypes.nextOf
 refine wpAny_bind (wpAny_callSpecial?_slot (name:=Str.ofString "__next__") h1.typeIs F.slot_tuple_iterator_next (wpAny_call_entry F.slot_tuple_iterator_next h1.typeIs F.entry_tuple_iterator_next ?_ (F.args_tuple_iterator_next_1 _)))
 refine(show wpAny _ _ (field (.ref it) 0 >>= _) _ _ s from wpAny_bind (wpAny_field ho od (x:=.ref t) rfl ?_))
 refine(show wpAny _ _ (if (Value.ref t == Value.none)=true then _ else _) _ _ s from ?_)
 rw[if_neg (show ¬((Value.ref t == Value.none)=true) from fun z=>nomatch z)]
 refine(show wpAny _ _ (field (.ref it) 1 >>= _) _ _ s from wpAny_bind (wpAny_field ho od (x:=.int i 0) rfl ?_))
 refine(show wpAny _ _ (seqItems? (.ref t) >>= _) _ _ s from wpAny_bind (wpAny_seqItems hot odt ?_))
 simp only[zzP,h3]
 refine wpAny_bind (wpAny_setField ho od (by simp) (wpAny_pure ⟨v,rfl,wpAny_pure (q _ ⟨_,zyg _ ho (Obj.isFreed_of_fields (Obj.data_mapFields od _)),(Obj.cls_mapFields ..).trans oc,by rw[Obj.data_mapFields od];simp[rawInt]⟩ (zzX ..))⟩))
theorem dR{it t:Addr}{i:Nat}{xs:Array Value}{Q:Value->Shared->Prop}(hh:A.handled=none)(h1:s.heap.IsTupleIter it t i)(h2:s.heap.IsTuple t xs)(h3:xs[i]? = none)
  (q:∀h' e,Heap.ExtBut it s.heap h'->(∃o,h'.get? e=some o/\o.cls=.type "StopIteration")->E (.ref e) { s with heap:=h' }):wpAny (model prog w) A (Builtin.SmallTypes.nextOf (.ref it)) Q E s:=by
 obtain⟨ob,ho,oc,od⟩:=id h1
 obtain⟨ot,hot,_,nt,odt⟩:=h2
 unfold Builtin.SmallTypes.nextOf
 refine wpAny_bind (wpAny_callSpecial?_slot (name:=Str.ofString "__next__") h1.typeIs F.slot_tuple_iterator_next (wpAny_call_entry F.slot_tuple_iterator_next h1.typeIs F.entry_tuple_iterator_next ?_ (F.args_tuple_iterator_next_1 _)))
 refine(show wpAny _ _ (field (.ref it) 0 >>= _) _ _ s from wpAny_bind (wpAny_field ho od (x:=.ref t) rfl ?_))
 refine(show wpAny _ _ (if (Value.ref t == Value.none)=true then _ else _) _ _ s from ?_)
 rw[if_neg (show ¬((Value.ref t == Value.none)=true) from fun z=>nomatch z)]
 refine(show wpAny _ _ (field (.ref it) 1 >>= _) _ _ s from wpAny_bind (wpAny_field ho od (x:=.int i 0) rfl ?_))
 refine(show wpAny _ _ (seqItems? (.ref t) >>= _) _ _ s from wpAny_bind (wpAny_seqItems hot odt ?_))
 simp only[zzP,h3]
 refine wpAny_bind (wpAny_rule (wpAny_bind (wpAny_setField ho od (by simp) ?_)))
 refine(show wpAny _ _ (newExc (.type "StopIteration") [] >>= _) _ _ _ from wpAny_bind ?_)
 simp only[newExc,newTuple]
 refine wpAny_bind (wpAny_newObj_type (wpAny_bind (m:=firstArgMember _ _) (wpAny_of_eq (a:=Value.none) (by first|rfl | (simp only[firstArgMember];rfl)) (wpAny_newObj_type ?_ (by size_fits)))) (by size_fits))
 simp only[raiseNew];refine wpAny_bind (wpAny_handled ?_);(first|rw[show A.in1.handled=none from hh]|rw[hh]);refine wpAny_bind (wpAny_pure (wpAny_throw ?_))
 exact q _ _ (((zzX ..).extBut.push _).push _) ⟨_,zzs _ rfl,rfl⟩
theorem iK{b:Bool}{it t:Addr}{i:Nat}{xs:Array Value}{v:Value}{Q:Value->Shared->Prop}(h1:IterX b s.heap it t i)(h2:SeqX b s.heap t xs)(h3:xs[i]? = some v)
  (q:∀h',IterX b h' it t (i+1)->Heap.SameBut it s.heap h'->Q v { s with heap:=h' }):wpAny (model prog w) A (Builtin.SmallTypes.nextOf (.ref it)) Q E s:=by
 cases b with
 |true=>exact fu h1 h2 h3 q
 |false=>exact wpAny_nextOf_list_item h1 h2 h3 q
theorem ki{b:Bool}{it t:Addr}{i:Nat}{xs:Array Value}{Q:Value->Shared->Prop}(hh:A.handled=none)(h1:IterX b s.heap it t i)(h2:SeqX b s.heap t xs)(h3:xs[i]? = none)
  (q:∀h' e,Heap.ExtBut it s.heap h'->(∃o,h'.get? e=some o/\o.cls=.type "StopIteration")->E (.ref e) { s with heap:=h' }):wpAny (model prog w) A (Builtin.SmallTypes.nextOf (.ref it)) Q E s:=by
 cases b with
 |true=>exact dR hh h1 h2 h3 q
 |false=>exact wpAny_nextOf_list_end hh h1 h2 h3 q
end
section
variable{tk:Addr->Bool}
def By(tk:Addr->Bool)(h:Heap)(n:Nat)(src:List (Addr×Array Value))(k c:Nat):Prop:=∀(j:Nat) (p:Addr×Array Value),src[j]? = some p->IterX (tk p.1) h (n+j) p.1 (if j<c then k+1 else k)
def Bz(tk:Addr->Bool)(h:Heap)(n:Nat)(src:List (Addr×Array Value)):Prop:=∀(j:Nat) (p:Addr×Array Value),src[j]? = some p->p.1<n/\SeqX (tk p.1) h p.1 p.2
structure ZipStM(tk:Addr->Bool)(h:Heap)(n:Nat)(src:List (Addr×Array Value))(k:Nat):Prop where
 zip:∃f0 f1,OwnF f0/\dj h (n+src.length+2) (n+src.length) (n+src.length+1) f0 f1
 ti:cU h (n+src.length) (itsL n src.length).toArray
 to:∃ws:Array Value,ws.size=src.length/\cU h (n+src.length+1) ws
 its:By tk h n src k 0
 ls:Bz tk h n src
 ne:src≠[]
structure ZipLpM(tk:Addr->Bool)(h0:Heap)(n:Nat)(src:List (Addr×Array Value))(k c:Nat)(h:Heap):Prop where
 ti:cU h (n+src.length) (itsL n src.length).toArray
 its:By tk h n src k c
 ls:Bz tk h n src
 kept:KeptZ n src.length h0 h
 sz:h.objs.size=h0.objs.size
section
variable{h0 h h':Heap}{n k c:Nat}{src:List (Addr×Array Value)}
theorem ZipLpM.same{a:Nat}(L:ZipLpM tk h0 n src k c h)(hs:Heap.SameBut a h h')(ha:a=n+src.length+1∨a=n+src.length+2):ZipLpM tk h0 n src k c h' where
 ti:=hs.extBut _ _ (by intro e;have e:(_:Nat)=(_:Nat):=e;omega) L.ti
 its:=fun j p hj=>(L.its j p hj).extBut hs.extBut (by have:=cY hj;intro e;have e:(_:Nat)=(_:Nat):=e;omega)
 ls:=fun j p hj=>⟨(L.ls j p hj).1,(L.ls j p hj).2.extBut hs.extBut (zzA (zzz (L.ls j p hj).1 (show n <= a by omega)))⟩
 kept:=fun b o hb e=>hs.extBut _ _ (by intro e;have e:(_:Nat)=(_:Nat):=e;omega) (L.kept b o hb e)
 sz:=hs.1.trans L.sz
theorem ZipLpM.next{p:Addr×Array Value}(L:ZipLpM tk h0 n src k c h)(hc:src[c]? = some p)(hit:IterX (tk p.1) h' (n+c) p.1 (k+1))(hs:Heap.SameBut (n+c) h h'):ZipLpM tk h0 n src k (c+1) h':=by
 have lt:=cY hc
 refine⟨hs.extBut _ _ (by intro e;have e:(_:Nat)=(_:Nat):=e;omega) L.ti,fun j q hj=>?_,fun j q hj=>⟨(L.ls j q hj).1,(L.ls j q hj).2.extBut hs.extBut (zzA (zzz (L.ls j q hj).1 (Nat.le_add_right n c)))⟩,fun b o hb e=>hs.extBut _ _ (by intro e;have e:(_:Nat)=(_:Nat):=e;omega) (L.kept b o hb e),hs.1.trans L.sz⟩
 by_cases z:j=c
 ·subst z
  rw[hc]at hj
  cases hj
  rw[if_pos (by omega)]
  exact hit
 ·have:=(L.its j q hj).extBut hs.extBut (by intro e;have e:(_:Nat)=(_:Nat):=e;omega)
  by_cases y:j<c
  ·rw[if_pos y]at this
   rw[if_pos (by omega)]
   exact this
  ·rw[if_neg y]at this
   rw[if_neg (by omega)]
   exact this
theorem KeptZ.stepM{a:Nat}(L:ZipLpM tk h0 n src k c h)(hs:Heap.ExtBut a h h')(ha:(n <= a/\a<n+src.length)∨a=n+src.length+1∨a=n+src.length+2):KeptZ n src.length h0 h' :=
 fun b o hb e=>hs _ _ (by intro e;have e:(_:Nat)=(_:Nat):=e;omega) (L.kept b o hb e)
end
section
variable{prog:Program}{w:World}{A:Around}{E:Value->Shared->Prop}{s:Shared}
set_option maxHeartbeats 1000000 in
theorem yi{n k:Nat}{src:List (Addr×Array Value)}{Q:Value->Shared->Prop}(hh:A.handled=none)(hsz:src.length <= sizeLine)(hs:ZipStM tk s.heap n src k)
  (hQ:∀vs h',Told src k src.length vs->ZipStM tk h' n src (k+1)->cU h' s.heap.objs.size vs.toArray->h'.objs.size=s.heap.objs.size+1->KeptZ n src.length s.heap h'->Q (.ref s.heap.objs.size) { s with heap:=h' })
  (hE:(∃(j:Nat) (p:Addr×Array Value),src[j]? = some p/\p.2[k]? = none)->∀h' e,KeptZ n src.length s.heap h'->(∃o,h'.get? e=some o/\o.cls=.type "StopIteration")->E (.ref e) { s with heap:=h' }) :
  wpAny (model prog w) A (Builtin.«zip.__next__» ⟨[.ref (n+src.length+2)],[]⟩) (fun fin s'=>∃v,fin=.done (.ret v)/\Q v s') E s:=by
 obtain⟨⟨f0,f1,hf,hz⟩,hTI,⟨ws,hws,hTO⟩,hit,hls,hne⟩:=hs
 show wpAny _ _ (field (.ref (n+src.length+2)) 2 >>= _) _ _ _
 refine wpAny_bind (wpAny_field hz rfl (x:=.bool false) rfl ?_)
 show wpAny _ _ (field (.ref (n+src.length+2)) 3 >>= _) _ _ _
 refine wpAny_bind (wpAny_field hz rfl (x:=.ref (n+src.length)) rfl ?_)
 refine wpAny_bind (wpAny_seqItems hTI rfl ?_)
 have hem:((itsL n src.length).toArray.isEmpty)=false:=by
  cases src with
  |nil=>exact absurd rfl hne
  |cons a l=>simp[itsL]
 simp only[hem,zyv,if_false]
 refine wpAny_bind (Ab hf hz ?_ fun h1 f1' hz1 hs1=>?_)
 ·simp only[if_true]
  refine wpAny_bind (wpAny_rule ?_)
  refine wpAny_bind (wpAny_field hz rfl (x:=.ref (n+src.length+1)) rfl ?_)
  refine wpAny_bind (wpAny_setField_rec hz (by simp) fun h₁ hz₁ hs₁=>?_)
  replace hz₁:dj h₁ (n+src.length+2) (n+src.length) (n+src.length+1) .ellipsis f1:=hz₁
  have L0:ZipLpM tk s.heap n src k 0 s.heap:=⟨hTI,hit,hls,fun _ _ _ e=>e,rfl⟩
  have L1:=L0.same hs₁ (.inr rfl)
  have hTO₁:cU h₁ (n+src.length+1) ws:=hs₁.extBut _ _ (by intro e;have e:(_:Nat)=(_:Nat):=e;omega) hTO
  refine wpAny_bind (wpAny_forIn_list _ (fun rest b s'=>∃c h ws vs,rest=((itsL n src.length).toArray.toList.zipIdx).drop c/\c <= src.length/\b=(none,())/\s'={ s with heap:=h }/\dj h (n+src.length+2) (n+src.length) (n+src.length+1) .ellipsis f1/\ZipLpM tk s.heap n src k c h/\Told src k c vs/\ws.size=src.length/\cU h (n+src.length+1) ws/\∀j,j<c->ws[j]? = vs[j]?) _ ?turn ?fin _ _ ⟨0,h₁,ws,[],rfl,zzG _,rfl,rfl,hz₁,L1,⟨rfl,fun j p hj=>absurd hj (zyf _)⟩,hws,hTO₁,fun j hj=>absurd hj (zyf _)⟩)
  case turn =>
   rintro x rest b s' ⟨c,h,ws,vs,hr,hc,rfl,rfl,hz,L,ht,hws,hTO,hw⟩
   obtain⟨hx,hr2⟩:=xP hr.symm
   have hc:c<src.length:=by
    have:=cY hx
    simpa using this
   rw[zyz,List.getElem?_zipIdx,xQ hc]at hx
   simp only[Option.map_some,Nat.zero_add,Option.some.injEq]at hx
   subst hx
   have hp:src[c]? = some src[c]:=by simp[hc]
   have hi:=L.its c _ hp
   rw[if_neg (zyi _)]at hi
   have hl:=(L.ls c _ hp).2
   refine wpAny_bind (wpAny_onRaise ?_)
   show wpAny _ _ (Builtin.SmallTypes.nextOf (.ref (n+c)) >>= _) _ _ _
   cases ev:(src[c]).2[k]? with
   |none =>
    refine wpAny_bind (ki hh hi hl ev fun h₂ e hs₂ he=>?_)
    obtain⟨oe,hoe,hce⟩:=he
    have hz₂:dj h₂ (n+src.length+2) (n+src.length) (n+src.length+1) .ellipsis f1:=hs₂ _ _ (by intro e;have e:(_:Nat)=(_:Nat):=e;omega) hz
    have hez:e≠n+src.length+2:=fun x=>by subst x;rw[hz₂]at hoe;cases hoe;simp at hce
    refine wpAny_setField_rec hz₂ (by simp) fun h₃ _ hs₃=>hE ⟨c,_,hp,ev⟩ h₃ e (fun b o hb x=>hs₃.extBut _ _ (by intro e;have e:(_:Nat)=(_:Nat):=e;omega) (KeptZ.stepM L hs₂ (.inl ⟨Nat.le_add_right _ _,by omega⟩) b o hb x)) ⟨oe,hs₃.extBut _ _ hez hoe,hce⟩
   |some v =>
    refine wpAny_bind (iK hi hl ev fun h₂ hi₂ hs₂=>wpAny_pure ?_)
    have hTO₂:cU h₂ (n+src.length+1) ws:=hs₂.extBut _ _ (by intro e;have e:(_:Nat)=(_:Nat):=e;omega) hTO
    have hz₂:dj h₂ (n+src.length+2) (n+src.length) (n+src.length+1) .ellipsis f1:=hs₂.extBut _ _ (by intro e;have e:(_:Nat)=(_:Nat):=e;omega) hz
    refine wpAny_bind (wpAny_seqItems hTO₂ rfl ?_)
    refine wpAny_bind (gF hTO₂ (by omega) fun h₃ hTO₃ hs₃=>?_)
    refine wpAny_bind (wpAny_letGo (wpAny_pure ?_))
    refine⟨c+1,h₃,_,vs++[v],hr2.symm,hc,rfl,rfl,hs₃.extBut _ _ (by intro e;have e:(_:Nat)=(_:Nat):=e;omega) hz₂,(L.next hp hi₂ hs₂).same hs₃ (.inl rfl),ht.push hp ev,by simp[hws],hTO₃,fun j hj=>?_⟩
    rw[Array.getElem?_setIfInBounds]
    by_cases z:c=j
    ·subst z
     rw[if_pos rfl,if_pos (by omega),zzF (by rw[ht.1];exact zzj _),ht.1]
     simp
    ·rw[if_neg z,hw j (by omega),zzE (by rw[ht.1];omega)]
  case fin =>
   rintro b s' ⟨c,h,ws,vs,hr,hc,rfl,rfl,hz,L,ht,hws,hTO,hw⟩
   have hc:c=src.length:=by
    have:=congrArg List.length hr
    simp at this
    omega
   subst hc
   refine wpAny_bind (wpAny_seqItems hTO rfl ?_)
   have ews:ws=vs.toArray:=by
    have:ws.toList=vs:=List.ext_getElem? fun j=>by
     rw[zyl]
     by_cases z:j<src.length
     ·exact hw j z
     ·rw[Array.getElem?_eq_none (by omega),zyK (by rw[ht.1];omega)]
    rw[←this]
   subst ews
   refine wpAny_bind (wpAny_newTuple ?_ (by simp[ht.1];exact hsz))
   show wpAny _ _ (Builtin.SmallTypes.ownedTupleHandOut (.ref (n+src.length+2)) (.ref h.objs.size) >>= _) _ _ _
   refine wpAny_bind ?_
   unfold Builtin.SmallTypes.ownedTupleHandOut
   have hzlt:n+src.length+2<h.objs.size:=zzq hz
   have hz₆:dj (h.push { cls:=.type "tuple",data:=.seq vs.toArray.toList.toArray }) (n+src.length+2) (n+src.length) (n+src.length+1) .ellipsis f1:=zzf _ hz
   refine wpAny_bind (wpAny_setField_rec hz₆ (by simp) fun h₇ hz₇ hs₇=>?_)
   replace hz₇:dj h₇ (n+src.length+2) (n+src.length) (n+src.length+1) (rawInt h.objs.size) f1:=hz₇
   refine wpAny_setField_rec hz₇ (by simp) fun h₈ hz₈ hs₈=>?_
   replace hz₈:dj h₈ (n+src.length+2) (n+src.length) (n+src.length+1) (rawInt h.objs.size) (.bool false):=hz₈
   have up:∀c o,c≠n+src.length+2->h.get? c=some o->h₈.get? c=some o:=fun c o c1 e=>hs₈.extBut _ _ c1 (hs₇.extBut _ _ c1 (zzf _ e))
   have hT₈:cU h₈ h.objs.size vs.toArray:=hs₈.extBut _ _ (zyA hzlt) (hs₇.extBut _ _ (zyA hzlt) (zzs _ rfl))
   have hz8:h₈.objs.size=h.objs.size+1:=by rw[hs₈.1,hs₇.1,zye]
   have esz:=L.sz
   rw[esz]at hT₈ hz8
   refine wpAny_pure ⟨_,rfl,?_⟩
   show Q (.ref h.objs.size) _
   rw[esz]
   refine hQ vs h₈ ht ⟨⟨_,_,.inr ⟨_,rfl⟩,hz₈⟩,up _ _ (by intro e;have e:(_:Nat)=(_:Nat):=e;omega) L.ti,⟨_,hws,up _ _ (by intro e;have e:(_:Nat)=(_:Nat):=e;omega) hTO⟩,fun j p hj=>?_,fun j p hj=>⟨(L.ls j p hj).1,(L.ls j p hj).2.at fun o e=>up _ o (zzA (zzz (L.ls j p hj).1 (show n <= n+src.length+2 by omega))) e⟩,hne⟩ hT₈ hz8 fun b o hb e=>up b o (by intro e;have e:(_:Nat)=(_:Nat):=e;omega) (L.kept b o hb e)
   have:=cY hj
   have h1:=(L.its j p hj).at fun o e=>up _ o (by intro e;have e:(_:Nat)=(_:Nat):=e;omega) e
   rw[if_pos this]at h1
   rw[if_neg (zyf _)]
   exact h1
 ·simp only[zyv,if_false]
  have L0:ZipLpM tk s.heap n src k 0 s.heap:=⟨hTI,hit,hls,fun _ _ _ e=>e,rfl⟩
  have L1:=L0.same hs1 (.inr rfl)
  have hTO₁:cU h1 (n+src.length+1) ws:=hs1.extBut _ _ (by intro e;have e:(_:Nat)=(_:Nat):=e;omega) hTO
  refine wpAny_bind (wpAny_forIn_array' _ (fun rest b s'=>∃c h vs,rest=((itsL n src.length).toArray.toList).drop c/\c <= src.length/\b=(none,vs.toArray)/\s'={ s with heap:=h }/\dj h (n+src.length+2) (n+src.length) (n+src.length+1) f0 f1'/\ZipLpM tk s.heap n src k c h/\Told src k c vs/\cU h (n+src.length+1) ws) _ ?turn2 ?fin2 _ _ ⟨0,h1,[],rfl,zzG _,rfl,rfl,hz1,L1,⟨rfl,fun j p hj=>absurd hj (zyf _)⟩,hTO₁⟩)
  case turn2 =>
   rintro x rest b s' ⟨c,h,vs,hr,hc,rfl,rfl,hz,L,ht,hTO⟩
   obtain⟨hx,hr2⟩:=xP hr.symm
   have hc:c<src.length:=by
    have:=cY hx
    simpa using this
   rw[zyz,xQ hc]at hx
   cases hx
   have hp:src[c]? = some src[c]:=by simp[hc]
   have hi:=L.its c _ hp
   rw[if_neg (zyi _)]at hi
   have hl:=(L.ls c _ hp).2
   refine wpAny_bind (wpAny_holding ?_)
   show wpAny _ _ (Builtin.SmallTypes.nextOf (.ref (n+c)) >>= _) _ _ _
   cases ev:(src[c]).2[k]? with
   |none =>
    refine wpAny_bind (ki hh hi hl ev fun h₂ e hs₂ he=>?_)
    exact hE ⟨c,_,hp,ev⟩ h₂ e (KeptZ.stepM L hs₂ (.inl ⟨Nat.le_add_right _ _,by omega⟩)) he
   |some v =>
    refine wpAny_bind (iK hi hl ev fun h₂ hi₂ hs₂=>wpAny_pure ?_)
    refine wpAny_pure ⟨c+1,h₂,vs++[v],hr2.symm,hc,by simp,rfl,hs₂.extBut _ _ (by intro e;have e:(_:Nat)=(_:Nat):=e;omega) hz,L.next hp hi₂ hs₂,ht.push hp ev,hs₂.extBut _ _ (by intro e;have e:(_:Nat)=(_:Nat):=e;omega) hTO⟩
  case fin2 =>
   rintro b s' ⟨c,h,vs,hr,hc,rfl,rfl,hz,L,ht,hTO⟩
   have hc:c=src.length:=by
    have:=congrArg List.length hr
    simp at this
    omega
   subst hc
   refine wpAny_bind (wpAny_newTuple ?_ (by simp[ht.1];exact hsz))
   have hT₈:cU (h.push { cls:=.type "tuple",data:=.seq vs.toArray.toList.toArray }) h.objs.size vs.toArray:=zzs _ rfl
   have up:∀c o,h.get? c=some o->(h.push { cls:=.type "tuple",data:=.seq vs.toArray.toList.toArray }).get? c=some o:=fun c o e=>zzf _ e
   have hz8:(h.push { cls:=.type "tuple",data:=.seq vs.toArray.toList.toArray }).objs.size=h.objs.size+1:=zye ..
   have esz:=L.sz
   rw[esz]at hT₈ hz8
   refine wpAny_pure ⟨_,rfl,?_⟩
   show Q (.ref h.objs.size) _
   rw[esz]
   refine hQ vs _ ht ⟨⟨_,_,hf,up _ _ hz⟩,up _ _ L.ti,⟨_,hws,up _ _ hTO⟩,fun j p hj=>?_,fun j p hj=>⟨(L.ls j p hj).1,(L.ls j p hj).2.at fun o e=>up _ o e⟩,hne⟩ hT₈ hz8 fun b o hb e=>up b o (L.kept b o hb e)
   have:=cY hj
   have h1:=(L.its j p hj).at fun o e=>up _ o e
   rw[if_pos this]at h1
   rw[if_neg (zyf _)]
   exact h1
end
theorem bN{prog:Program}{w:World}{A:Around}{E:Value->Shared->Prop}{s:Shared}{n k:Nat}{src:List (Addr×Array Value)}{Q:Option Value->Shared->Prop}(hh:A.handled=none)(hsz:src.length <= sizeLine)(hs:ZipStM tk s.heap n src k)
  (hQ:∀vs h',Told src k src.length vs->ZipStM tk h' n src (k+1)->cU h' s.heap.objs.size vs.toArray->h'.objs.size=s.heap.objs.size+1->KeptZ n src.length s.heap h'->Q (some (.ref s.heap.objs.size)) { s with heap:=h' })
  (hE:(∃(j:Nat) (p:Addr×Array Value),src[j]? = some p/\p.2[k]? = none)->∀h',KeptZ n src.length s.heap h'->Q none { s with heap:=h' }) :
  wpAny (model prog w) A (pyNext (.ref (n+src.length+2))) Q E s:=by
 obtain⟨f0,f1,_,hz⟩:=hs.zip
 have hT:s.TypeIs (.ref (n+src.length+2)) "zip":=⟨_,hz,rfl⟩
 unfold pyNext
 refine wpAny_bind (wpAny_attempt (wpAny_callSpecial?_slot (name:=Str.ofString "__next__") hT F.slot_zip_next
  (wpAny_call_entry F.slot_zip_next hT F.entry_zip_next (yi hh hsz hs (fun vs h' a1 a2 a3 a4 a5=>wpAny_pure (hQ vs h' a1 a2 a3 a4 a5)) fun a h' e hk he=>?_) (F.args_zip_next_1 _))))
 obtain⟨o,ho,hc⟩:=he
 refine wpAny_bind (wpAny_isInstance (T:="StopIteration") (b:=true) ⟨o,ho,hc⟩ isSubtype_stop ?_)
 exact wpAny_pure (hE a _ hk)
def Al(tk:Addr->Bool)(s:Shared)(src:List (Addr×Array Value))(Q:Value->Shared->Prop):Prop :=
 ∀h',ZipStM tk h' s.heap.objs.size src 0->h'.objs.size=s.heap.objs.size+src.length+3->(∀c o,s.heap.get? c=some o->h'.get? c=some o)->Q (.ref (s.heap.objs.size+src.length+2)) { s with heap:=h' }
def SqX(tk:Addr->Bool)(K:PySem.W.Frag)(H:Hp)(a:Addr)(xs:List V):Prop:=if tk a=true then SqT K H a xs else SqL K H a xs
theorem SqX.inj{X:Cx}{pins:List (Addr×Obj)}{σ:St}{H:Hp}{s:Shared}(I:Inv X pins σ H s){a:Addr}{xs ys:List V}(h1:SqX tk X.K H a xs)(h2:SqX tk X.K H a ys):xs=ys:=by
 unfold SqX at h1 h2
 cases e:tk a with
 |true=>rw[if_pos e]at h1 h2;exact I.tuple_inj h1 h2
 |false=>rw[if_neg (by rw[e];intro z;cases z)]at h1 h2;exact I.list_inj h1 h2
theorem SqX.at{X:Cx}{pins:List (Addr×Obj)}{σ:St}{H:Hp}{s:Shared}(I:Inv X pins σ H s){a:Addr}{xs:List V}(h:SqX tk X.K H a xs):∃its:List Value,Vals xs its/\SeqX (tk a) s.heap a its.toArray/\xs.length <= sizeLine:=by
 unfold SqX at h
 cases e:tk a with
 |true =>
  rw[if_pos e]at h
  obtain⟨its,rv,p,hz⟩:=I.tuple h
  exact⟨its,rv,p,hz⟩
 |false =>
  rw[if_neg (by rw[e];intro z;cases z)]at h
  obtain⟨its,rv,p,hz⟩:=I.list h
  exact⟨its,rv,p.isList,hz⟩
theorem oV{X:Cx}{K:PySem.W.Frag}{pins:List (Addr×Obj)}{σ:St}{H:Hp}{s:Shared}(hK:X.K=K)(I:Inv X pins σ H s):∀{as:List Addr}{xss:List (List V)},as.length=xss.length->(∀(j:Nat) a xs,as[j]? = some a->xss[j]? = some xs->SqX tk K H a xs) ->
  ∃src:List (Addr×Array Value),src.map (·.1)=as/\SrcV xss src/\(∀p∈src,SeqX (tk p.1) s.heap p.1 p.2)/\∀xs∈xss,xs.length <= sizeLine
 |[],xss,hl,_=>by
  have h0:xss=[]:=zzN.mp (by rw[←hl];rfl)
  subst h0
  exact⟨[],rfl,⟨rfl,fun j xs p h=>by simp at h⟩,fun p hp=>by simp at hp,fun xs hx=>by simp at hx⟩
 |a::as,[],hl,_=>absurd hl (by simp)
 |a::as,xs::xss,hl,h=>by
  subst hK
  obtain⟨src,h1,h2,h3,h4⟩:=oV rfl I (as:=as) (xss:=xss) (by simpa using hl) fun j a xs ha hx=>h (j+1) a xs (by simpa using ha) (by simpa using hx)
  obtain⟨its,rv,pl,hz⟩:=(h 0 a xs rfl rfl).at I
  refine⟨(a,its.toArray)::src,by simp[h1],⟨by simp[h2.1],fun j ys p hy hp=>?_⟩,fun p hp=>?_,fun ys hy=>?_⟩
  ·cases j with
   |zero=>simp at hy hp;subst hy hp;simpa using rv
   |succ j=>exact h2.2 j ys p (by simpa using hy) (by simpa using hp)
  ·rcases zzi.mp hp with rfl|hp
   ·exact pl
   ·exact h3 p hp
  ·rcases zzi.mp hy with rfl|hy
   ·exact hz
   ·exact h4 ys hy
abbrev itO(t:Bool)(l:Addr):Obj:={ cls:=.type (match t with|true=>"tuple_iterator" |false=>"list_iterator"),data:=.fields #[.ref l,.int 0 0] }
abbrev m2H(t u:Bool)(h:Heap)(l1 l2:Addr):Heap:=(h.push (itO t l1)).push (itO u l2)
abbrev m2T(t u:Bool)(h:Heap)(l1 l2:Addr):Heap:=(m2H t u h l1 l2).push (tuO [.ref h.objs.size,.ref (h.push (itO t l1)).objs.size])
abbrev m2U(t u:Bool)(h:Heap)(l1 l2:Addr):Heap:=(m2T t u h l1 l2).push (tuO [.none,.none])
abbrev m2Z(t u:Bool)(h:Heap)(l1 l2:Addr):Heap:=(m2U t u h l1 l2).push (ziO (m2H t u h l1 l2).objs.size (m2T t u h l1 l2).objs.size)
theorem SeqX.push{t:Bool}{h:Heap}{a:Addr}{xs:Array Value}(x:SeqX t h a xs)(o:Obj):SeqX t (h.push o) a xs:=x.at fun o e=>zzf _ e
theorem BB{prog:Program}{w:World}{A:Around}{E:Value->Shared->Prop}{s:Shared}{t:Bool}{l:Addr}{xs:Array Value}{Q:Value->Shared->Prop}(h:SeqX t s.heap l xs)(q:Q (.ref s.heap.objs.size) { s with heap:=s.heap.push (itO t l) }):wpAny (model prog w) A (pyIter (.ref l)) Q E s:=by
 cases t with
 |true=>exact wpAny_pyIter_tuple h q
 |false=>exact wpAny_pyIter_list h q
set_option maxHeartbeats 0 in
theorem nr(t u:Bool)(l1 l2:Addr)(xs ys:Array Value) :
  Meets (Builtin.«zip.__new__» ⟨[.type "zip",.ref l1,.ref l2],[]⟩) (fun _ R s=>SeqX t s.heap l1 xs/\SeqX u s.heap l2 ys /\
   R (.ok (.ret (.ref (m2U t u s.heap l1 l2).objs.size))) { s with heap:=m2Z t u s.heap l1 l2 }) :=
 .of_wp fun prog w A R s h=>by
  obtain⟨hp,g,d,tok,os⟩:=s;obtain⟨hl1,hl2,h⟩:=h
  have hsub:=sub_zip
  have hL1:SeqX t (Shared.heap ⟨hp,g,d,tok,os⟩) l1 xs:=hl1
  have hL2:SeqX u (Shared.heap ⟨hp.push (itO t l1),g,d,tok,os⟩) l2 ys:=hl2.push _
  wp_walk using BB hL1,BB hL2
  exact⟨_,rfl,h⟩
section
variable{prog:Program}{w:World}{A:Around}{E:Value->Shared->Prop}{s:Shared}
theorem IterX.new{t:Bool}{h:Heap}{i a:Addr}(e:h.get? i=some (itO t a)):IterX t h i a 0:=by
 cases t with
 |true=>exact⟨_,e,rfl,rfl⟩
 |false=>exact⟨_,e,rfl,rfl⟩
theorem qX{p1 p2:Addr×Array Value}{Q:Value->Shared->Prop}(h1:SeqX (tk p1.1) s.heap p1.1 p1.2)(h2:SeqX (tk p2.1) s.heap p2.1 p2.2)(h:Al tk s [p1,p2] Q) :
  wpAny (model prog w) A (call (.type "zip") [.ref p1.1,.ref p2.1]) Q E s:=by
 refine callType_new F.called_zip (by decide) (F.typeCall_zip_2 _ _) (F.newCall_zip_2 _ _) (fun obj=>F.args_object_init_3 obj _ _) F.entry_zip_new (nr (tk p1.1) (tk p2.1) p1.1 p2.1 p1.2 p2.2) ⟨h1,h2,?_⟩
 have z1:(s.heap.push (itO (tk p1.1) p1.1)).objs.size=s.heap.objs.size+1:=zye ..
 have z2:(m2H (tk p1.1) (tk p2.1) s.heap p1.1 p2.1).objs.size=s.heap.objs.size+2:=by rw[zye,z1]
 have z3:(m2T (tk p1.1) (tk p2.1) s.heap p1.1 p2.1).objs.size=s.heap.objs.size+3:=by rw[zye,z2]
 have z4:(m2U (tk p1.1) (tk p2.1) s.heap p1.1 p2.1).objs.size=s.heap.objs.size+4:=by rw[zye,z3]
 have z5:(m2Z (tk p1.1) (tk p2.1) s.heap p1.1 p2.1).objs.size=s.heap.objs.size+5:=by rw[zye,z4]
 have up:∀c o,(m2H (tk p1.1) (tk p2.1) s.heap p1.1 p2.1).get? c=some o->(m2Z (tk p1.1) (tk p2.1) s.heap p1.1 p2.1).get? c=some o:=fun c o e=>zzf _ (zzf _ (zzf _ e))
 have g5:(m2Z (tk p1.1) (tk p2.1) s.heap p1.1 p2.1).get? (m2U (tk p1.1) (tk p2.1) s.heap p1.1 p2.1).objs.size=some _:=zzs _ rfl
 have g4:(m2Z (tk p1.1) (tk p2.1) s.heap p1.1 p2.1).get? (m2T (tk p1.1) (tk p2.1) s.heap p1.1 p2.1).objs.size=some _:=zzf _ (zzs _ rfl)
 have g3:(m2Z (tk p1.1) (tk p2.1) s.heap p1.1 p2.1).get? (m2H (tk p1.1) (tk p2.1) s.heap p1.1 p2.1).objs.size=some _:=zzf _ (zzf _ (zzs _ rfl))
 have g2:(m2Z (tk p1.1) (tk p2.1) s.heap p1.1 p2.1).get? (s.heap.push (itO (tk p1.1) p1.1)).objs.size=some (itO (tk p2.1) p2.1):=up _ _ (zzs _ rfl)
 have g1:(m2Z (tk p1.1) (tk p2.1) s.heap p1.1 p2.1).get? s.heap.objs.size=some (itO (tk p1.1) p1.1):=up _ _ (zzf _ (zzs _ rfl))
 have kp:∀c o,s.heap.get? c=some o->(m2Z (tk p1.1) (tk p2.1) s.heap p1.1 p2.1).get? c=some o:=fun c o x=>up _ _ (zzf _ (zzf _ x))
 show _/\_
 rw[z2,z3,z4]at g5
 rw[z1,z2]at g3
 rw[z3]at g4
 rw[z1]at g2
 rw[z4]
 refine⟨⟨_,g5,rfl⟩,h _ ⟨⟨_,_,.inl rfl,g5⟩,g3,⟨_,rfl,g4⟩,fun j p hj=>?_,fun j p hj=>?_,by simp⟩ z5 kp⟩
 ·rw[if_neg (zyf _)]
  rcases j with _|_|j
  ·simp at hj;subst hj;exact .new g1
  ·simp at hj;subst hj;exact .new g2
  ·simp at hj
 ·rcases j with _|_|j
  ·simp at hj;subst hj;exact⟨h1.lt,h1.at fun o e=>kp _ o e⟩
  ·simp at hj;subst hj;exact⟨h2.lt,h2.at fun o e=>kp _ o e⟩
  ·simp at hj
end
def ItzM(tk:Addr->Bool)(K:PySem.W.Frag)(as:List Addr):It :=
 ⟨fun i H=>∀a∈as,∃xs x,SqX tk K H a xs/\xs[i]? = some x,
  fun i H v H'=>∃T r,H T=none/\v=.ref T/\(r.length=as.length/\∀(j:Nat) a xs,as[j]? = some a->SqX tk K H a xs->xs[i]? = r[j]?)/\H'=upd H T (.tup r),
  fun i H=>(∀a∈as,∃xs,SqX tk K H a xs)/\∃a∈as,∃xs,SqX tk K H a xs/\xs.length <= i⟩
structure ZipTnM(tk:Addr->Bool)(n:Nat)(as:List Addr)(k:Nat)(h:Heap):Prop where
 zip:∃f0 f1,OwnF f0/\dj h (n+as.length+2) (n+as.length) (n+as.length+1) f0 f1
 ti:cU h (n+as.length) (itsL n as.length).toArray
 to:∃ws:Array Value,ws.size=as.length/\cU h (n+as.length+1) ws
 its:∀(j:Nat) (a:Addr),as[j]? = some a->IterX (tk a) h (n+j) a k
theorem sW{K:PySem.W.Frag}{H:Hp}:∀{as:List Addr},(∀a∈as,∃xs,SqX tk K H a xs)->∃xss:List (List V),as.length=xss.length/\∀(j:Nat) a xs,as[j]? = some a->xss[j]? = some xs->SqX tk K H a xs
 |[],_=>⟨[],rfl,fun j a xs h=>by simp at h⟩
 |a::as,h=>by
  obtain⟨xs,hx⟩:=h a zzd
  obtain⟨xss,h1,h2⟩:=sW fun b hb=>h b (zzc _ hb)
  refine⟨xs::xss,by simp[h1],fun j b ys hb hy=>?_⟩
  cases j with
  |zero=>simp at hb hy;subst hb hy;exact hx
  |succ j=>exact h2 j b ys (by simpa using hb) (by simpa using hy)
theorem ZipTnM.st{n k:Nat}{as:List Addr}{h:Heap}{src:List (Addr×Array Value)}(t:ZipTnM tk n as k h)(hs:src.map (·.1)=as)(hl:∀p∈src,SeqX (tk p.1) h p.1 p.2)(hlt:∀a∈as,a<n)(hne:as≠[]):ZipStM tk h n src k:=by
 have hlen:src.length=as.length:=by rw[←hs,zza]
 obtain⟨z,ti,to,its⟩:=t
 have at_:∀(j:Nat) (p:Addr×Array Value),src[j]? = some p->as[j]? = some p.1:=fun j p hp=>by rw[←hs,zzn,hp];rfl
 refine⟨by rw[hlen];exact z,by rw[hlen];exact ti,by rw[hlen];exact to,fun j p hp=>?_,fun j p hp=>⟨hlt p.1 (zzH (at_ j p hp)),hl p (zzH hp)⟩,fun e=>hne (by rw[←hs,e];rfl)⟩
 rw[if_neg (zyf _)]
 exact its j p.1 (at_ j p hp)
theorem ZipStM.tn{n k:Nat}{as:List Addr}{h:Heap}{src:List (Addr×Array Value)}(z:ZipStM tk h n src k)(hs:src.map (·.1)=as):ZipTnM tk n as k h:=by
 have hlen:src.length=as.length:=by rw[←hs,zza]
 refine⟨by rw[←hlen];exact z.zip,by rw[←hlen];exact z.ti,by rw[←hlen];exact z.to,fun j a ha=>?_⟩
 have hj:j<src.length:=by rw[hlen];exact cY ha
 have hp:src[j]? = some src[j]:=by simp[hj]
 have:=z.its j _ hp
 rw[if_neg (zyf _)]at this
 have e:(src[j]).1=a:=by
  have:as[j]? = some (src[j]).1:=by rw[←hs,zzn,hp];rfl
  rw[ha]at this
  exact(zyj this).symm
 rw[←e]
 exact this
theorem yj{P:Program}{w:World}{K:PySem.W.Frag}{elts:List Expr}{k:Nat}{tp:Pos}(n:Nat)(as:List Addr)(hlt:∀a∈as,a<n)(h1:as≠[])(hm4:as.length <= 4) :
  Turn P w K (.Tuple elts k tp) (ItzM tk K as) (fpZ n as.length) (n+as.length+2) (fun i h=>ZipTnM tk n as i h) where
 mem:=fpZ_mem.mpr ⟨by omega,by omega⟩
 obj:=fun i h st c hc=>by
  obtain⟨⟨f0,f1,_,hz⟩,hTI,⟨ws,_,hTO⟩,its⟩:=st
  rcases xW hc with rfl|rfl|rfl|⟨lt,e⟩
  ·exact⟨_,hz,fun v z=>by have z':Data.fields _=Data.cell v:=z;cases z'⟩
  ·exact⟨_,hTI,fun v z=>by have z':Data.seq _ _=Data.cell v:=z;cases z'⟩
  ·exact⟨_,hTO,fun v z=>by have z':Data.seq _ _=Data.cell v:=z;cases z'⟩
  ·obtain⟨o,eo,d⟩:=(its (c - n) as[c - n] (by simp[lt])).cell
   rw[e]at eo
   exact⟨o,eo,d⟩
 keep:=fun i h h' st kk=>by
  obtain⟨⟨f0,f1,hf,hz⟩,hTI,⟨ws,hws,hTO⟩,its⟩:=st
  exact⟨⟨f0,f1,hf,kk _ (fpZ_mem.mpr ⟨by omega,by omega⟩) _ hz⟩,kk _ (fpZ_mem.mpr ⟨by omega,by omega⟩) _ hTI,⟨ws,hws,kk _ (fpZ_mem.mpr ⟨by omega,by omega⟩) _ hTO⟩,fun j a ha=>(its j a ha).at fun o e=>kk _ (fpZ_mem.mpr ⟨by omega,by have:=cY ha;omega⟩) o e⟩
 item:=by
  intro X hP hw hK hc i pins s σ H E I hf st hg
  subst hP hw hK
  obtain⟨xss,hl,hsq⟩:=sW (tk:=tk) (K:=X.K) (H:=H) (as:=as) fun a ha=>let ⟨xs,x,h,_⟩:=hg a ha;⟨xs,h⟩
  obtain⟨src,hsa,hv,hls,hb⟩:=oV (tk:=tk) rfl I hl hsq
  have hls4:src.length=as.length:=by rw[←hsa,zza]
  have hst:=st.st hsa hls hlt h1
  have sz4:src.length <= sizeLine:=zzk (show src.length <= 4 by omega) (by decide)
  rw[show n+as.length+2=n+src.length+2 by rw[hls4]]
  refine bN (I.ok.hd hc) sz4 hst (fun vs h' ht hz' hT' hs' hk=>?_) (fun he h' hk=>?_)
  ·obtain⟨r,hr,rv⟩:=kM hv ht
   obtain⟨f0,f1,hf0,hzz⟩:=hz'.zip
   refine⟨_,rfl,CY hf0 hzz fun h4 f0' hf0' hz4 hs4=>?_⟩
   have hzl:n+src.length+2<s.heap.objs.size:=by
    obtain⟨_,_,_,q⟩:=st.zip
    rw[hls4]
    exact zzq q
   have hz4st:ZipTnM tk n as (i+1) h4:=by
    have z0:=hz'.tn hsa
    obtain⟨_,hTI,⟨ws,hws,hTO⟩,its⟩:=z0
    rw[hls4]at hz4 hs4
    refine⟨⟨f0',f1,hf0',hz4⟩,hs4.extBut _ _ (by intro e;have e:(_:Nat)=(_:Nat):=e;omega) hTI,⟨ws,hws,hs4.extBut _ _ (by intro e;have e:(_:Nat)=(_:Nat):=e;omega) hTO⟩,fun j a ha=>(its j a ha).extBut hs4.extBut (by have:=cY ha;intro e;have e:(_:Nat)=(_:Nat):=e;omega)⟩
   have I2:Inv X pins σ (upd H s.heap.objs.size (.tup r)) { s with heap:=h4 }:=by
    refine I.turnedN (t':=s.toks) (ch:=fpZ n as.length) hf (fun b o hb q=>?_) (zzj _) ⟨?_,vs,rv,?_⟩
    ·rw[←hls4]at hb
     exact hs4.extBut _ _ (FF hb) (hk b o (kN (sS hb)) q)
    ·exact⟨by rw[hr.1,←hl];exact zzk hm4 (by decide),.inl ⟨_,hs4.extBut _ _ (by intro e;have e:(_:Nat)=(_:Nat):=e;omega) hT',rfl⟩⟩
    ·exact⟨_,hs4.extBut _ _ (by intro e;have e:(_:Nat)=(_:Nat):=e;omega) hT',rfl,_,rfl⟩
   refine⟨.ref s.heap.objs.size,_,I2,rfl,⟨s.heap.objs.size,r,I.hok.fresh (zzj _),rfl,⟨by rw[hr.1,hl],fun j a xs ha hx=>?_⟩,rfl⟩,hz4st,fun b hb=>?_⟩
   ·have hj:j<xss.length:=by rw[←hl];exact cY ha
    have hxs:xss[j]? = some xss[j]:=by simp[hj]
    have:=hsq j a xss[j] ha hxs
    rw[SqX.inj I hx this]
    exact hr.2 j _ hxs
   ·have:=fpZ_mem.mp hb
    rw[aq (by intro e;have e:(_:Nat)=(_:Nat):=e;omega)]
    exact(hf b hb).1
  ·exfalso
   obtain⟨j,p,hj,hp⟩:=he
   have ha:as[j]? = some p.1:=by rw[←hsa,zzn,hj];rfl
   obtain⟨xs,x,h,hx⟩:=hg p.1 (zzH ha)
   have hjx:j<xss.length:=by rw[←hl];exact cY ha
   have hxs:xss[j]? = some xss[j]:=by simp[hjx]
   rw[SqX.inj I h (hsq j p.1 _ ha hxs)]at hx
   obtain⟨u,hu,_⟩:=(hv.2 j _ p hxs hj).get hx
   rw[zyl,hp]at hu
   cases hu
 done:=by
  intro X hP hw hK hc i pins s σ H E I hf st hg
  subst hP hw hK
  obtain⟨hall,a0,ha0,xs0,hx0,hle⟩:=hg
  obtain⟨xss,hl,hsq⟩:=sW (tk:=tk) (K:=X.K) (H:=H) (as:=as) hall
  obtain⟨src,hsa,hv,hls,hb⟩:=oV (tk:=tk) rfl I hl hsq
  have hls4:src.length=as.length:=by rw[←hsa,zza]
  have hst:=st.st hsa hls hlt h1
  have sz4:src.length <= sizeLine:=zzk (show src.length <= 4 by omega) (by decide)
  rw[show n+as.length+2=n+src.length+2 by rw[hls4]]
  refine bN (I.ok.hd hc) sz4 hst (fun vs h' ht hz' hT' hs' hk=>?_) (fun he h' hk=>⟨rfl,?_⟩)
  ·exfalso
   obtain⟨r,hr,rv⟩:=kM hv ht
   obtain⟨j,hj⟩:=List.mem_iff_getElem?.mp ha0
   have hjx:j<xss.length:=by rw[←hl];exact cY hj
   have hxs:xss[j]? = some xss[j]:=by simp[hjx]
   have e:=SqX.inj I hx0 (hsq j a0 _ hj hxs)
   have:=hr.2 j _ hxs
   rw[←e,zyK hle,zzm (by rw[hr.1];exact hjx)]at this
   cases this
  ·refine I.turnedL (t':=s.toks) (ch:=fpZ n as.length) hf fun b o hb q=>hk b o ?_ q
   rw[←hls4]at hb
   exact kN (sS hb)
 self:=fun A i s Q E st h=>by
  obtain⟨f0,f1,_,hz⟩:=st.zip
  have hT:s.TypeIs (.ref (n+as.length+2)) "zip":=⟨_,hz,rfl⟩
  refine wpAny_pyIter_slot hT F.slot_zip_iter (wpAny_call_entry F.slot_zip_iter hT F.entry_zip_iter ?_ (F.args_zip_iter_1 _))
  show wpAny _ _ (ret (.ref (n+as.length+2))) _ _ s
  exact wpAny_pure ⟨_,rfl,"zip",_,hT,F.slot_zip_next.lookup,h⟩
end
section
variable{X:Cx}
def Hx(K:PySem.W.Frag)(ta:TA):TI:=fun σ H R=>ta σ H fun vs H1=>∃(tk:Addr->Bool) (a b:Addr),vs=[.ref a,.ref b]/\(∃xs,SqX tk K H1 a xs)/\(∃xs,SqX tk K H1 b xs)/\R (ItzM tk K [a,b]) H1
theorem Dj{l l':Expr}{ta:TA}{p pos tp:Pos}{elts:List Expr}{k:Nat}(hg:Gl X "zip")(hm:X.mg "zip" = none)(ha:PA X [l,l'] ta)(he:starEach [l,l'] X.env=(false,eval l X.env)::starEach [l'] X.env:=by rfl)(hpl:(backTo pos (starEach [l'] X.env)).any (·.1)=false:=by rfl) :
  PI X (.Tuple elts k tp) (.Call (.Name "zip" p) [l,l'] [] pos) (Hx X.K ta):=by
 intro pins s σ H R I h
 refine Call_ (gw I hg hm uB (PyProof.Rows.callWith_type1 (thn (ha pos pins s σ H _ I h) fun us s1 ⟨vs,H1,I1,r1,q1⟩=>?_) he hpl))
 obtain⟨tk,a,b,e,⟨xs,hq⟩,⟨ys,hq'⟩,q⟩:=q1
 subst e
 obtain⟨u,u',rfl,ru,ru'⟩:=r1.two
 cases ru
 cases ru'
 obtain⟨its,rv,pl,hz⟩:=hq.at I1
 obtain⟨its',rv',pl',hz'⟩:=hq'.at I1
 refine qX (tk:=tk) (p1:=(a,its.toArray)) (p2:=(b,its'.toArray)) pl pl' fun h' hz hz' hk=>?_
 have I2:Inv X pins σ H1 { s1 with heap:=h' }:=I1.kept (t':=s1.toks) hk
 have hlt:∀c∈[a,b],c<s1.heap.objs.size:=fun c hc=>by
  simp only[zzi,zzR,or_false]at hc
  rcases hc with rfl|rfl
  ·exact pl.lt
  ·exact pl'.lt
 have tz:=yj (tk:=tk) (P:=X.prog) (w:=X.w) (K:=X.K) (elts:=elts) (k:=k) (tp:=tp) s1.heap.objs.size [a,b] hlt (by simp) (by simp)
 have tn:=hz.tn (as:=[a,b]) rfl
 exact tz.self X.A 0 _ _ _ tn ⟨_,_,_,ItzM tk X.K [a,b],H1,rfl,I2,tz,tn,fun b hb=>I1.fpOk (fpZ_mem.mp hb).1 (I1.hok.fresh (fpZ_mem.mp hb).1),q⟩
end
end L2
namespace DL
open PySem PySem.Spec PyProof.Rows L2
variable[TB]
variable[Frm]
def seqD:D->Option (List D)
 |.lst xs=>some xs
 |.tup xs=>some xs
 |_=>none
omit [Frm] in
theorem BC{K:PySem.W.Frag}{pp:Option Addr}{M:List Addr}{H:Hp}{d:D}{v:V}{ds:List D}(r:Rep K pp M H d v)(e:seqD d=some ds) :
  ∃a xs,v=.ref a/\Reps K pp M H ds xs/\∀M2 H2,Mv K pp M H M2 H2->SqX (fun c=>L2.isTupO (H c)) K H2 a xs:=by
 cases d<;>simp only[seqD]at e<;>cases e
 all_goals simp only[Rep]at r
 ·obtain⟨a,xs,rfl,ha,rd⟩:=r
  refine⟨a,xs,rfl,rd,fun M2 H2 m2=>?_⟩
  unfold SqX
  rw[if_pos (show L2.isTupO (H a)=true by rw[ha];rfl)]
  exact SqT.of (m2.tup a xs ha)
 ·obtain⟨a,xs,rfl,hm,hp,ha,rd⟩:=r
  refine⟨a,xs,rfl,rd,fun M2 H2 m2=>?_⟩
  unfold SqX
  rw[if_neg (show ¬L2.isTupO (H a)=true by rw[ha];intro z;cases z)]
  exact SqL.of (m2.lst a xs ha hm hp).1
section
variable{X:Cx}
abbrev FP(t:DA):DA:=fun ρ Q=>t ρ fun ds ρ'=>match ds with
 |[a,b]=>∃xs ys,seqD a=some xs/\seqD b=some ys/\Q (zipD xs ys) ρ'
 |_=>False
theorem yk{l l':Expr}{tl:DA}{p pos tp:Pos}{elts:List Expr}{k:Nat}(hg:Gl X "zip")(hm:X.mg "zip" = none)(ha:PAD X [l,l'] tl)(he:starEach [l,l'] X.env=(false,eval l X.env)::starEach [l'] X.env:=by rfl)(hpl:(backTo pos (starEach [l'] X.env)).any (·.1)=false:=by rfl) :
  PID X (.Tuple elts k tp) (.Call (.Name "zip" p) [l,l'] [] pos) (FP tl):=by
 obtain⟨T,pa,r⟩:=ha.run
 refine⟨fun _ _ _ f h=>ha.mono _ _ _ (fun d _ h=>?_) h,_,Dj hg hm pa he hpl,fun {F} M H σ ρ R rs h=>r M H σ ρ _ rs (ha.mono _ _ _ (fun d ρ' h M' H' v m rs' rd=>?_) h)⟩
 ·split at h
  ·obtain⟨xs,ys,a,b,h⟩:=h
   exact⟨xs,ys,a,b,f _ _ h⟩
  ·exact h.elim
 ·split at h
  case h_2=>exact h.elim
  rename_i d1 d2
  obtain⟨ds,ds',e1,e2,h⟩:=h
  simp only[Reps]at rd
  obtain⟨x,r0,rfl,hx,x',r0',rfl,hx',rfl⟩:=rd
  obtain⟨a,xs,rfl,rd,ka⟩:=BC hx e1
  obtain⟨b,ys,rfl,rd',kb⟩:=BC hx' e2
  have L:=eM ds ds'
  refine⟨fun c=>L2.isTupO (H' c),a,b,rfl,⟨xs,ka _ _ .refl⟩,⟨ys,kb _ _ .refl⟩,h M' H' _ m rs' ⟨fun M2 H2 m2 i d y H3 e yl=>?_,fun M2 H2 m2 i hi=>?_,fun M2 H2 m2 i hi=>?_⟩⟩
  ·obtain⟨T,r,hT,rfl,⟨hr,hz⟩,rfl⟩:=yl
   obtain⟨d1,d2,hd1,hd2,rfl⟩:=oN ds ds' i d e
   obtain⟨v1,hv1,rv1⟩:=rd.get' hd1
   obtain⟨v2,hv2,rv2⟩:=rd'.get' hd2
   have z1:=hz 0 a xs rfl (ka _ _ m2)
   have z2:=hz 1 b ys rfl (kb _ _ m2)
   rw[hv1]at z1
   rw[hv2]at z2
   have er:r=[v1,v2]:=by
    match r,hr,z1,z2 with
    |[p,q],_,z1,z2 =>
     cases z1
     cases z2
     rfl
   subst er
   refine⟨.new hT,?_⟩
   simp only[Rep]
   exact⟨T,_,rfl,ak,.cons ((rv1.mv m2).mv (.new hT)) (.one ((rv2.mv m2).mv (.new hT)))⟩
  ·rw[L,rd.length,rd'.length]at hi
   intro c hc
   simp only[zzi,zzR,or_false]at hc
   rcases hc with rfl|rfl
   ·exact⟨xs,xs[i]'(by omega),ka _ _ m2,by simp⟩
   ·exact⟨ys,ys[i]'(by omega),kb _ _ m2,by simp⟩
  ·rw[L,rd.length,rd'.length]at hi
   refine⟨fun c hc=>?_,?_⟩
   ·simp only[zzi,zzR,or_false]at hc
    rcases hc with rfl|rfl
    ·exact⟨xs,ka _ _ m2⟩
    ·exact⟨ys,kb _ _ m2⟩
   ·rcases Nat.lt_or_ge ys.length xs.length with z|z
    ·exact⟨b,by simp,ys,kb _ _ m2,by omega⟩
    ·exact⟨a,by simp,xs,ka _ _ m2,by omega⟩
end
end DL
namespace DL
open PySem PySem.Spec L2
open PyProof.Rows hiding St
variable[TB]
section
variable[Frm]{X:Cx}
theorem Am{k n:Nat}{f:Addr}{fd:FuncData}{ps:List Str}{g:DSpN}{x:Str}{p cpos pos:Pos}{e:Expr}{es:List Expr}{t:DA}(Fn:FnOk X.prog X.w X.K X.mg X.base CX0 k f fd ps (spDN X.K n g))(gm:qN g)(hr:Room k X.A)(hg:Gl X x)(hm:X.mg x=some (.ref f))(hk:PySem.W.keepIn X.K (.ref f)=true)(hb:Binds X.K fd ps [])
  (ha:PAD X (e::es) t) (hdb:(x == ("__debug__" : Str))=false:=by decide) (he:starEach (e::es) X.env=(false,eval e X.env)::starEach es X.env:=by rfl) (hpl:(backTo cpos (starEach es X.env)).any (·.1)=false:=by rfl) :
  PSsN X [.Return (some (.Call (.Name x p) (e::es) [] cpos)) pos] (fun Q L ρ=>t ρ fun ds _=>ds.length=n/\g ds Q L):=by
 obtain⟨T,pa,ra⟩:=ha.run
 refine⟨_,eG (lc (sg Fn hr hg hm hk hb .nil Cp pa hdb he hpl)),fun {F} M H σ ρ Q L D rs en q=>ra M H σ ρ _ rs (ha.mono _ _ _ (fun ds ρ1 q M1 H1 vs m1 rs1 r1=>?_) q)⟩
 rw[zzM]
 refine⟨F.pp,M1,ds,rs1.liv,r1,q.1,gm _ _ _ _ _ (fun d q H' w s r=>en.rt M1 H' _ ρ1 d w (m1.trans s.mv) (rs1.sameP s) r q) (fun es q M' H' l xs s sub hl hp hM hH rr=>?_) q.2⟩
 have h0:F.H0 l=none:=by
  cases e:F.H0 l with
  |none=>rfl
  |some o=>exact absurd hl (rs1.same.live l (by rw[e];intro z;cases z))
 exact en.nw M' H' es l xs (rs1.sameT.trans s) (fun a ha=>sub a (rs1.sub a ha)) h0 hp hM hH rr q
end
end DL
namespace L2
open PySem PySem.Spec PyProof.Rows
section
variable{prog:Program}{w:World}{A:Around}{E:Value->Shared->Prop}{s:Shared}
theorem An{t b:Addr}{vs ws:List Value}{Q:Value->Shared->Prop}(ht:IsTup s.heap t vs.toArray)(hb:IsTup s.heap b ws.toArray)(hv:vs=[])
  (h:Q (.ref b) s):wpAny (model prog w) A (binaryOp .Add (.ref t) (.ref b)) Q E s:=by
 obtain⟨⟨cls,dd,data,sl⟩,ho,hc,n,hd⟩:=id ht
 obtain⟨⟨cls2,dd2,data2,sl2⟩,ho2,hc2,n2,hd2⟩:=id hb
 simp only at hc hd hc2 hd2
 subst hc hd hc2 hd2
 exact concat_meets ⟨_,ho,rfl⟩ ⟨_,ho2,rfl⟩ noFill_tuple_add seq_tuple_add PySem.F.slot_tuple_add PySem.F.entry_tuple_add (PySem.F.args_tuple_add_2 _ _)
   (tuple_addW0 t b vs.toArray ws.toArray n n2 dd dd2 sl sl2 (by simp[hv])) ⟨ho,ho2,h⟩
end
section
variable{X:Cx}
def FQ(K:PySem.W.Frag):R2:=fun x y H Q=>∃a b ys,x=.ref a/\y=.ref b/\SqT K H a []/\SqT K H b ys/\Q (.ref b) H
theorem Dk:OpR X (binaryOp .Add) (fun x y H Q=>EI X.K x y H Q∨FQ X.K x y H Q):=by
 intro pins s σ H x y v u Q I rx ry h
 rcases h with h|h
 ·exact Cj pins s σ H x y v u Q I rx ry h
 ·obtain⟨a,b,ys,rfl,rfl,ha,hb,q⟩:=h
  cases rx
  cases ry
  obtain⟨its,r1,p1,_⟩:=I.tuple ha
  obtain⟨its2,r2,p2,_⟩:=I.tuple hb
  exact An p1 p2 (r1.nil_iff.mpr rfl) ⟨.ref b,H,I,rfl,q⟩
end
end L2
namespace DL
open PySem PySem.Spec L2
open PyProof.Rows hiding St
variable[TB]
section
variable{X:Cx}
def FR:D->D->(D->Prop)->Prop
 |.tup xs,.tup ys,P=>(xs.length+ys.length <= sizeLine)/\P (.tup (xs++ys))
 |_,_,_=>False
theorem lS:OpD X (binaryOp .Add) FR:=by
 refine⟨fun x y P P' f h=>?_,_,Dk,fun {pp} M H x y v u Q lv rx ry h=>?_⟩
 ·cases x<;>first|exact h.elim|skip
  cases y<;>first|exact h.elim|exact⟨h.1,f _ h.2⟩
 ·cases x<;>first|exact h.elim|skip
  cases y<;>first|exact h.elim|skip
  rename_i xs ys
  by_cases z:xs=[]
  ·subst z
   have ry':=ry
   simp only[Rep]at rx ry
   obtain⟨a,us,rfl,ha,ra⟩:=rx
   obtain⟨b,ws,rfl,hb,rb⟩:=ry
   have e:us=[]:=zzN.mp ra.length.symm
   subst e
   exact .inr ⟨a,b,ws,rfl,rfl,SqT.of ha,SqT.of hb,h.2 H _ .refl ry'⟩
  ·have rx':=rx
   simp only[Rep]at rx ry
   obtain⟨a,us,rfl,ha,ra⟩:=rx
   obtain⟨b,ws,rfl,hb,rb⟩:=ry
   obtain⟨h2,h⟩:=h
   refine .inl ⟨a,b,us,ws,rfl,rfl,SqT.of ha,SqT.of hb,?_,by rw[←ra.length,←rb.length];exact h2,fun e=>?_,fun e l hl=>?_⟩
   ·rintro rfl
    exact z (zzN.mp ra.length)
   ·subst e
    have e2:ys=[]:=zzN.mp rb.length
    subst e2
    rw[zzM]at h
    exact h H _ .refl rx'
   ·refine h _ _ (.new hl) ?_
    simp only[Rep]
    exact⟨l,_,rfl,ak,(ra.append rb).mv (.new hl)⟩
end
end DL
namespace L2
open PySem PySem.Spec PyProof.Rows
open AutoSeq1 (wpAny_loadPart')
abbrev ym(t:Addr):Obj:={ cls:=.type "tuple_iterator",data:=.fields #[.ref t,.int 0 0] }
abbrev Dm(it:Addr):Obj:={ cls:=.type "enumerate",data:=.fields #[.none,.bool false,.ref it,rawInt 0,.none,.none] }
set_option maxHeartbeats 1000000 in
theorem yn(t:Addr)(xs:Array Value)(n:Nat)(dd:Option Addr)(sl:Array (Option Value)) :
  Meets (Builtin.«enumerate.__new__» ⟨[.type "enumerate",.ref t],[]⟩) (fun _ R s=>s.heap.get? t=some ⟨.type "tuple",dd,.seq xs n,sl⟩/\R (.ok (.ret (.ref (s.heap.push (ym t)).objs.size))) { s with heap:=(s.heap.push (ym t)).push (Dm s.heap.objs.size) }):=by
 refine .of_wp fun prog w A R s ⟨ht,q⟩=>?_
 obtain⟨hp,g,d,tk,os⟩:=s
 have hs:=sub_enumerate
 have it:Heap.IsTuple (Shared.heap ⟨hp,g,d,tk,os⟩) t xs:=⟨_,ht,rfl,n,rfl⟩
 wp_walk using wpAny_loadPart' ht
 refine wpAny_stack_any (fun σs=>wpAny_pure ?_)
 split
 ·rename_i c _ _ _ _ _
  rcases hcc:(c == Value.type "enumerate") with _|_
  ·(wp_walk using wpAny_loadPart' ht,wpAny_pyIter_tuple it);exact⟨_,rfl,q⟩
  ·(wp_walk using wpAny_loadPart' ht,wpAny_pyIter_tuple it);exact⟨_,rfl,q⟩
 ·(wp_walk using wpAny_loadPart' ht,wpAny_pyIter_tuple it);exact⟨_,rfl,q⟩
section
variable{prog:Program}{w:World}{A:Around}{E:Value->Shared->Prop}{s:Shared}
theorem Ao{t:Addr}{xs:Array Value}{Q:Value->Shared->Prop}(ht:IsTup s.heap t xs)
  (q:∀h',IsEnum h' (s.heap.objs.size+1) s.heap.objs.size 0 .none->h'.IsTupleIter s.heap.objs.size t 0->(∀b o,s.heap.get? b=some o->h'.get? b=some o)->Q (.ref (s.heap.objs.size+1)) { s with heap:=h' }) :
  wpAny (model prog w) A (call (.type "enumerate") [.ref t]) Q E s:=by
 obtain⟨⟨cl,dd,da,sl⟩,ho,oc,n,od⟩:=ht
 simp only at oc od
 subst oc od
 have z:(s.heap.push (ym t)).objs.size=s.heap.objs.size+1:=zye ..
 refine callType_new F.called_enumerate (by decide) (F.typeCall_enumerate_1 _) (F.newCall_enumerate_1 _) (fun o=>F.args_object_init_2 o _) F.entry_enumerate_new (yn t xs n dd sl) ⟨ho,?_⟩
 have e:IsEnum ((s.heap.push (ym t)).push (Dm s.heap.objs.size)) (s.heap.objs.size+1) s.heap.objs.size 0 .none:=by
  have:=zzs (s.heap.push (ym t)) (o:=Dm s.heap.objs.size) rfl
  rwa [z]at this
 show _/\_
 rw[z]
 exact⟨⟨_,e,rfl⟩,q _ e ⟨_,zzf _ (zzs _ rfl),rfl,rfl⟩ fun b o x=>zzf _ (zzf _ x)⟩
theorem yo(hh:A.handled=none)(it t:Addr)(ne:t≠it)(xs:Array Value):Draws prog w A it [it,t] xs.size (fun i v=>xs[i]? = some v) (fun i h=>h.IsTupleIter it t i/\h.IsTuple t xs):=by
 refine⟨fun i h x=>?_,fun i h h' x k=>?_,fun i s Q E hi x q=>?_,fun s Q E x q=>dR hh x.1 x.2 (by simp) q⟩
 ·obtain⟨⟨o,e,_⟩,_⟩:=x
  exact⟨o,e⟩
 ·obtain⟨⟨o,e,r⟩,o2,e2,r2⟩:=x
  exact⟨⟨o,k it (by simp) o e,r⟩,o2,k t (by simp) o2 e2,r2⟩
 ·refine fu x.1 x.2 (v:=xs[i]) (by simp[hi]) fun h' it' sb=>?_
  exact q _ h' s.toks (by simp[hi]) ⟨it',x.2.extBut sb.extBut ne⟩ sb
theorem yp(hh:A.handled=none)(it t:Addr){i:Nat}{xs:Array Value}(hx:xs[i]? = none):Draws prog w A it [it,t] 0 (fun _ _=>False) (fun _ h=>h.IsTupleIter it t i/\h.IsTuple t xs):=by
 refine⟨fun j h x=>?_,fun j h h' x k=>?_,fun j s Q E hj _ _=>absurd hj (zyf _),fun s Q E x q=>dR hh x.1 x.2 hx q⟩
 ·obtain⟨⟨o,e,_⟩,_⟩:=x
  exact⟨o,e⟩
 ·obtain⟨⟨o,e,r⟩,o2,e2,r2⟩:=x
  exact⟨⟨o,k it (by simp) o e,r⟩,o2,k t (by simp) o2 e2,r2⟩
end
def IteT(K:PySem.W.Frag)(a:Addr):It :=
 ⟨fun i H=>∃xs x,SqT K H a xs/\xs[i]? = some x,fun i H x H'=>∃T y,H T=none/\x=.ref T/\(∀xs,SqT K H a xs->xs[i]? = some y)/\H'=upd H T (.tup [.int i,y]),fun i H=>∃xs,SqT K H a xs/\xs.length <= i⟩
theorem yq{h:Heap}{a b:Addr}{its:Array Value}{o:Obj}{n:String}(hl:IsTup h a its)(ho:h.get? b=some o)(hc:o.cls=.type n)(hn:n ≠ "tuple"):a≠b:=by
 rintro rfl
 obtain⟨o',e,c,_⟩:=hl
 rw[ho]at e
 cases e
 rw[hc]at c
 cases c
 exact hn rfl
theorem wk{P:Program}{w:World}{K:PySem.W.Frag}{elts:List Expr}{k:Nat}{tp:Pos}(a e it:Addr)(hei:e≠it):Turn P w K (.Tuple elts k tp) (IteT K a) [e,it] e (fun i h=>(∃old,IsEnum h e it i old)/\h.IsTupleIter it a i) where
 mem:=by simp
 obj:=fun i h st b hb=>by
  obtain⟨⟨old,he⟩,ho⟩:=st
  rcases zzi.mp hb with rfl|hb
  ·exact⟨_,he,fun v z=>by
    have z':Data.fields _=Data.cell v:=z
    cases z'⟩
  ·have:b=it:=by simpa using hb
   subst this
   obtain⟨o,eo,c,d⟩:=ho
   exact⟨o,eo,fun v z=>by rw[d]at z;cases z⟩
 keep:=fun i h h' st k=>by
  obtain⟨⟨old,he⟩,o,eo,r⟩:=st
  exact⟨⟨old,k e (by simp) _ he⟩,o,k it (by simp) o eo,r⟩
 item:=by
  intro X hP hw hK hc i pins s σ H E I hf st hg
  subst hP hw hK
  obtain⟨xs,x,hq,hx⟩:=hg
  obtain⟨its,rv,p,hz⟩:=I.tuple hq
  obtain⟨u,hu,ru⟩:=rv.get hx
  obtain⟨⟨old,he⟩,hit⟩:=st
  have hae:a≠e:=yq p he rfl (by decide)
  have hai:a≠it:=by
   obtain⟨o,eo,c,d⟩:=id hit
   exact yq p eo c (by decide)
  have W:=WalksT.enumerateD (prog:=X.prog) (w:=X.w) (A:=X.A) (yo (A:=X.A.in1) (I.ok.hd hc) it a hai its.toArray) e hei (by simp[hei,Ne.symm hae]) (by simp)
  have hi:i<its.toArray.size:=by
   have:=(zzt.mp hu).1
   simpa using this
  refine W.item i s _ _ hi ⟨⟨old,he⟩,hit,p⟩ fun T vals h1 tk hP hT hIs hMid hk=>?_
  obtain⟨t,z,hz',rfl⟩:=hP
  have ezu:z=u:=by
   have:its.toArray[i]? = some u:=by simpa using hu
   rw[this]at hz'
   cases hz'
   rfl
  subst ezu
  have ap:=W.apart i T h1 hMid
  refine⟨_,rfl,W.go elts k tp i T { s with heap:=h1,toks:=tk } _ _ hMid fun h2 st2 hk2=>?_⟩
  obtain⟨st21,st22,_⟩:=st2
  have I2:Inv X pins σ (upd H T (.tup [.int i,x])) { s with heap:=h2,toks:=tk }:=by
   refine I.turnedN (ch:=[e,it]) hf (fun b o hb q=>hk2 b o hb (hk b o hb q)) hT ⟨?_,[.int i t,z],.cons ⟨t,rfl⟩ (.cons ru .nil),?_⟩
   ·exact⟨by show 2 <= sizeLine;decide,.inr ⟨_,_,rfl⟩⟩
   ·obtain⟨o,eo,r⟩:=hIs
    exact⟨o,hk2 T o ap eo,r⟩
  refine⟨.ref T,_,I2,rfl,⟨T,x,I.hok.fresh hT,rfl,fun ys hy=>by rw[I.tuple_inj hy hq];exact hx,rfl⟩,⟨by simpa using st21,st22⟩,fun b hb=>?_⟩
  have fb:=hf b hb
  rw[aq]
  ·exact fb.1
  ·rintro rfl
   exact ap hb
 done:=by
  intro X hP hw hK hc i pins s σ H E I hf st hg
  subst hP hw hK
  obtain⟨xs,hq,hx⟩:=hg
  obtain⟨its,rv,p,hz⟩:=I.tuple hq
  obtain⟨⟨old,he⟩,hit⟩:=st
  have hl:=rv.length
  refine wpAny_pyNext_enum_endD (yp (A:=X.A.in1) (I.ok.hd hc) it a (i:=i) (xs:=its.toArray) (by simp;omega)) he ⟨hit,p⟩ fun h1 hx1=>⟨rfl,?_⟩
  exact I.turnedL (t':=s.toks) (ch:=[e,it]) hf fun b o hb q=>hx1 b o (fun z=>hb (by simp[z])) q
 self:=fun _ _ _ _ _ st h=>let ⟨_,he⟩:=st.1;wpAny_pyIter_enum he h
section
variable{X:Cx}
def FS(K:PySem.W.Frag)(ta:TA):TI:=fun σ H R=>ta σ H fun vs H1=>∃a,vs=[.ref a]/\(∃xs,SqT K H1 a xs)/\R (IteT K a) H1
theorem Ap{l:Expr}{ta:TA}{p pos tp:Pos}{elts:List Expr}{k:Nat}(hg:Gl X "enumerate")(hm:X.mg "enumerate" = none)(ha:PA X [l] ta)(he:starEach [l] X.env=(false,eval l X.env)::starEach [] X.env:=by rfl)(hpl:(backTo pos (starEach [] X.env)).any (·.1)=false:=by rfl) :
  PI X (.Tuple elts k tp) (.Call (.Name "enumerate" p) [l] [] pos) (FS X.K ta):=by
 intro pins s σ H R I h
 refine Call_ (gw I hg hm qM (PyProof.Rows.callWith_type1 (thn (ha pos pins s σ H _ I h) fun us s1 ⟨vs,H1,I1,r1,q1⟩=>?_) he hpl))
 obtain⟨a,e,⟨xs,hq⟩,q⟩:=q1
 subst e
 obtain⟨u,rfl,ru⟩:=r1.one
 cases ru
 obtain⟨its,rv,pl,hz⟩:=I1.tuple hq
 refine Ao pl fun h1 hE hit hk=>?_
 refine wpAny_pyIter_enum hE ?_
 have ne:s1.heap.objs.size+1≠s1.heap.objs.size:=by omega
 refine⟨_,[s1.heap.objs.size+1,s1.heap.objs.size],_,IteT X.K a,H1,rfl,I1.kept (t':=s1.toks) hk,wk a _ _ ne,⟨⟨_,hE⟩,hit⟩,fun b hb=>?_,q⟩
 rcases zzi.mp hb with rfl|hb
 ·exact I1.fpOk (Nat.le_succ _) (I1.hok.fresh (Nat.le_succ _))
 ·have:b=s1.heap.objs.size:=by simpa using hb
  subst this
  exact I1.fpOk (zzj _) (I1.hok.fresh (zzj _))
end
end L2
namespace DL
open PySem PySem.Spec L2
open PyProof.Rows hiding St
variable[TB]
section
variable[Frm]{X:Cx}
abbrev Dn(t:DA):DA:=fun ρ Q=>t ρ fun ds ρ'=>match ds with
 |[.tup xs]=>Q (lM 0 xs) ρ'
 |_=>False
theorem Aq{l:Expr}{tl:DA}{p pos tp:Pos}{elts:List Expr}{k:Nat}(hg:Gl X "enumerate")(hm:X.mg "enumerate" = none)(ha:PAD X [l] tl)(he:starEach [l] X.env=(false,eval l X.env)::starEach [] X.env:=by rfl)(hpl:(backTo pos (starEach [] X.env)).any (·.1)=false:=by rfl) :
  PID X (.Tuple elts k tp) (.Call (.Name "enumerate" p) [l] [] pos) (Dn tl):=by
 obtain⟨T,pa,r⟩:=ha.run
 refine⟨fun _ _ _ f h=>ha.mono _ _ _ (fun d _ h=>?_) h,_,Ap hg hm pa he hpl,fun {F} M H σ ρ R rs h=>r M H σ ρ _ rs (ha.mono _ _ _ (fun d ρ' h M' H' v m rs' rd=>?_) h)⟩
 ·split at h
  ·exact f _ _ h
  ·exact h.elim
 ·split at h
  case h_2=>exact h.elim
  rename_i ds
  simp only[Reps,Rep]at rd
  obtain⟨x,r0,rfl,⟨a,xs,rfl,ha,rd⟩,rfl⟩:=rd
  refine⟨a,rfl,⟨xs,SqT.of ha⟩,h M' H' _ m rs' ⟨fun M2 H2 m2 i d y H3 e yl=>?_,fun M2 H2 m2 i hi=>?_,fun M2 H2 m2 i hi=>?_⟩⟩
  ·obtain⟨T,z,hT,rfl,hz,rfl⟩:=yl
   obtain⟨d',hd',rfl⟩:=lN ds 0 i d e
   obtain⟨v',hv',rv'⟩:=rd.get' hd'
   have:=hz xs (SqT.of (m2.tup a xs ha))
   rw[hv']at this
   cases this
   refine⟨.new hT,?_⟩
   simp only[Rep]
   exact⟨T,_,rfl,ak,.cons (by rw[Nat.zero_add];exact bE) (.one ((rv'.mv m2).mv (.new hT)))⟩
  ·have hi':i<xs.length:=by rw[←rd.length,←cM ds 0];exact hi
   exact⟨xs,xs[i],SqT.of (m2.tup a xs ha),by simp[hi']⟩
  ·exact⟨xs,SqT.of (m2.tup a xs ha),by rw[←rd.length,←cM ds 0];exact hi⟩
abbrev dIfL(tc:DT)(ta tb:DA):DA:=fun ρ Q=>tc ρ fun b ρ1=>Br b (ta ρ1 Q) (tb ρ1 Q)
theorem Ar{a b c:Expr}{pos:Pos}{tc:DT}{ta tb:DA}(hc:PTD X c tc)(ha:PLD X a ta)(hb:PLD X b tb):PLD X (.IfExp c a b pos) (dIfL tc ta tb):=by
 obtain⟨T,p,r⟩:=hc.run
 obtain⟨U,q,s⟩:=ha.run
 obtain⟨U',q',s'⟩:=hb.run
 refine⟨fun _ _ _ f h=>hc.mono _ _ _ (fun _ _ h=>⟨fun e=>ha.mono _ _ _ f (h.yes e),fun e=>hb.mono _ _ _ f (h.no e)⟩) h,_,ue p q q',fun {F} M H σ ρ Q rs h=>?_⟩
 refine r M H σ ρ _ rs (hc.mono _ _ _ (fun c ρ1 h M1 H1 m1 rs1=>?_) h)
 cases c with
 |true=>exact iteT (s M1 H1 σ ρ1 _ rs1 (ha.mono _ _ _ (fun c ρ2 h M2 H2 H3 l xs m2 rs2 e1 e2 e3=>h M2 H2 H3 l xs (m1.trans m2) rs2 e1 e2 e3) (h.yes rfl)))
 |false=>exact iteF (s' M1 H1 σ ρ1 _ rs1 (hb.mono _ _ _ (fun c ρ2 h M2 H2 H3 l xs m2 rs2 e1 e2 e3=>h M2 H2 H3 l xs (m1.trans m2) rs2 e1 e2 e3) (h.no rfl)))
end
section
variable{X:Cx}
def FT(x y:D)(P:D->Prop):Prop:=match y with
 |.tup ys=>(iF x=true/\ys.all iF=true)/\P (.bl (!(ys.any fun y=>eqF y x)))
 |.lst ys=>(iF x=true/\ys.all iF=true)/\P (.bl (!(ys.any fun y=>eqF y x)))
 |_=>False
theorem At:OpD X (compareOp .NotIn) FT:=by
 refine⟨fun x y P P' f h=>?_,_,qp,fun {pp} M H x y v u Q _ rx ry h=>?_⟩
 ·cases y<;>first|exact⟨h.1,f _ h.2⟩|exact False.elim h
 ·have go:∀ys:List D,(iF x=true/\ys.all iF=true)->∀us:List V,Reps X.K pp M H ys us->fh v=true/\us.all fh=true/\inV v us=ys.any fun y=>eqF y x:=fun ys ⟨f1,f2⟩ us r=>by
   obtain⟨e1,e2⟩:=kL f1 rx
   obtain⟨e3,e4⟩:=iG f2 r
   refine⟨e2,e4,?_⟩
   unfold inV
   rw[e3,e1,List.any_map]
   rfl
  cases y<;>first|exact False.elim h|skip
  ·rename_i ys
   simp only[Rep]at ry
   obtain⟨a,us,rfl,ha,r⟩:=ry
   obtain⟨g1,g2,g3⟩:=go ys h.1 us r
   refine⟨a,us,rfl,.inr (SqT.of ha),g1,g2,?_⟩
   rw[if_pos rfl,g3]
   exact h.2 H _ .refl de
  ·rename_i ys
   simp only[Rep]at ry
   obtain⟨a,us,rfl,hm,hp,ha,r⟩:=ry
   obtain⟨g1,g2,g3⟩:=go ys h.1 us r
   refine⟨a,us,rfl,.inl (SqL.of ha),g1,g2,?_⟩
   rw[if_pos rfl,g3]
   exact h.2 H _ .refl de
end
section
theorem BD(dx:D):∀ys:List D,(lH ys).any (fun y=>PyData.eqv y (toPy dx))=ys.any fun z=>eqD z dx
 |[]=>rfl
 |y::ys=>by
  rw[lH,zyM,zyM,BD dx ys]
  rfl
end
variable[Frm]
end DL
namespace TS
open PySem PyProof.Rows
section
variable{r:Keyed->Nat}
abbrev Up(r:Keyed->Nat)(l:List Keyed):Prop:=l.Pairwise fun x y=>r x <= r y
section
variable{a b:Array Keyed}
variable(ua:Up r a.toList)(ub:Up r b.toList)(na:0<a.size)(hl:∀y∈b.toList,r y <= r (a[a.size - 1]'(by omega)))
include ua ub hl
end
section
variable{a b:Array Keyed}
variable(ua:Up r a.toList)(ub:Up r b.toList)(b0:0<b.size)(hf:∀y∈a.toList,r (b[0]'b0) <= r y)
include ua ub hf
end
end
end TS
namespace L2
open PySem PySem.Spec PyProof.Rows PySem.W
theorem uS(a b:Int)(r r':List Key):lexI (.inl a::r) (.inl b::r')=if a=b then lexI r r' else decide (a<b):=rfl
theorem yr:∀k:List Key,lexI k k=false
 |[]=>rfl
 |.inl a::r=>by rw[uS,if_pos rfl];exact yr r
 |.inr a::r=>rfl
theorem uT{prog:Program}{w:World}:∀{k:List Key}{xs:List Value},Paired isI k xs->ItemsAre (aP prog w) k xs
 |_,_,.nil=>.nil
 |_,_,.cons h r=>by
  obtain⟨i,t,rfl,rfl⟩:=h
  exact .cons (kY prog w i t) (uT r)
theorem TupI.key{prog:Program}{w:World}{h:Heap}{k:List Key}{v:Value}(t:TupI h k v):∃a,v=.ref a/\IsTupleKey (aP prog w) h k a:=by
 obtain⟨a,o,xs,n,rfl,e,c,d,p⟩:=t
 exact⟨a,rfl,o,xs,n,e,c,d,uT p⟩
theorem sX:∀{k:List Key}{xs:List Value},Paired isI k xs->∃ns:List Int,k=ns.map .inl/\IntsAre xs ns
 |_,_,.nil=>⟨[],rfl,.nil⟩
 |_,_,.cons h r=>by
  obtain⟨i,t,rfl,rfl⟩:=h
  obtain⟨ns,rfl,hi⟩:=sX r
  exact⟨i::ns,rfl,.cons i t hi⟩
theorem uU:∀ns ms:List Int,HT.lexLt ns ms=lexI (ns.map .inl) (ms.map .inl)
 |[],[]=>HT.lexLt_nil_nil
 |[],_::_=>HT.lexLt_nil_cons ..
 |_::_,[]=>HT.lexLt_cons_nil ..
 |a::r,b::t=>by
  rw[HT.lexLt_cons,zze,zze,uS,uU r t]
section
variable{prog:Program}{w:World}{A:Around}{E:Value->Shared->Prop}{s:Shared}{Q:Bool->Shared->Prop}
theorem Do(hu:A.units<cLine){k1 k2:List Key}{v1 v2:Value}(h1:TupI s.heap k1 v1)(h2:TupI s.heap k2 v2){Q:Value->Shared->Prop}(q:Q (.bool (lexI k1 k2)) s):wpAny (model prog w) A (compareOp .Lt v1 v2) Q E s:=by
 obtain⟨x,ox,xs,n,rfl,hx,cx,dx,px⟩:=h1
 obtain⟨y,oy,ys,m,rfl,hy,cy,dy,py⟩:=h2
 obtain⟨ns,rfl,i1⟩:=sX px
 obtain⟨ms,rfl,i2⟩:=sX py
 refine HT.lt_tupInts (items:=xs) (items2:=ys) ⟨ox,hx,cx,n,dx⟩ ⟨oy,hy,cy,m,dy⟩ i1 i2 hu ?_
 rw[uU]
 exact q
theorem yt(hu:A.units<cLine){k1 k2:List Key}{v1 v2:Value}(h1:TupI s.heap k1 v1)(h2:TupI s.heap k2 v2)(q:Q (decide (k1=k2)) s):wpAny (model prog w) A (eqBool v1 v2) Q E s:=by
 obtain⟨a,rfl,i1⟩:=h1.key (prog:=prog) (w:=w)
 obtain⟨c,rfl,i2⟩:=h2.key (prog:=prog) (w:=w)
 exact wpAny_eqBool_tuple hu i1 i2 q
end
end L2
namespace DL
open PySem PySem.Spec L2
open PyProof.Rows hiding St
variable[TB][Frm]
section
variable{X:Cx}{rest:List Stmt}{u:DTN}{e c:Expr}{tl:DA}{tc:DT}{pos p2:Pos}
theorem yu(hc:PTD X c tc)(h:PLD X e tl)(h2:PSsN X rest u):PSsN X (.If c [.Return (some e) p2] [] pos::rest) (fun Q L ρ=>tc ρ fun k ρ'=>Br k (tl ρ' fun ds _=>L ds) (u Q L ρ')):=by
 obtain⟨C,pc,rc⟩:=hc.run
 obtain⟨T,p,r⟩:=h.run
 obtain⟨U,q,s⟩:=h2
 refine⟨_,bA (wQ pc (eG (lc p)) kZ) q,fun {F} M H σ ρ Q L D rs en h0=>rc M H σ ρ _ rs (hc.mono _ _ _ (fun k ρ1 hk M1 H1 m1 rs1=>?_) h0)⟩
 cases k with
 |true =>
  refine iteT (r M1 H1 σ ρ1 _ rs1 (h.mono _ _ _ (fun ds ρ' q M' H1 H' l xs m rs' hl e r'=>?_) (hk.yes rfl)))
  subst e
  have h0:F.H0 l=none:=by
   cases e:F.H0 l with
   |none=>rfl
   |some o=>exact absurd hl (rs'.same.live l (by rw[e];intro z;cases z))
  exact en.nw (l::M') _ ds l xs (rs'.sameT.trans (.new hl)) (fun a ha=>zzc _ (rs'.sub a ha)) h0 (rs'.liv.fresh hl).2 zzd ak (r'.mv (.newOwn hl)) q
 |false=>exact iteF (s M1 H1 σ ρ1 Q L D rs1 (en.mv m1) (hk.no rfl))
end
end DL
namespace SS
open PySem PySem.SetTable PyProof.Rows L2
set_option maxRecDepth 100000
end SS
namespace SS
open PySem PySem.SetTable PyProof.Rows L2 PySem.W
set_option maxRecDepth 100000
end SS
namespace L2
open PySem PySem.Spec PyProof.Rows
section
variable{X:Cx}
theorem ZipStM.keep{tk:Addr->Bool}{h h':Heap}{n k:Nat}{src:List (Addr×Array Value)}(z:ZipStM tk h n src k)(kk:∀(b:Nat) o,b<n+src.length+3->h.get? b=some o->h'.get? b=some o):ZipStM tk h' n src k:=by
 obtain⟨⟨f0,f1,hf,hz⟩,hTI,⟨ws,hws,hTO⟩,hit,hls,hne⟩:=z
 exact⟨⟨f0,f1,hf,kk _ _ (by omega) hz⟩,kk _ _ (by omega) hTI,⟨ws,hws,kk _ _ (by omega) hTO⟩,fun j p hj=>(hit j p hj).at fun o e=>kk _ o (by have:=cY hj;omega) e,fun j p hj=>⟨(hls j p hj).1,(hls j p hj).2.at fun o e=>kk _ o (zzz (hls j p hj).1 (by omega)) e⟩,hne⟩
theorem yw{tk:Addr->Bool}{n S:Nat}{src:List (Addr×Array Value)}{xss:List (List V)}{pins:List (Addr×Obj)}{σ:St}{H0:Hp}{A:Around}{R:Result->Shared->Prop}{res:Value}(hh:A.handled=none)(hsz:src.length <= sizeLine)(hv:SrcV xss src)
  (hS:n+src.length+3 <= S)
  (hR:∀s' rows Ts H' c,xS xss rows->Laid H0 rows Ts H'->Inv X pins σ H' s'->FpOk X pins H' S->Ts.length <= sizeLine->s'.heap.get? S=some { cls:=.type "list",dict:=none,data:=.seq (Ts.map Value.ref).toArray c,slots:=#[] }->R (.ok (.ret res)) s') :
  ∀(m i:Nat) (s:Shared) (H:Hp) (rows:List (List V)) (Ts:List Addr) (c:Nat),(∀xs∈xss,xs.length <= i+m)->i <= sizeLine->(∀xs∈xss,xs.length <= sizeLine)->rows.length=i->(∀(j:Nat) r,rows[j]? = some r->xR xss j r)->Laid H0 rows Ts H->Inv X pins σ H s->(∀b∈ownZ n src.length S,FpOk X pins H b)->ZipStM tk s.heap n src i ->
   s.heap.get? S=some { cls:=.type "list",dict:=none,data:=.seq (Ts.map Value.ref).toArray c,slots:=#[] } ->
   codeAny (model X.prog X.w) A (.builtin "list.extend.loop" ⟨[.ref S,.ref (n+src.length+2),res],[]⟩) R s:=by
 have fin:∀(i:Nat) (s:Shared) (H:Hp) (rows:List (List V)) (Ts:List Addr) (c:Nat),i <= sizeLine->rows.length=i->(∀(j:Nat) r,rows[j]? = some r->xR xss j r)->Laid H0 rows Ts H->Inv X pins σ H s->(∀b∈ownZ n src.length S,FpOk X pins H b) ->
   s.heap.get? S=some { cls:=.type "list",dict:=none,data:=.seq (Ts.map Value.ref).toArray c,slots:=#[] }->(∃(j:Nat) (p:Addr×Array Value),src[j]? = some p/\p.2[i]? = none)->∀h',KeptZ n src.length s.heap h'->R (.ok (.ret res)) { s with heap:=h' }:=by
  intro i s H rows Ts c hi hrow hrows L I hf hS' he h' hk
  refine hR _ rows Ts H c ⟨hrows,?_⟩ L (I.turnedL (t':=s.toks) (ch:=ownZ n src.length S) hf fun b u hb q=>hk b u ?_ q) (hf S (ownZ_mem.mpr (.inl rfl))) (by rw[L.len];omega) (hk S _ (by omega) hS')
  ·obtain⟨xs,h1,h2⟩:=Hr hv he
   exact⟨xs,h1,by omega⟩
  ·exact kN (oO hb).2
 intro m
 induction m with
 |zero =>
  intro i s H rows Ts c hm hi hb hrow hrows L I hf hz hS'
  refine codeAny_builtin F.entry_extend_loop ?_
  rw[Around.under_plainId F.plain_extend_loop _]
  show wpAny _ A.in1 (pyNext (.ref _) >>= _) _ _ s
  refine wpAny_bind (bN hh hsz hz (fun vs h' ht _ _ _ _=>?_) (fun he h' hk=>wpAny_pure (fin i s H rows Ts c hi hrow hrows L I hf hS' he h' hk)))
  exfalso
  obtain⟨r,⟨hr1,hr2⟩,_⟩:=kM hv ht
  have hne:=hz.ne
  have h0:0<src.length:=List.length_pos_iff.mpr hne
  have lt:0<xss.length:=by rw[hv.1];exact h0
  have:=hr2 0 xss[0] (by simp[lt])
  have hl:=hm xss[0] (zzU lt)
  rw[zyK (by omega)]at this
  rw[zzm (by omega)]at this
  cases this
 |succ m ih =>
  intro i s H rows Ts c hm hi hb hrow hrows L I hf hz hS'
  refine codeAny_builtin F.entry_extend_loop ?_
  rw[Around.under_plainId F.plain_extend_loop _]
  show wpAny _ A.in1 (pyNext (.ref _) >>= _) _ _ s
  refine wpAny_bind (bN hh hsz hz (fun vs h' ht hz' hT' hs' hk=>?_) (fun he h' hk=>wpAny_pure (fin i s H rows Ts c hi hrow hrows L I hf hS' he h' hk)))
  obtain⟨r,hr,rv⟩:=kM hv ht
  have hi1:i<sizeLine:=by
   have h0:0<src.length:=List.length_pos_iff.mpr hz.ne
   have lt:0<xss.length:=by rw[hv.1];exact h0
   have:=hr.2 0 xss[0] (by simp[lt])
   have hl:=hb xss[0] (zzU lt)
   rcases Nat.lt_or_ge i xss[0].length with z|z
   ·omega
   ·rw[zyK z,zzm (by rw[hr.1];exact lt)]at this
    cases this
  have hSlt:S<s.heap.objs.size:=zzq hS'
  have hS'':=hk S _ (by omega) hS'
  have lT:=L.len
  have eTs:((Ts++[s.heap.objs.size]).map Value.ref).toArray=(Ts.map Value.ref).toArray.push (.ref s.heap.objs.size):=by simp
  have hS3:=zyg (Obj.mapSeq (·.push (Value.ref s.heap.objs.size))) hS'' rfl
  obtain⟨c3,hS4⟩:∃c3,(h'.update S (Obj.mapSeq (·.push (Value.ref s.heap.objs.size)))).get? S=some { cls:=.type "list",dict:=none,data:=.seq ((Ts++[s.heap.objs.size]).map Value.ref).toArray c3,slots:=#[] }:=⟨_,by rw[eTs];exact hS3⟩
  show wpAny _ A.in1 (updateSeq S (·.push (.ref s.heap.objs.size)) >>= _) _ _ _
  refine wpAny_bind (wpAny_updateSeq hS'' rfl (wpAny_pure ⟨plainId_quiet F.plain_extend_loop _,ih (i+1) _ (upd H s.heap.objs.size (.tup r)) (rows++[r]) (Ts++[s.heap.objs.size]) c3 (fun xs hx=>by have:=hm xs hx;omega) hi1 hb (by simp[hrow]) (fun j r' hj=>?_) (.snoc L (I.hok.fresh (zzj _))) ?_ (fun b hb=>?_) (hz'.keep fun b o hb e=>?_) hS4⟩) (by simp;omega) (by simp;omega))
  ·rcases Nat.lt_or_ge j rows.length with z|z
   ·rw[zzE z]at hj
    exact hrows j r' hj
   ·rw[zzF z]at hj
    have:j=rows.length:=by
     have:=cY hj
     simp at this
     omega
    subst this
    simp at hj
    subst hj
    rw[hrow]
    exact hr
  ·refine I.turnedN (t':=s.toks) (ch:=ownZ n src.length S) hf (fun b o hb q=>?_) (zzj _) ⟨?_,vs,rv,?_⟩
   ·exact(zyd _ _ (Ne.symm (oO hb).1)).trans (hk b o (kN (oO hb).2) q)
   ·exact⟨by rw[hr.1,hv.1];exact hsz,.inl ⟨_,(zyd _ _ (by intro e;have e:(_:Nat)=(_:Nat):=e;omega)).trans hT',rfl⟩⟩
   ·exact⟨_,(zyd _ _ (by intro e;have e:(_:Nat)=(_:Nat):=e;omega)).trans hT',rfl,_,rfl⟩
  ·have:=ownZ_mem.mp hb
   exact(hf b hb).upd (by intro e;have e:(_:Nat)=(_:Nat):=e;omega)
  ·exact(zyd _ _ (by intro e;have e:(_:Nat)=(_:Nat):=e;omega)).trans e
theorem yx{tk:Addr->Bool}{n:Nat}{src:List (Addr×Array Value)}{xss:List (List V)}{pins:List (Addr×Obj)}{σ:St}{H:Hp}{s:Shared}{Q:VK}(hh:X.A.handled=none)(hsz:src.length <= sizeLine)(hv:SrcV xss src)(hb:∀xs∈xss,xs.length <= sizeLine)
  (I:Inv X pins σ H s) (hf:∀b:Nat,n <= b->FpOk X pins H b) (hz:ZipStM tk s.heap n src 0) (hq:FD xss H Q) :
  wpAny (model X.prog X.w) X.A (call (.type "list") [.ref (n+src.length+2)]) (EP X pins σ Q) X.xe s:=by
 obtain⟨f0,f1,hf0,hzz⟩:=hz.zip
 have hzlt:n+src.length+2<s.heap.objs.size:=zzq hzz
 refine callType_codes (Q₁:=fun obj s₁=>obj=.ref s.heap.objs.size/\s₁={ s with heap:=s.heap.push { cls:=.type "list",data:=.seq #[] } }) F.called_list (F.typeCall_list_1 _) F.entry_list_init
  (code_list_new _ ⟨rfl,rfl⟩) fun obj s₁ h₁=>?_
 obtain⟨rfl,rfl⟩:=h₁
 have hS:(s.heap.push { cls:=.type "list",data:=.seq #[] }).get? s.heap.objs.size=some { cls:=.type "list",data:=.seq #[] }:=zzs _ rfl
 refine⟨⟨_,hS,rfl⟩,F.args_list_init_2 _ _,?_⟩
 generalize hR:(wants (fun r s₂=>r=Value.none/\EP X pins σ Q (.ref s.heap.objs.size) s₂) X.xe)=R
 show wpAny _ _ (do let old ←Builtin.List.listItems (.ref s.heap.objs.size);Builtin.List.listUpdate (.ref s.heap.objs.size) (fun _=>#[]);letGo old.toList.reverse;Builtin.List.listExtendWith (.ref s.heap.objs.size) (.ref (n+src.length+2)) .none) _ _ _
 refine wpAny_bind ?_
 unfold Builtin.List.listItems
 refine wpAny_bind (wpAny_seqItems hS rfl (wpAny_pure ?_))
 show wpAny _ _ (updateSeq s.heap.objs.size (fun _=>#[]) >>= fun _=>letGo (#[]:Array Value).toList.reverse >>= fun _=>Builtin.List.listExtendWith (.ref s.heap.objs.size) (.ref (n+src.length+2)) .none) _ _ _
 refine wpAny_bind (wpAny_updateSeq hS rfl ?_)
 have hS₂:=zyg (Obj.mapSeq (fun _=>(#[]:Array Value))) hS rfl
 have o2:∀b o,s.heap.get? b=some o->((s.heap.push { cls:=.type "list",data:=.seq #[] }).update s.heap.objs.size (Obj.mapSeq (fun _=>(#[]:Array Value)))).get? b=some o :=
  fun b o e=>(zyd _ _ (zyA (zzq e))).trans (zzf _ e)
 refine wpAny_bind (wpAny_letGo ?_)
 generalize hh2:(s.heap.push { cls:=.type "list",data:=.seq #[] }).update s.heap.objs.size (Obj.mapSeq (fun _=>(#[]:Array Value)))=h2 at hS₂ o2 ⊢
 have hz2:dj h2 (n+src.length+2) (n+src.length) (n+src.length+1) f0 f1:=o2 _ _ hzz
 have hT:Shared.TypeIs { s with heap:=h2 } (.ref (n+src.length+2)) "zip":=⟨_,hz2,rfl⟩
 have hne:s.heap.objs.size≠n+src.length+2:=zyA hzlt
 unfold Builtin.List.listExtendWith
 refine wpAny_bind (wpAny_typeOf hT ?_)
 have h1:Builtin.List.listSameRef (.ref s.heap.objs.size) (.ref (n+src.length+2))=false:=by simp[Builtin.List.listSameRef,hne]
 have h2':(Value.type "zip" == Value.type "list")=false:=by decide
 have h3:(Value.type "zip" == Value.type "tuple")=false:=by decide
 simp only[h1,h2',h3,Bool.or_false,zyv,if_false]
 have hT0:Shared.TypeIs { s with heap:=h2 } (.ref (n+src.length+2)) "zip":=hT
 refine wpAny_bind (wpAny_pyIter_slot hT F.slot_zip_iter (wpAny_call_entry F.slot_zip_iter hT F.entry_zip_iter ?_ (F.args_zip_iter_1 _)))
 show wpAny _ _ (ret (.ref (n+src.length+2))) _ _ _
 refine wpAny_pure ⟨_,rfl,"zip",_,hT,F.slot_zip_next.lookup,?_⟩
 refine wpAny_bind (wpAny_holding ?_)
 unfold Builtin.List.listLengthHint
 refine wpAny_bind (wpAny_specialOf hT F.zip_no_len ?_)
 show wpAny _ _ (specialOf (Value.ref (n+src.length+2)) (Str.ofString "__length_hint__") >>= _) _ _ _
 refine wpAny_bind (wpAny_specialOf hT F.zip_no_hint ?_)
 refine wpAny_pure ?_
 show wpAny _ _ (rule "list.extend.makes-room" >>= fun _=>Builtin.List.listTouch (.ref s.heap.objs.size) >>= fun _ =>
  again (.builtin "list.extend.loop" ⟨[.ref s.heap.objs.size,.ref (n+src.length+2),.none],[]⟩)) _ _ _
 refine wpAny_bind (wpAny_rule ?_)
 refine wpAny_bind ?_
 show wpAny _ _ (updateSeq s.heap.objs.size (·.push .none) >>= fun _=>updateSeq s.heap.objs.size (·.pop)) _ _ _
 refine wpAny_bind (wpAny_updateSeq hS₂ rfl ?_)
 have hS₃:=zyg (Obj.mapSeq (·.push Value.none)) hS₂ rfl
 refine wpAny_updateSeq (hz:=by seq_fits) hS₃ rfl ?_
 have hS₄:=zyg (Obj.mapSeq (·.pop)) hS₃ rfl
 have o4:∀b o,s.heap.get? b=some o->((h2.update s.heap.objs.size (Obj.mapSeq (·.push Value.none))).update s.heap.objs.size (Obj.mapSeq (·.pop))).get? b=some o :=
  fun b o e=>(zyd _ _ (zyA (zzq e))).trans ((zyd _ _ (zyA (zzq e))).trans (o2 b o e))
 generalize (h2.update s.heap.objs.size (Obj.mapSeq (·.push Value.none))).update s.heap.objs.size (Obj.mapSeq (·.pop))=h4 at hS₄ o4 ⊢
 have hS₅:∃c,h4.get? s.heap.objs.size=some { cls:=.type "list",dict:=none,data:=.seq (([]:List Addr).map Value.ref).toArray c,slots:=#[] }:=⟨_,hS₄⟩
 obtain⟨c5,hS₅⟩:=hS₅
 have I4:Inv X pins σ H { s with heap:=h4 }:=I.kept (t':=s.toks) o4
 refine wpAny_pure ⟨plainId_quiet F.plain_extend_loop _,yw (A:=X.A.in1) (R:=R) (X:=X) (pins:=pins) (σ:=σ) (H0:=H) (xss:=xss) hh hsz hv (by omega) (fun s' rows Ts H' c hr L I' hf' hl hS'=>?_) sizeLine 0 { s with heap:=h4 } H [] [] c5 (fun xs hx=>by have:=hb xs hx;omega) (zzG _) hb rfl (fun j r hj=>by simp at hj) .nil I4 (fun b hb=>?_) (hz.keep fun b o _ e=>o4 b o e) hS₅⟩
 ·subst hR
  refine⟨rfl,.ref s.heap.objs.size,upd H' s.heap.objs.size (.lst (Ts.map V.ref)),I'.trackF hf' ⟨by simpa using hl,Ts.map Value.ref,c,qR Ts,hS'⟩,rfl,hq rows Ts H' _ hr L hf'.1 hl⟩
 ·rcases ownZ_mem.mp hb with h|h
  ·exact hf b (by omega)
  ·exact hf b h.1
def Dp(K:PySem.W.Frag)(ta:TA):TE:=fun σ H Q=>ta σ H fun vs H1=>∃(a b:Addr) (xs ys:List V),vs=[.ref a,.ref b]/\SqL K H1 a xs/\SqL K H1 b ys/\FD [xs,ys] H1 Q
theorem sY{l l':Expr}{ta:TA}{p p' pos pos':Pos}(hc:X.calm=true)(hgl:Gl X "list")(hml:X.mg "list" = none)(hg:Gl X "zip")(hm:X.mg "zip" = none)(ha:PA X [l,l'] ta)
  (he:starEach [l,l'] X.env=(false,eval l X.env)::starEach [l'] X.env:=by rfl) (hpl:(backTo pos' (starEach [l'] X.env)).any (·.1)=false:=by rfl)
  (hs:starEach [.Call (.Name "zip" p') [l,l'] [] pos'] X.env=(false,eval (.Call (.Name "zip" p') [l,l'] [] pos') X.env)::starEach [] X.env:=by rfl) (hpl0:(backTo pos (starEach [] X.env)).any (·.1)=false:=by rfl) :
  PE X (.Call (.Name "list" p) [.Call (.Name "zip" p') [l,l'] [] pos'] [] pos) (Dp X.K ta):=by
 intro pins s σ H Q I h
 refine wpAny_Call_Name_kw (gw I hgl hml qS ?_ (by decide) (by decide))
 refine PyProof.Rows.callWith_type1 ?_ hs hpl0
 rw[hs]
 show wpAny _ _ (spliced ((false,eval (.Call (.Name "zip" p') [l,l'] [] pos') X.env)::backTo pos (starEach [] X.env))) _ _ s
 refine Calls.spliced_cons ?_
 refine wpAny_Call_Name_kw (gw I hg hm uB ?_ (by decide) (by decide))
 refine PyProof.Rows.callWith_type1 (thn (ha pos' pins s σ H _ I h) fun us s1 ⟨vs,H1,I1,r1,a,b,xs,ys,e,h1,h2,q⟩=>?_) he hpl
 subst e
 obtain⟨u,u',rfl,ru,ru'⟩:=r1.two
 cases ru
 cases ru'
 obtain⟨its,rv,pl,hz⟩:=I1.list h1
 obtain⟨its',rv',pl',hz'⟩:=I1.list h2
 have hv:SrcV [xs,ys] [(a,its.toArray),(b,its'.toArray)]:=⟨rfl,fun j zs p h1 h2=>by
  match j with
  |0=>simp at h1 h2;subst h1 h2;simpa using rv
  |1=>simp at h1 h2;subst h1 h2;simpa using rv'
  |j+2=>simp at h1⟩
 refine qX (tk:=fun _=>false) (p1:=(a,its.toArray)) (p2:=(b,its'.toArray)) pl.isList pl'.isList fun h' hz2 hz' hk=>?_
 have I2:Inv X pins σ H1 { s1 with heap:=h' }:=I1.kept (t':=s1.toks) hk
 have fp:∀b:Nat,s1.heap.objs.size <= b->FpOk X pins H1 b:=fun b hb=>I1.fpOk hb (I1.hok.fresh hb)
 refine Calls.spliced_nil ?_
 exact yx (X:=X) (I.ok.hd hc) (show 2 <= sizeLine by decide) hv (fun zs hx=>by simp only[zzi,zzR,or_false]at hx;rcases hx with rfl|rfl<;>assumption) I2 fp hz2 q
end
end L2
namespace DL
open PySem PySem.Spec PyProof.Rows L2
variable[TB]
variable[Frm]
section
variable{X:Cx}
abbrev Dq(t:DA):DA:=fun ρ Q=>t ρ fun ds ρ'=>match ds with
 |[.lst xs,.lst ys]=>Q (zipD xs ys) ρ'
 |_=>False
theorem yy{l l':Expr}{tl:DA}{p p' pos pos':Pos}(hc:X.calm=true)(hgl:Gl X "list")(hml:X.mg "list" = none)(hg:Gl X "zip")(hm:X.mg "zip" = none)(ha:PAD X [l,l'] tl)
  (he:starEach [l,l'] X.env=(false,eval l X.env)::starEach [l'] X.env:=by rfl) (hpl:(backTo pos' (starEach [l'] X.env)).any (·.1)=false:=by rfl)
  (hs:starEach [.Call (.Name "zip" p') [l,l'] [] pos'] X.env=(false,eval (.Call (.Name "zip" p') [l,l'] [] pos') X.env)::starEach [] X.env:=by rfl) (hpl0:(backTo pos (starEach [] X.env)).any (·.1)=false:=by rfl) :
  PLD X (.Call (.Name "list" p) [.Call (.Name "zip" p') [l,l'] [] pos'] [] pos) (Dq tl):=by
 obtain⟨T,pa,ra⟩:=ha.run
 refine⟨fun _ _ _ f h=>ha.mono _ _ _ (fun d _ h=>?_) h,_,sY hc hgl hml hg hm pa he hpl hs hpl0,fun {F} M H σ ρ Q rs h=>ra M H σ ρ _ rs (ha.mono _ _ _ (fun d ρ1 h M1 H1 v m1 rs1 r1=>?_) h)⟩
 ·split at h
  ·exact f _ _ h
  ·exact h.elim
 ·split at h
  case h_2=>exact h.elim
  rename_i xs ys
  simp only[Reps,Rep]at r1
  obtain⟨_,_,rfl,⟨a,us,rfl,_,_,ha1,ru⟩,_,_,rfl,⟨b,ws,rfl,_,_,hb1,rw'⟩,rfl⟩:=r1
  refine⟨a,b,us,ws,rfl,SqL.of ha1,SqL.of hb1,fun rows Ts H' l ho ld hn _=>?_⟩
  refine h M1 H' _ l _ (m1.trans (SameP.of (sP ld).1).mv) (rs1.sameP (SameP.of (sP ld).1)) hn rfl (xT (CW xs ys) rfl (fun j ds zs h1 h2=>?_) ho ld)
  match j with
  |0=>simp at h1 h2;subst h1 h2;exact ru
  |1=>simp at h1 h2;subst h1 h2;exact rw'
  |j+2=>simp at h1
end
end DL
namespace PySem
theorem qY:typeLookup (.type "tuple") "keys" = pure none:=by rw[typeLookup_type,builtinLookup_eq_fast];kernel_rfl
theorem iL:entryFor table "dict.update.loop" = some Builtin.«dict.update.loop»:=entryFor_of_tree (by kernel_rfl)
theorem cZ:plainId "dict.update.loop" = true:=by decide +kernel
section
variable{prog:Program}{w:World}{A:Around}{E:Value->Shared->Prop}{s:Shared}
theorem qZ{a:Addr}{o:Obj}{xs:Array Value}{k:Nat}{Q:Option Value->Shared->Prop}
  (hx:s.heap.get? a=some o) (hc:o.cls=.type "tuple") (hdat:o.data=.seq xs k) (hd:o.dict=none) (hA:A.handled=none)
  (h:∀h' tk e,Heap.NewExcOf s.heap h' e "AttributeError" -> Q none { s with heap:=h',toks:=tk }) :
  wpAny (model prog w) A (getAttr? (.ref a) "keys") Q E s:=by
 obtain⟨c,dct,dat,sl⟩:=o
 simp only at hc hdat hd
 subst hc hdat hd
 obtain⟨hp,g,d,tk,os⟩:=s
 have hT:∀tk',(⟨hp,g,d,tk',os⟩:Shared).TypeIs (.ref a) "tuple":=fun _=>⟨_,hx,rfl⟩
 have f1:=sub_AttributeError
 have f3:=F.slot_tuple_getattribute.lookup
 have f4:=F.slot_tuple_getattribute.bind (.ref a)
 have f5:=am_tuple_getattr_none
 unfold getAttr? getAttrBy? getAttrBy
 repeat (any_goals (first|assumption|exact hT _ | ((with_reducible show wpAny _ _ (call (Value.builtin "tuple.__getattribute__") _ _) _ _ _);refine call_meets F.slot_tuple_getattribute (hT _) am_entry_tuple_getattribute (F.args_tuple_getattribute_2 _ _) (meets_getattribute_miss_tuple a xs k sl "keys" _ qY (by decide)) ⟨hx,hA,fun h' tk' e hx'=>?_⟩)|wp_step))
 obtain⟨t',u',he⟩:=hx'.there
 show wpAny _ _ (getattributeRaised _ _ _ _ _ _ _) _ _ _
 unfold getattributeRaised
 repeat (any_goals (first|assumption|wp_step))
 exact h _ _ _ hx'.of
end
end PySem
namespace L2
open PySem PySem.Spec PyProof.Rows
abbrev lU:=List Key×Addr×Value×Addr
abbrev entQ(c:lU):List Key×Addr×Value:=(c.1,c.2.1,c.2.2.1)
def IsC(prog:Program)(w:World)(h:Heap)(c:lU):Prop:=(tupleKind (aP prog w)).is h c.1 c.2.1/\h.IsTuple c.2.2.2 #[.ref c.2.1,c.2.2.1]
section
variable{prog:Program}{w:World}{A:Around}{R:Result->Shared->Prop}{I:Addr}{fp wr:List Addr}{G:Array GenState->Array GenState->Prop}{n:Nat}{P:Nat->Value->Prop}{St:Nat->Shared->Prop}
theorem IsC.moved{h h':Heap}{c:lU}(x:IsC prog w h c)(k1:∀o,h.get? c.2.1=some o->h'.get? c.2.1=some o)(k2:∀o,h.get? c.2.2.2=some o->h'.get? c.2.2.2=some o):IsC prog w h' c:=by
 obtain⟨⟨o',items,m,e1,r⟩,x2⟩:=x
 exact⟨⟨o',items,m,k1 _ e1,r⟩,x2.at k2⟩
theorem jw{h h':Heap}{S:Addr}{cs:List lU}(x:h.DictOfH (tupleKind (aP prog w)) S (cs.map entQ))(k:∀o,h.get? S=some o->h'.get? S=some o)(k1:∀c∈cs,∀o,h.get? c.2.1=some o->h'.get? c.2.1=some o):h'.DictOfH (tupleKind (aP prog w)) S (cs.map entQ):=by
 obtain⟨o,es,ep,h1,h2,h3,h4,h5,h6⟩:=x
 refine⟨o,es,ep,k _ h1,h2,h3,h4,fun x hx=>?_,h6⟩
 obtain⟨o',items,m,e1,r⟩:=h5 x hx
 obtain⟨c,hc,rfl⟩:=zzb.mp hx
 exact⟨o',items,m,k1 c hc _ e1,r⟩
theorem yz(W:WalksS prog w A.in1 I fp wr G n P St)(S:Addr)(hSf:S∉fp)(hu:A.units+1<cLine){cs:List lU}(hn:cs.length=n)(hP:∀i v,P i v->∃c,cs[i]? = some c/\v=.ref c.2.2.2)(hwr:∀c∈cs,c.2.1∉S::wr/\c.2.2.2∉S::wr)(nd:(cs.map (·.1)).Nodup)(h60:n <= 1000) :
  ∀(k i:Nat) (s:Shared),n - i=k->i <= n->St i s->(∀c∈cs,IsC prog w s.heap c)->s.heap.DictOfH (tupleKind (aP prog w)) S ((cs.take i).map entQ) ->
   (∀s',Moved (S::wr) G s s'->s'.heap.DictOfH (tupleKind (aP prog w)) S (cs.map entQ)->R (.ok (.ret .none)) s') ->
   codeAny (model prog w) A (.builtin "dict.update.loop" ⟨[.ref S,.ref I,.int i 0,.none],[]⟩) R s:=by
 have hSw:S∉wr:=fun h=>hSf (W.sub _ h)
 have hsub:∀b∈wr,b∈S::wr:=fun b hb=>zzc _ hb
 have w1:∀c∈cs,c.2.1∉wr/\c.2.2.2∉wr:=fun c hc=>⟨fun z=>(hwr c hc).1 (hsub _ z),fun z=>(hwr c hc).2 (hsub _ z)⟩
 have w2:∀c∈cs,c.2.1≠S/\c.2.2.2≠S:=fun c hc=>⟨fun z=>(hwr c hc).1 (by rw[z];exact zzd),fun z=>(hwr c hc).2 (by rw[z];exact zzd)⟩
 intro k
 induction k with
 |zero =>
  intro i s hk hi hst hK hS hR
  have hin:i=n:=by omega
  subst hin
  refine codeAny_builtin iL ?_
  rw[Around.under_plainId cZ _]
  show wpAny _ A.in1 (pyNext (.ref I) >>= _) _ _ s
  refine wpAny_bind (W.done s _ _ hst fun s' hm=>?_)
  show wpAny _ A.in1 (Builtin.Dict.addKeywords S [] >>= fun _=>ret Value.none) _ _ s'
  refine wpAny_bind (wpAny_pure (wpAny_pure (hR s' (hm.mono hsub) ?_)))
  rw[zyY (by omega)]at hS
  exact jw hS (fun o e=>hm.heap S o hSw e) fun c hc o e=>hm.heap _ o (w1 c hc).1 e
 |succ k ih =>
  intro i s hk hi hst hK hS hR
  have hlt:i<n:=by omega
  refine codeAny_builtin iL ?_
  rw[Around.under_plainId cZ _]
  show wpAny _ A.in1 (pyNext (.ref I) >>= _) _ _ s
  refine wpAny_bind (W.item i s _ _ hlt hst fun v s' hPv hst' hm=>?_)
  obtain⟨c,hc,rfl⟩:=hP i v hPv
  have cm:=zzH hc
  have hK':∀c∈cs,IsC prog w s'.heap c:=fun c hc=>(hK c hc).moved (fun o e=>hm.heap _ o (w1 c hc).1 e) fun o e=>hm.heap _ o (w1 c hc).2 e
  have hS':s'.heap.DictOfH (tupleKind (aP prog w)) S ((cs.take i).map entQ):=jw hS (fun o e=>hm.heap S o hSw e) fun c hc o e=>hm.heap _ o (w1 c (List.mem_of_mem_take hc)).1 e
  obtain⟨kc,op,hop,hcp,np,hdp⟩:=hK' c cm
  have hT:s'.TypeIs (.ref c.2.2.2) "tuple":=⟨op,hop,hcp⟩
  have hnk:∀(j:Nat) (p:Addr×Value),((cs.take i).map entQ)[j]? ≠ some (c.1,p):=fun j p z=>by
   rw[zzn]at z
   obtain⟨c',e1,e2⟩:=zyB.mp z
   rw[List.getElem?_take]at e1
   split at e1
   case isFalse=>cases e1
   rename_i hj
   have e3:c'.1=c.1:=congrArg (fun x:List Key×Addr×Value=>x.1) e2
   have hj':j<(cs.map (·.1)).length:=by rw[zza,hn];omega
   have hi':i<(cs.map (·.1)).length:=by rw[zza,hn];exact hlt
   have g1:(cs.map (·.1))[j]=(cs.map (·.1))[i]:=by
    rw[List.getElem_map,List.getElem_map,(zzt.mp e1).2,(zzt.mp hc).2,e3]
   have:=(zyQ nd).mp g1
   omega
  have hst2:storedH ((cs.take i).map entQ) c.1 c.2.1 c.2.2.1=(cs.take (i+1)).map entQ:=by
   rw[storedH_new (atKey_none_of_get hnk),List.take_add_one,hc]
   simp
  refine wpAny_bind (wpAny_holding ?_)
  refine wpAny_bind (wpAny_tryCatch ?_)
  unfold Builtin.Dict.pairItems
  refine wpAny_bind (wpAny_typeOf hT ?_)
  rw[if_pos (by decide)]
  refine wpAny_bind (wpAny_seqItems hop hdp ?_)
  refine wpAny_pure ?_
  show wpAny _ _ (holding [Value.ref c.2.1,c.2.2.1] (dictSet S (Value.ref c.2.1) c.2.2.1)) _ _ _
  refine wpAny_holding ?_
  refine wpAny_dictSet_heap (tupleKind_room_in1 hu) kc hS' (fun h' hd' sb=>?_) (by rw[zza,zyF];exact zzk (show min i cs.length <= 1000 by omega) (by decide))
  rw[hst2]at hd'
  refine wpAny_pure ⟨plainId_quiet cZ _,ih (i+1) _ (by omega) hlt (W.frame _ s' _ _ hst' (Nat.le_add_right _ _) fun b hb o e=>?_) (fun y hy=>(hK' y hy).moved (fun o e=>?_) fun o e=>?_) hd' fun s'' hm'' hS''=>?_⟩
  ·rw[sb.2 b (fun h:b=S=>hSf (by rw[←h];exact hb))];exact e
  ·rw[sb.2 _ (w2 y hy).1];exact e
  ·rw[sb.2 _ (w2 y hy).2];exact e
  ·refine hR s'' (Moved.trans W.gtrans ((hm.mono hsub).then_heap (Nat.le_add_right _ _) fun b o hb e=>?_) hm'') hS''
   rw[sb.2 b (fun h:b=S=>hb (by rw[h];exact zzd))];exact e
end
section
variable{prog:Program}{w:World}{A:Around}{E:Value->Shared->Prop}{s:Shared}
theorem sZ{t:Addr}{o:Obj}{items:Array Value}{nn:Nat}{cs:List lU}{Q:Value->Shared->Prop}(hu:A.units+16<cLine)(hh:A.handled=none)(ho:s.heap.get? t=some o)(hc:o.cls=.type "tuple")(hd:o.data=.seq items nn)(hdn:o.dict=none)
  (hi:items.toList=cs.map fun c=>Value.ref c.2.2.2) (hK:∀c∈cs,IsC prog w s.heap c) (nd:(cs.map (·.1)).Nodup) (h60:cs.length <= 1000)
  (h:∀(h':Heap) (tk:Nat),h'.DictOfH (tupleKind (aP prog w)) s.heap.objs.size (cs.map entQ)->(∀b o,s.heap.get? b=some o->h'.get? b=some o)->Q (.ref s.heap.objs.size) { s with heap:=h',toks:=tk }) :
  wpAny (model prog w) A (call (.type "dict") [.ref t]) Q E s:=by
 have isz:items.size=cs.length:=by rw[←zyE,hi,zza]
 refine callType_codes (Q₁:=fun obj s₁=>obj=.ref s.heap.objs.size/\s₁={ s with heap:=s.heap.push { cls:=.type "dict",data:=.dict #[] } }) F.kt_called_dict (F.kt_typeCall_dict_1 _) F.entry_dict_init (kt_code_dict_new _ ⟨rfl,rfl⟩) ?_
 rintro obj s₁ ⟨rfl,rfl⟩
 have hnew:(s.heap.push { cls:=.type "dict",data:=.dict #[] }).DictOfH (tupleKind (aP prog w)) s.heap.objs.size []:=Heap.DictOfH.new s.heap
 have ho1:(s.heap.push { cls:=.type "dict",data:=.dict #[] }).get? t=some o:=zzf _ ho
 have hT:Shared.TypeIs { s with heap:=s.heap.push { cls:=.type "dict",data:=.dict #[] } } (.ref t) "tuple":=⟨o,ho1,hc⟩
 have hts:t<s.heap.objs.size:=zzq ho
 refine⟨hnew.typeIs,F.args_dict_init_2 _ _,?_⟩
 generalize hR:(wants (fun r s₂=>r=Value.none/\Q (.ref s.heap.objs.size) s₂) E)=R
 unfold Builtin.«dict.__init__»
 refine wpAny_bind ?_
 unfold Builtin.Dict.selfAndRest
 refine wpAny_bind (wpAny_notOrdered_dict hnew.typeIs ?_)
 show wpAny _ _ (pure (s.heap.objs.size,[Value.ref t])) _ _ _
 refine wpAny_pure ?_
 show wpAny _ _ (Builtin.Dict.updateFrom "dict.__init__" s.heap.objs.size (.ref t) [] .none) _ _ _
 unfold Builtin.Dict.updateFrom
 refine wpAny_bind (wpAny_typeOf hT ?_)
 rw[if_pos (by decide)]
 refine wpAny_bind (qZ ho1 hc hd hdn (by simp[hh]) fun h1 tk1 e ne=>?_)
 rw[if_pos (show (none:Option Value).isNone=true from rfl)]
 refine wpAny_bind (wpAny_rule ?_)
 have ho2:h1.get? t=some o:=ne.keeps _ _ ho1
 refine wpAny_bind (wpAny_pyIter_tuple (s:={ s with heap:=h1,toks:=tk1 }) ⟨o,ho2,hc,nn,hd⟩ ?_)
 have hne:t≠h1.objs.size:=zzA (zzq ho2)
 obtain⟨oS,eS,pS,hS1,hS2⟩:=ne.keeps |> fun k=>(show ∃o es ep,h1.get? s.heap.objs.size=some o/\True from let ⟨o,es,ep,e,_⟩:=hnew;⟨o,es,ep,k _ _ e,trivial⟩)
 have hSl:s.heap.objs.size<h1.objs.size:=zzq hS1
 have hval:∀(i:Nat) (v:Value),items[i]? = some v->∃c,cs[i]? = some c/\v=.ref c.2.2.2:=fun i v hv=>by
  rw[←zyl,hi,zzn]at hv
  obtain⟨c,hx,rfl⟩:=zyB.mp hv
  exact⟨c,hx,rfl⟩
 have clt:∀c∈cs,c.2.1<s.heap.objs.size/\c.2.2.2<s.heap.objs.size:=fun c hc=>by
  obtain⟨⟨o',its,m,k1,_⟩,o2,k2,_⟩:=hK c hc
  exact⟨zzq k1,zzq k2⟩
 have kp:∀b o,s.heap.get? b=some o->(h1.push { cls:=.type "tuple_iterator",data:=.fields #[.ref t,.int 0 0] }).get? b=some o:=fun b o e=>zzf _ (ne.keeps _ _ (zzf _ e))
 have hnew1:(h1.push { cls:=.type "tuple_iterator",data:=.fields #[.ref t,.int 0 0] }).DictOfH (tupleKind (aP prog w)) s.heap.objs.size (([]:List lU).map entQ):=jw (cs:=[]) hnew (fun o e=>zzf _ (ne.keeps _ _ e)) fun c hc=>by simp at hc
 refine wpAny_pure ⟨plainId_quiet cZ _,yz (A:=A.in1) (R:=R) ((Walks.tuple (A:=A.in1.in1) (by simp[hh]) h1.objs.size t hne items).toS) s.heap.objs.size ?hf (by show A.units+1+1<cLine;omega) isz.symm hval (fun c hc=>?hw) nd (by omega) (items.size - 0) 0 _ (by omega) (zzG _) ⟨⟨_,zzs _ rfl,rfl,rfl⟩,⟨o,zzf _ ho2,hc,nn,hd⟩⟩ (fun c hc=>(hK c hc).moved (fun o e=>kp _ o e) fun o e=>kp _ o e) hnew1 ?hR⟩
 case hf =>
  simp only[zzi,zzR,or_false,not_or]
  exact⟨zzA hSl,zyA hts⟩
 case hw =>
  have:=clt c hc
  simp only[zzi,zzR,or_false,not_or]
  exact⟨⟨zzA this.1,zzA (Nat.lt_trans this.1 hSl)⟩,⟨zzA this.2,zzA (Nat.lt_trans this.2 hSl)⟩⟩
 case hR =>
  intro s' hm hS'
  subst hR
  obtain⟨h',g',d',tk',os'⟩:=s'
  have eg:g'=s.gens:=hm.gens
  have ed:d'=s.drawn:=hm.drawn
  have eo:os'=s.os:=hm.os
  subst eg;subst ed;subst eo
  refine⟨rfl,h h' tk' hS' fun b o e=>?_⟩
  have hb:=zzq e
  refine hm.heap b o ?_ (kp b o e)
  simp only[zzi,zzR,or_false,not_or]
  exact⟨zzA hb,zzA (Nat.lt_trans hb hSl)⟩
end
abbrev wm:=List Key×Addr×V×Addr
abbrev relQ(q:wm)(c:lU):Prop:=q.1=c.1/\q.2.1=c.2.1/\RelV q.2.2.1 c.2.2.1/\q.2.2.2=c.2.2.2
section
variable{X:Cx}
theorem uV{P:Program}{w:World}{H:Hp}{h:Heap}(ok:HOk P w H h):∀(qs:List wm),(∀q∈qs,H q.2.2.2=some (.tup [.ref q.2.1,q.2.2.1])/\H q.2.1=some (.tup (q.1.map kV)))->∃cs:List lU,Paired relQ qs cs/\∀c∈cs,IsC P w h c
 |[],_=>⟨[],.nil,fun c hc=>by simp at hc⟩
 |q::qs,hq=>by
  obtain⟨cs,p,r⟩:=uV ok qs fun q hq'=>hq q (zzc _ hq')
  obtain⟨h1,h2⟩:=hq q zzd
  obtain⟨_,its,rv,it⟩:=(show ObjOk P w H h q.2.2.2 (.tup [.ref q.2.1,q.2.2.1]) from ok _ _ h1)
  obtain⟨u,u',rfl,ru,ru'⟩:=rv.two
  cases ru
  refine⟨(q.1,q.2.1,u',q.2.2.2)::cs,.cons ⟨rfl,rfl,ru',rfl⟩ p,fun c hc=>?_⟩
  rcases zzi.mp hc with rfl|hc
  ·exact⟨nC ok h2,it⟩
  ·exact r c hc
theorem lV{α β γ:Type}{F:α->β->Prop}{f:α->γ}{g:β->γ}(h:∀a b,F a b->f a=g b):∀{l:List α}{m:List β},Paired F l m->l.map f=m.map g
 |_,_,.nil=>rfl
 |_,_,.cons r t=>by rw[zze,zze,h _ _ r,lV h t]
theorem wn(hr:X.A.units+16<cLine)(hc:X.calm=true):dO X (.type "dict") (fun vs H Q=>∃(t:Addr) (qs:List wm),vs=[.ref t]/\H t=some (.tup (qs.map fun q=>.ref q.2.2.2))/\(∀q∈qs,H q.2.2.2=some (.tup [.ref q.2.1,q.2.2.1])/\H q.2.1=some (.tup (q.1.map kV)))/\(qs.map (·.1)).Nodup/\qs.length <= 1000 /\
  ∀a,H a=none->Q (.ref a) (upd H a (.dT (qs.map fun q=>(q.1,q.2.2.1))))):=by
 intro pins s σ H vs us Q I r h
 obtain⟨t,qs,rfl,e,hq,nd,h60,q⟩:=h
 obtain⟨u,rfl,e2⟩:=kw r
 cases e2
 obtain⟨⟨z,ndc⟩,its,rv,o,ho,hcl,nn,hd⟩:=(show ObjOk X.prog X.w H s.heap t (.tup (qs.map fun q=>.ref q.2.2.2)) from I.hok t _ e)
 have hdn:o.dict=none:=by
  rcases ndc with ⟨o',e1,e2⟩|⟨i,x,e1⟩
  ·rw[ho]at e1
   cases e1
   exact e2
  ·cases qs with
   |nil=>simp at e1
   |cons q qs=>simp at e1
 obtain⟨cs,pc,hC⟩:=uV I.hok qs hq
 have hit:its=cs.map fun c=>Value.ref c.2.2.2:=by
  have:∀{qs:List wm}{cs:List lU}{us:List Value},Paired relQ qs cs->Vals (qs.map fun q=>V.ref q.2.2.2) us->us=cs.map fun c=>Value.ref c.2.2.2:=fun {qs cs us} p=>by
   induction p generalizing us with
   |nil=>intro h;cases h;rfl
   |cons r t ih =>
    intro h
    cases h with
    |cons h1 h2=>rw[ih h2];cases h1;rw[zze,r.2.2.2]
  exact this pc rv
 have ek:qs.map (·.1)=cs.map (·.1):=lV (fun a b r=>r.1) pc
 have el:qs.length=cs.length:=by have:=congrArg List.length ek;rwa [zza,zza]at this
 refine sZ hr (I.ok.hd hc) ho hcl hd hdn (by rw[zyz];exact hit) hC (by rw[←ek];exact nd) (by omega) fun h' tk hD kp=>?_
 obtain⟨o',es,ep,d1,d2,d3,d4,d5,d6⟩:=hD
 have hf:=I.hok.fresh (zzj s.heap.objs.size)
 have key:Paired (fun(p:List Key×V) (q:List Key×Addr×Value)=>p.1=q.1/\upd H s.heap.objs.size (.dT (qs.map fun q=>(q.1,q.2.2.1))) q.2.1=some (.tup (p.1.map kV))/\RelV p.2 q.2.2) (qs.map fun q=>(q.1,q.2.2.1)) (cs.map entQ):=by
  have:∀{l:List wm}{m:List lU},Paired relQ l m->(∀q∈l,H q.2.1=some (.tup (q.1.map kV)))->Paired (fun(p:List Key×V) (q:List Key×Addr×Value)=>p.1=q.1/\upd H s.heap.objs.size (.dT (qs.map fun q=>(q.1,q.2.2.1))) q.2.1=some (.tup (p.1.map kV))/\RelV p.2 q.2.2) (l.map fun q=>(q.1,q.2.2.1)) (m.map entQ):=fun {l m} p=>by
   induction p with
   |nil=>intro _;exact .nil
   |@cons a b l m r t ih =>
    intro hl
    refine .cons ⟨r.1,?_,r.2.2.1⟩ (ih fun q hq=>hl q (zzc _ hq))
    have ha:=hl a zzd
    show upd H _ _ b.2.1=_
    rw[←r.2.1,aq (bL ha hf)]
    exact ha
  exact this pc fun q hq'=>(hq q hq').2
 exact⟨.ref s.heap.objs.size,_,I.laid (o:=.dT (qs.map fun q=>(q.1,q.2.2.1))) (fun b u e=>kp b u e) (zzj _) ⟨by rw[zza];exact zzk h60 (by decide),by have:=I.big;exact beq_eq_false_iff_ne.mpr (zyA this),cs.map entQ,key,o',es,ep,d1,d2,d3,d4,d6⟩,rfl,q _ hf⟩
end
end L2
namespace DL
open PySem PySem.Spec L2
open PyProof.Rows hiding St
variable[TB]
variable[Frm]
section
variable{X:Cx}
omit [Frm] in
theorem nQ{K:PySem.W.Frag}{pp:Option Addr}{M:List Addr}{H:Hp}:∀{kds:List (List Key×D)}{vs:List V},Reps K pp M H (kds.map fun p=>.tup [keyD p.1,p.2]) vs->∃qs:List wm,qs.map (·.1)=kds.map (·.1)/\vs=qs.map (fun q=>V.ref q.2.2.2)/\(∀q∈qs,H q.2.2.2=some (.tup [.ref q.2.1,q.2.2.1])/\H q.2.1=some (.tup (q.1.map kV)))/\Reps K pp M H (kds.map (·.2)) (qs.map fun q=>q.2.2.1)
 |[],vs,h=>by
  simp only[zzS,Reps]at h
  exact⟨[],rfl,h,fun q hq=>by simp at hq,by simp only[zzS,Reps]⟩
 |p::kds,vs,h=>by
  simp only[zze,Reps]at h
  obtain⟨v,r,rfl,h1,h2⟩:=h
  obtain⟨qs,e1,rfl,e3,e4⟩:=nQ h2
  simp only[Rep]at h1
  obtain⟨b,ys,rfl,hb,ry⟩:=h1
  simp only[Reps]at ry
  obtain⟨x1,r1,rfl,hx1,x2,r2,rfl,hx2,rfl⟩:=ry
  simp only[keyD,Rep]at hx1
  obtain⟨c,zs,rfl,hc,rz⟩:=hx1
  rw[iJ rz]at hc
  refine⟨(p.1,c,x2,b)::qs,by rw[zze,zze,e1],rfl,fun q hq=>?_,?_⟩
  ·rcases zzi.mp hq with rfl|hq
   ·exact⟨hb,hc⟩
   ·exact e3 q hq
  ·simp only[zze,Reps]
   exact⟨_,_,rfl,hx2,e4⟩
abbrev FU(te:DE):DE:=fun ρ Q=>te ρ fun d ρ'=>∃kds:List (List Key×D),d=.tup (kds.map fun p=>.tup [keyD p.1,p.2])/\(kds.map (·.1)).Nodup/\kds.length <= 1000/\Q (.dT (kds.map (·.1)) (kds.map (·.2))) ρ'
theorem Au{n:Nat}{e:Expr}{te:DE}{p pos:Pos}(hr:Room n X.A)(hc:X.calm=true)(hg:Gl X "dict")(hm:X.mg "dict" = none)(he:PED X e te)
  (h1:starEach [e] X.env=(false,eval e X.env)::starEach [] X.env:=by rfl) (hp:(backTo pos (starEach [] X.env)).any (·.1)=false:=by rfl) :
  PED X (.Call (.Name "dict" p) [e] [] pos) (FU te):=by
 obtain⟨T,pe,re⟩:=he.run
 have hu:X.A.units+16<cLine:=by have:=hr.units;omega
 refine⟨fun ρ P P' f h=>he.mono _ _ _ (fun d ρ1 ⟨kds,e1,e2,e3,h⟩=>⟨kds,e1,e2,e3,f _ _ h⟩) h,_,ir (he:=h1) (hpl:=hp) (wn hu hc) hg hm rfl (bD pe cT h1),fun {F} M H σ ρ Q rs h=>?_⟩
 refine re M H σ ρ _ rs (he.mono _ _ _ (fun d ρ1 h M1 H1 v m1 rs1 r1=>?_) h)
 obtain⟨kds,rfl,nd,l,h9⟩:=h
 simp only[Rep]at r1
 obtain⟨a,vs,rfl,ha,rr⟩:=r1
 obtain⟨qs,e1,rfl,e3,e4⟩:=nQ rr
 have el:qs.length=kds.length:=by have:=congrArg List.length e1;rwa [zza,zza]at this
 refine⟨a,qs,rfl,ha,e3,by rw[e1];exact nd,by omega,fun b hb=>?_⟩
 have s1:SameP X.K F.pp H1 (upd H1 b (.dT (qs.map fun q=>(q.1,q.2.2.1)))):=.new hb
 have fr:=rs1.liv.fresh hb
 refine h9 M1 _ _ (m1.trans s1.mv) (rs1.sameP s1) ?_
 simp only[Rep]
 refine⟨b,_,rfl,fr.1,fr.2,ak,by rw[zzh,←e1];rfl,?_⟩
 rw[zzh]
 exact e4.mv s1.mv
end
end DL
namespace L2
open PySem PySem.Spec PyProof.Rows PySem.W
def KeyC(h:Heap)(k:List Key)(v:Value):Prop:=∃a o xs m u c,v=.ref a/\h.get? a=some o/\o.cls=.type "tuple" /\ o.data=.seq xs m/\xs.toList=[u,Value.ref c]/\TupI h k u
theorem KeyC.keep{h h':Heap}{k:List Key}{v:Value}{a:Addr}{xs:Array Value}{n:Nat}(t:KeyC h k v)(ha:h.get? a=some (seqObj "list" xs n))(kp:∀b o,b≠a->h.get? b=some o->h'.get? b=some o):KeyC h' k v:=by
 obtain⟨b,o,ys,m,u,c,rfl,e,cl,d,p,t⟩:=t
 refine⟨b,o,ys,m,u,c,rfl,kp b o ?_ e,cl,d,p,t.keep ha kp⟩
 rintro rfl
 rw[ha]at e
 cases e
 simp[seqObj]at cl
theorem gH{h:Heap}:∀{ks:List (List Key)}{vs:List Value},Paired (KeyC h) ks vs->∀i,i<ks.length->KeyC h (ks.getD i []) (vs.getD i Value.none)
 |_,_,.nil,i,hi=>absurd hi (zyf i)
 |_,_,.cons h1 _,0,_=>h1
 |_,_,.cons _ r,i+1,hi=>gH r i (Nat.lt_of_succ_lt_succ hi)
theorem uW{h:Heap}:∀{ks:List (List Key)}{vs:List Value},Paired (KeyC h) ks vs->∃fs,KatTups h vs fs/\fs.length=vs.length/\∀v∈fs,∃b o,v=Value.ref b/\h.get? b=some o/\o.cls=.type "tuple"
 |_,_,.nil=>⟨[],.nil,rfl,fun v hv=>by simp at hv⟩
 |k::ks,v::vs,.cons h1 r=>by
  obtain⟨fs,h2,h3,h4⟩:=uW r
  obtain⟨a,o,xs,n,u,c,rfl,e,cl,d,ex,b,ob,ys,m,rfl,eb,cb,_⟩:=h1
  refine⟨.ref b::fs,KatTups.cons e cl d ?_ h2,by simp[h3],fun v hv=>?_⟩
  ·rw[←zyl,ex]
   rfl
  ·rcases zzi.mp hv with rfl|hv
   ·exact⟨_,_,rfl,eb,cb⟩
   ·exact h4 v hv
section
variable{prog:Program}{w:World}{A:Around}{E:Value->Shared->Prop}{s:Shared}{Q:Bool->Shared->Prop}
theorem Dr{c:Addr}(q:Q true s):wpAny (model prog w) A (eqBool (.ref c) (.ref c)) Q E s:=by
 unfold eqBool
 refine wpAny_holding ?_
 rw[if_pos (by simp)]
 exact wpAny_bind (wpAny_rule (wpAny_pure q))
theorem Ds(hu:A.units<cLine){k1 k2:List Key}{v1 v2:Value}(h1:KeyC s.heap k1 v1)(h2:KeyC s.heap k2 v2)(same:k1=k2->v1=v2)(q:Q (lexI k1 k2) s):wpAny (model prog w) A (keyLt' (tuples' false) v1 v2) Q E s:=by
 obtain⟨x,ox,xs,n,u1,c1,rfl,hx,_,dx,ex,t1⟩:=h1
 obtain⟨y,oy,ys,m,u2,c2,rfl,hy,_,dy,ey,t2⟩:=h2
 refine kat_lt hx dx hy dy ?_
 by_cases z:k1=k2
 ·have sm:=same z
  cases sm
  rw[hx]at hy
  cases hy
  rw[dx]at dy
  cases dy
  rw[ex]at ey
  cases ey
  rw[ex]
  refine kat_cons (yt hu t1 t1 ?_)
  rw[decide_eq_true rfl]
  refine kat_yes (kat_cons (Dr ?_))
  refine kat_yes (kat_nil ?_)
  subst z
  rw[yr]at q
  rw[decide_eq_false (zyi _)]
  exact q
 ·rw[ex,ey]
  refine kat_cons (yt hu t1 t2 ?_)
  rw[decide_eq_false z]
  exact kat_no (kat_one _ _ (Do hu t1 t2 q))
end
section
variable{prog:Program}{w:World}{A:Around}{E:Value->Shared->Prop}{s:Shared}
theorem wo{a:Addr}{vs:List Value}{ks:List (List Key)}{n:Nat}{P:PySem.Fin->Shared->Prop}(ho:s.heap.get? a=some (seqObj "list" vs.toArray n))(hu:A.units<cLine)(hp:Paired (KeyC s.heap) ks vs)(nd:ks.Nodup)(h64:vs.length<64)
  (q:∀(h':Heap) (out:List Value) (c:Nat),(∀b o,b≠a->s.heap.get? b=some o->h'.get? b=some o)->h'.get? a=some (seqObj "list" out.toArray c)->(∀R:List Key->Value->Prop,Paired R ks vs->Paired R (srtK ks) out)->P (.done (.ret .none)) { s with heap:=h' }) :
  wpAny (model prog w) A (Builtin.«list.sort» ⟨[.ref a],[]⟩) P E s:=by
 have hl:=gh hp
 have ha:a<s.heap.objs.size:=zzq ho
 have sb:=zzX s.heap a (Obj.mapSeq fun _=>(#[]:Array Value))
 obtain⟨e1,ho1⟩:∃e1,(s.heap.update a (Obj.mapSeq fun _=>(#[]:Array Value))).get? a=some (seqObj "list" #[] e1):=⟨_,get?_update_seq ho fun _=>#[]⟩
 rw[list_sort_plain]
 refine wpAny_bind (listItems_at ho rfl (wpAny_bind (listUpdate_at ho rfl ?_ (by rw[zzr,sizeLine_eq];omega) (zzG _))))
 refine wpAny_bind (seqEpoch_at ho1 rfl (wpAny_bind (wpAny_newTuple ?_ (by show vs.length <= _;rw[sizeLine_eq];omega))))
 refine wpAny_bind (wpAny_newList (wpAny_holding ?_) (zzG _))
 show wpAny (model prog w) A _ P E { s with heap:=((s.heap.update a (Obj.mapSeq fun _=>(#[]:Array Value))).push (seqObj "tuple" vs.toArray 0)).push (seqObj "list" #[] 0) }
 have kp:∀b o,b≠a->s.heap.get? b=some o->(((s.heap.update a (Obj.mapSeq fun _=>(#[]:Array Value))).push (seqObj "tuple" vs.toArray 0)).push (seqObj "list" #[] 0)).get? b=some o:=fun b o hb e =>
  zzf _ (zzf _ ((sb.2 b hb).trans e))
 have ho3:(((s.heap.update a (Obj.mapSeq fun _=>(#[]:Array Value))).push (seqObj "tuple" vs.toArray 0)).push (seqObj "list" #[] 0)).get? a=some (seqObj "list" #[] e1):=zzf _ (zzf _ ho1)
 generalize ((s.heap.update a (Obj.mapSeq fun _=>(#[]:Array Value))).push (seqObj "tuple" vs.toArray 0)).push (seqObj "list" #[] 0)=h3 at kp ho3
 have hp3:Paired (KeyC h3) ks vs:=eN hp fun k v t=>t.keep ho kp
 dsimp only
 have fin:∀(st:SortSt) (out:List Value),(arrOf st).map (·.2)=out.toArray->failedOf st=none->out.length<64->(∀R:List Key->Value->Prop,Paired R ks vs->Paired R (srtK ks) out) ->
   wpAny (model prog w) A (do
    let touched:=(←seqEpoch a) != e1
    Builtin.List.listUpdate (.ref a) fun _=>(arrOf st).map (·.2)
    if let some e:=failedOf st then rule "list.sort.comparison-raised";throw e
    if touched then rule "list.sort.modified";raiseError "ValueError" "list modified during sort"
    ret .none) P E { s with heap:=h3 }:=by
  intro st out e f hz hR
  rw[e,f]
  refine wpAny_bind (seqEpoch_at ho3 rfl ?_)
  refine wpAny_bind (listUpdate_at ho3 rfl ?_ (zzG _) (by show out.toArray.size <= _;rw[zzr,sizeLine_eq];omega))
  simp only[bne_self_eq_false,zyv,if_false]
  refine wpAny_pure (q _ out _ (fun b o hb e=>?_) (get?_update_seq ho3 fun _=>out.toArray) hR)
  exact((zzX h3 a (Obj.mapSeq fun _=>out.toArray)).2 b hb).trans (kp b o hb e)
 by_cases h2:vs.length<2
 ·have hz:vs.toArray.size<2:=by rw[zzr];exact h2
  rw[if_pos hz,if_pos hz]
  refine wpAny_bind (wpAny_pure (wpAny_bind (wpAny_pure ?_)))
  refine fin _ vs ?_ rfl h64 fun R hR=>?_
  ·show (vs.toArray.zip vs.toArray).map (·.2)=vs.toArray
   apply Array.toList_inj.mp
   simp[List.map_snd_zip]
  ·unfold srtK
   rw[if_pos (by omega)]
   exact hR
 ·have hz:¬vs.toArray.size<2:=by rw[zzr];exact h2
  have same:∀i j,i<ks.length->j<ks.length->ks.getD i []=ks.getD j []->i=j:=fun i j hi hj z=>by
   have e1:ks.getD i []=ks[i]:=by simp[hi]
   have e2:ks.getD j []=ks[j]:=by simp[hj]
   rw[e1,e2]at z
   exact(zyQ nd).mp z
  rw[if_neg hz,if_neg hz]
  obtain⟨fs,t1,t2,t3⟩:=uW hp3
  refine wpAny_bind (kat_kind (s:={ s with heap:=h3 }) (T:=.type "tuple") t1 (by omega) (fun v hv=>?_) (by decide) ?_)
  ·obtain⟨b,o,rfl,hb,hc⟩:=t3 v hv
   exact fun A Q E s k q=>wpAny_typeOf ⟨o,k _ _ hb,hc⟩ q
  ·refine wpAny_bind (wpAny_mono (kat_run (Q:=fun st' s'=>s'={ s with heap:=h3 }/\(arrOf st').map (·.2)=List.toArray ((kRun (fun i j=>lexI (ks.getD i []) (ks.getD j [])) (kas_sort ks.length)).toList.map fun i=>vs.getD i Value.none)/\failedOf st'=none) (G:=fun p s'=>s'={ s with heap:=h3 }/\p=kRun (fun i j=>lexI (ks.getD i []) (ks.getD j [])) (kas_sort ks.length)) rfl (by omega) h64 (fun p st' s' a1 a2 a3 a4=>?_) ?_) (fun r s' hq=>?_) fun _ _ x=>x)
   ·obtain⟨rfl,rfl⟩:=a4
    exact⟨rfl,kat_snds rfl a2,a3⟩
   ·rw[←hl]
    refine KGood.wp (N:=ks.length) (P:=PmN ks.length) (fun i j C hi hj hC=>?_) _ _ (cq (by omega)) ⟨rfl,rfl⟩
    show wpAny (model prog w) A (keyLt' _ (vs.getD i Value.none) (vs.getD j Value.none)) C (fun _ _=>False) _
    exact Ds (s:={ s with heap:=h3 }) hu (gH hp3 i hi) (gH hp3 j hj) (fun z=>by rw[same i j hi hj z]) hC
   ·obtain⟨⟨⟩,st'⟩:=r
    obtain⟨rfl,e,f⟩:=hq
    refine fin st' _ e f ?_ fun R hR=>?_
    ·have:=(KGood.end (fun i j=>lexI (ks.getD i []) (ks.getD j [])) _ (cq (N:=ks.length) (by omega))).length_eq
     rw[zzJ]at this
     rw[zza,this,hl]
     exact h64
    ·unfold srtK
     rw[if_neg (by omega)]
     refine gG hR _ fun i hi=>?_
     have:=KGood.end (fun i j=>lexI (ks.getD i []) (ks.getD j [])) _ (cq (N:=ks.length) (by omega))
     exact zzy.mp (this.mem_iff.mp hi)
end
abbrev nu:=List Key×Addr×Addr×Addr
section
variable{X:Cx}
theorem nR{qs:List nu}:∀{ks:List (List Key)}{out:List Value},Paired (fun k v=>∃q∈qs,q.1=k/\v=Value.ref q.2.2.2) ks out->∃ws:List nu,(∀w∈ws,w∈qs)/\ws.map (·.1)=ks/\out=ws.map fun w=>Value.ref w.2.2.2
 |_,_,.nil=>⟨[],fun w hw=>by simp at hw,rfl,rfl⟩
 |_,_,.cons ⟨q,hq,e1,e2⟩ r=>by
  obtain⟨ws,h1,h2,h3⟩:=nR r
  refine⟨q::ws,fun w hw=>?_,by rw[zze,e1,h2],by rw[zze,e2,h3]⟩
  rcases zzi.mp hw with rfl|hw
  ·exact hq
  ·exact h1 w hw
theorem nS{α:Type}{f:α->Addr}:∀{qs:List α}{us:List Value},Vals (qs.map fun q=>V.ref (f q)) us->us=qs.map fun q=>Value.ref (f q)
 |[],us,h=>by cases h;rfl
 |q::qs,_,h=>by
  cases h with
  |cons r rs=>cases r;rw[nS rs];rfl
theorem nT{α:Type}(f:α->Addr):∀(qs:List α),Vals (qs.map fun q=>V.ref (f q)) (qs.map fun q=>Value.ref (f q))
 |[]=>.nil
 |_::qs=>.cons rfl (nT f qs)
theorem yA{pins:List (Addr×Obj)}{σ:St}{H:Hp}{s:Shared}(I:Inv X pins σ H s):∀(qs:List nu),(∀q∈qs,H q.2.2.2=some (.tup [.ref q.2.1,.ref q.2.2.1])/\H q.2.1=some (.tup (q.1.map kV))/\oR q.1)->Paired (KeyC s.heap) (qs.map (·.1)) (qs.map fun q=>Value.ref q.2.2.2)
 |[],_=>.nil
 |q::qs,hq=>by
  refine .cons ?_ (yA I qs fun q hq'=>hq q (zzc _ hq'))
  obtain⟨h1,h2,h3⟩:=hq q zzd
  obtain⟨_,its,rv,o,e,c,n,d⟩:=(show ObjOk X.prog X.w H s.heap q.2.2.2 (.tup [.ref q.2.1,.ref q.2.2.1]) from I.hok _ _ h1)
  obtain⟨u,u',rfl,ru,ru'⟩:=rv.two
  cases ru
  cases ru'
  exact⟨q.2.2.2,o,_,n,_,_,rfl,e,c,d,rfl,I.tupI h3 h2⟩
theorem wq(hu:X.A.units+16<cLine):dO X (.builtin "sorted") (fun vs H Q=>∃(l:Addr) (qs:List nu),vs=[.ref l]/\H l=some (.lst (qs.map fun q=>.ref q.2.2.2))/\(∀q∈qs,H q.2.2.2=some (.tup [.ref q.2.1,.ref q.2.2.1])/\H q.2.1=some (.tup (q.1.map kV))/\oR q.1)/\(qs.map (·.1)).Nodup/\qs.length<64 /\
  ∀(D:Addr) (ws:List nu),H D=none->(∀w∈ws,w∈qs)->ws.map (·.1)=srtK (qs.map (·.1))->Q (.ref D) (upd H D (.lst (ws.map fun w=>.ref w.2.2.2)))):=by
 intro pins s σ H vs us Q I r h
 obtain⟨l,qs,rfl,e,hq,nd,h64,q⟩:=h
 obtain⟨u,rfl,e2⟩:=kw r
 cases e2
 obtain⟨z,its,n,rv,el⟩:=I.hok l _ e
 have hit:=nS (f:=fun q:nu=>q.2.2.2) rv
 have hil:s.heap.IsList l its.toArray:=⟨_,el,rfl,n,rfl⟩
 have hlv:its.length=qs.length:=by rw[hit,zza]
 refine Calls.call_function_entry kind_sorted plain_sorted entry_sorted (args_sorted1 _) ?_
 unfold Builtin.«sorted»
 refine wpAny_bind (m:=checkCount "sorted" 1 1 _) (wpAny_pure ?_)
 refine wpAny_bind (collect_list hil ?_ (by rw[sizeLine_eq];omega))
 refine wpAny_bind (wpAny_newList ?_ (by rw[sizeLine_eq];omega))
 have hsz:((s.heap.push (seqObj "list" #[] 0)).update s.heap.objs.size (Obj.mapSeq (· ++ its.toArray))).objs.size=s.heap.objs.size+1:=by
  rw[Heap.size_update,size_push']
 have hoL:(((s.heap.push (seqObj "list" #[] 0)).update s.heap.objs.size (Obj.mapSeq (· ++ its.toArray))).push (seqObj "list" its.toArray 0)).get? (s.heap.objs.size+1)=some (seqObj "list" its.toArray 0):=by
  rw[←hsz];exact zzs _ rfl
 have keep:∀b o,s.heap.get? b=some o->(((s.heap.push (seqObj "list" #[] 0)).update s.heap.objs.size (Obj.mapSeq (· ++ its.toArray))).push (seqObj "list" its.toArray 0)).get? b=some o:=fun b o q=>by
  have hlt:b<s.heap.objs.size:=zzq q
  rw[Heap.get?_push_ne _ _ _ (by rw[hsz];exact zzA (Nat.lt_succ_of_lt hlt)),Heap.get?_update_ne _ _ _ _ (zzA hlt),Heap.get?_push_ne _ _ _ (zzA hlt)]
  exact q
 show wpAny _ _ _ _ _ { s with heap:=((s.heap.push (seqObj "list" #[] 0)).update s.heap.objs.size (Obj.mapSeq (· ++ its.toArray))).push (seqObj "list" its.toArray 0) }
 rw[hsz]
 generalize ((s.heap.push (seqObj "list" #[] 0)).update s.heap.objs.size (Obj.mapSeq (· ++ its.toArray))).push (seqObj "list" its.toArray 0)=hB at hoL keep ⊢
 have I1:Inv X pins σ H { s with heap:=hB }:=I.kept (t':=s.toks) keep
 refine wpAny_bind (wpAny_holding (wpAny_call_entry slot_list_sort ⟨_,hoL,rfl⟩ entry_list_sort ?body (args_list_sort _)))
 case body =>
  refine wo (s:={ s with heap:=hB }) hoL (ks:=qs.map (·.1)) (by show X.A.units+1+1<cLine;omega) (by rw[hit];exact yA I1 qs hq) nd (by omega) fun h4 out c kp ho hR=>?_
  have base:Paired (fun k v=>∃q∈qs,q.1=k/\v=Value.ref q.2.2.2) (qs.map (·.1)) its:=by
   rw[hit]
   have:∀l:List nu,(∀q∈l,q∈qs)->Paired (fun k v=>∃q∈qs,q.1=k/\v=Value.ref q.2.2.2) (l.map (·.1)) (l.map fun q=>Value.ref q.2.2.2):=fun l=>by
    induction l with
    |nil=>intro _;exact .nil
    |cons q l ih=>intro hl;exact .cons ⟨q,hl q zzd,rfl,rfl⟩ (ih fun x hx=>hl x (zzc _ hx))
   exact this qs fun q hq=>hq
  obtain⟨ws,w1,w2,rfl⟩:=nR (hR _ base)
  have wl:ws.length=qs.length:=by
   have:=congrArg List.length w2
   rwa [zza,(qV _).length_eq,zza]at this
  have fr:H (s.heap.objs.size+1)=none:=I.hok.fresh (Nat.le_succ _)
  exact⟨_,rfl,wpAny_pure ⟨_,rfl,.ref (s.heap.objs.size+1),upd H (s.heap.objs.size+1) (.lst (ws.map fun w=>.ref w.2.2.2)),I.laid (o:=.lst (ws.map fun w=>.ref w.2.2.2)) (fun b u e=>kp b u (zzA (Nat.lt_succ_of_lt (zzq e))) (keep b u e)) (Nat.le_succ _) ⟨by rw[zza,wl,sizeLine_eq];omega,_,c,nT (fun w:nu=>w.2.2.2) ws,ho⟩,rfl,q _ ws fr w1 w2⟩⟩
end
end L2
namespace DL
open PySem PySem.Spec L2
open PyProof.Rows hiding St
variable[TB]
section
variable{X:Cx}
abbrev celD(p:List Key×List D):D:=.tup [keyD p.1,.tup p.2]
theorem rf{K:PySem.W.Frag}{pp:Option Addr}{M:List Addr}{H:Hp}:∀{kds:List (List Key×List D)}{vs:List V},Reps K pp M H (kds.map celD) vs->∃qs:List nu,qs.map (·.1)=kds.map (·.1)/\vs=qs.map (fun q=>V.ref q.2.2.2)/\(∀q∈qs,(H q.2.2.2=some (.tup [.ref q.2.1,.ref q.2.2.1])/\H q.2.1=some (.tup (q.1.map kV)))/\∃p∈kds,p.1=q.1/\Rep K pp M H (celD p) (.ref q.2.2.2))
 |[],vs,h=>by
  simp only[zzS,Reps]at h
  exact⟨[],rfl,h,fun q hq=>by simp at hq⟩
 |p::kds,vs,h=>by
  simp only[zze,Reps]at h
  obtain⟨v,r,rfl,h1,h2⟩:=h
  obtain⟨qs,e1,rfl,e3⟩:=rf h2
  have h0:=h1
  simp only[Rep]at h1
  obtain⟨b,ys,rfl,hb,ry⟩:=h1
  simp only[Reps]at ry
  obtain⟨x1,r1,rfl,hx1,x2,r2,rfl,hx2,rfl⟩:=ry
  simp only[keyD,Rep]at hx1
  obtain⟨c,zs,rfl,hc,rz⟩:=hx1
  rw[iJ rz]at hc
  simp only[Rep]at hx2
  obtain⟨d,us,rfl,hd,ru⟩:=hx2
  refine⟨(p.1,c,d,b)::qs,by rw[zze,zze,e1],rfl,fun q hq=>?_⟩
  rcases zzi.mp hq with rfl|hq
  ·exact⟨⟨hb,hc⟩,p,zzd,rfl,h0⟩
  ·obtain⟨h3,p',hp',h4⟩:=e3 q hq
   exact⟨h3,p',zzc _ hp',h4⟩
theorem rn{K:PySem.W.Frag}{pp:Option Addr}{M:List Addr}{H:Hp}{kds:List (List Key×List D)}:∀(ws:List nu),(∀q∈ws,∃p∈kds,p.1=q.1/\Rep K pp M H (celD p) (.ref q.2.2.2))->∃kds':List (List Key×List D),(∀p∈kds',p∈kds)/\kds'.map (·.1)=ws.map (·.1)/\Reps K pp M H (kds'.map celD) (ws.map fun w=>V.ref w.2.2.2)
 |[],_=>⟨[],fun p hp=>by simp at hp,rfl,by simp only[zzS,Reps]⟩
 |w::ws,h=>by
  obtain⟨ks,h1,h2,h3⟩:=rn ws fun q hq=>h q (zzc _ hq)
  obtain⟨p,hp,e,r⟩:=h w zzd
  refine⟨p::ks,fun x hx=>?_,by rw[zze,zze,e,h2],?_⟩
  ·rcases zzi.mp hx with rfl|hx
   ·exact hp
   ·exact h1 x hx
  ·simp only[zze,Reps]
   exact⟨_,_,rfl,r,h3⟩
variable[Frm]
def FV:DSp:=fun ds P=>∃kds:List (List Key×List D),ds=[.lst (kds.map celD)]/\(∀p∈kds,oR p.1)/\(kds.map (·.1)).Nodup/\kds.length<64/\∀kds':List (List Key×List D),(∀p∈kds',p∈kds)->kds'.map (·.1)=srtK (kds.map (·.1))->P (.lst (kds'.map celD))
theorem Av{n:Nat}(hr:Room n X.A):CallD X (.builtin "sorted") FV:=by
 have hu:X.A.units+16<cLine:=by have:=hr.units;omega
 refine⟨fun ds P P' f h=>?_,_,wq hu,fun {pp} M H ds vs Q lv r h=>?_⟩
 ·obtain⟨kds,a,b,c,d,h⟩:=h
  exact⟨kds,a,b,c,d,fun k p1 p2=>f _ (h k p1 p2)⟩
 ·obtain⟨kds,rfl,on,nd,l64,h⟩:=h
  simp only[Reps]at r
  obtain⟨x,t,rfl,r1,rfl⟩:=r
  simp only[Rep]at r1
  obtain⟨a,ys,rfl,_,_,ha,ry⟩:=r1
  obtain⟨qs,e1,rfl,e3⟩:=rf ry
  have el:qs.length=kds.length:=by have:=congrArg List.length e1;rwa [zza,zza]at this
  refine⟨a,qs,rfl,ha,fun q hq=>?_,by rw[e1];exact nd,by omega,fun l ws hl w1 w2=>?_⟩
  ·obtain⟨⟨h1,h2⟩,p,hp,h3,_⟩:=e3 q hq
   exact⟨h1,h2,by rw[←h3];exact on p hp⟩
  ·obtain⟨kds',k1,k2,k3⟩:=rn (kds:=kds) ws fun q hq=>(e3 q (w1 q hq)).2
   refine h kds' k1 (by rw[k2,w2,e1]) _ _ (.new hl) ?_
   simp only[Rep]
   exact⟨l,_,rfl,(lv.fresh hl).1,(lv.fresh hl).2,ak,k3.mv (SameP.new hl).mv⟩
end
section
variable{X:Cx}{k:Nat}
def gInL(x y:D)(P:D->Prop):Prop:=∃ys,y=.lst ys/\shp x=true/\shp y=true/\P (.bl (ys.any fun z=>eqD z x))
theorem FW(hr:Room k X.A):OpR X (compareOp .In) (fun x y H Q=>∃pp M dx dys,Rep X.K pp M H dx x/\Rep X.K pp M H (.lst dys) y/\shp dx=true/\shp (.lst dys)=true/\Q (.bl (dys.any fun z=>eqD z dx)) H):=by
 intro pins s σ H x y v u Q I rx ry h
 obtain⟨pp,M,dx,dys,r1,r2,s1,s2,q⟩:=h
 unfold shp at s1 s2
 rw[zzK]at s1 s2
 obtain⟨as,z1⟩:=eK I.hok dx x v s1.1 r1 rx
 obtain⟨bs,z2⟩:=eK I.hok (.lst dys) y u s2.1 r2 ry
 have s3:=s2.2
 rw[toPy]at z2 s3
 refine SeqAt.in_list_reads z2 z1 (SeqAt.canLay_of_shaped s3) (SeqAt.canLay_of_shaped s1.2) (PyProof.Rows.room_in_shaped s1.2 (by have:=hr.un;omega)) ?_
 rw[BD]
 exact cf I q rfl
theorem FX(hr:Room k X.A):OpD X (compareOp .In) gInL :=
 ⟨fun _ _ _ _ f ⟨ys,a,b,c,h⟩=>⟨ys,a,b,c,f _ h⟩,_,FW hr,fun {pp} M H x y v u Q _ rx ry h=>by
  obtain⟨ys,rfl,s1,s2,h⟩:=h
  exact⟨pp,M,x,ys,rx,ry,s1,s2,h H _ .refl de⟩⟩
end
end DL
namespace L2
open PySem PySem.Spec PyProof.Rows
structure FA(K:PySem.W.Frag)(x:Str)(st:Stmt)(f:Addr)(fd:FuncData):Prop where
 a:PySem.W.nsIn K mainGlobals x=some (some (.ref f))
 F:Fun K x x st f fd
section
variable{K:PySem.W.Frag}{x:Str}{st:Stmt}{f:Addr}{fd:FuncData}{mg:Str->Option Value}{h:Heap}
theorem fa_mk{oc kV doc pm cdv ct:Value}{od an:Option Addr}{osl:Array (Option Value)}(a:PySem.W.nsIn K mainGlobals x=some (some (.ref f)))(l:K.lookup f=some ⟨oc,od,.func (PySem.W.fnOf x x (gC st) (db st) (ah st) .none kV doc pm an cdv ct),osl⟩)
  (c:PySem.W.codeIn K cdv x=true) (k:PySem.W.keepIn K (.ref f)=true):FA K x st f (PySem.W.fnOf x x (gC st) (db st) (ah st) .none kV doc pm an cdv ct):=⟨a,EX l c k⟩
abbrev BA(x:Str)(st:Stmt)(ps:List Str)(us:List Value):Prop:=∀(kV doc pm:Value) (an:Option Addr) (cdv ct:Value),bindArgs (PySem.W.fnOf x x (gC st) (db st) (ah st) .none kV doc pm an cdv ct) ⟨us,[]⟩=pure (ps.zip us)
theorem FA.df{ps:List Str}(A:FA K x st f fd)(X:K.In h)(G:h.Ns mainGlobals mg)(b:∀us,us.length=ps.length->BA x st ps us):Df K mg x st ps f fd:=⟨A.F,PySem.W.mg_of X G A.a,A.F.binds fun a b' c d e g us hl=>b us hl a b' c d e g⟩
theorem FA.d1{p:Str}(A:FA K x st f fd)(X:K.In h)(G:h.Ns mainGlobals mg)(b:∀u,BA x st [p] [u]):Df K mg x st [p] f fd:=A.df X G fun us hl=>match us,hl with|[u],_=>b u
theorem FA.d2{p p1:Str}(A:FA K x st f fd)(X:K.In h)(G:h.Ns mainGlobals mg)(b:∀u v,BA x st [p,p1] [u,v]):Df K mg x st [p,p1] f fd:=A.df X G fun us hl=>match us,hl with|[u,v],_=>b u v
theorem FA.d3{p p1 p2:Str}(A:FA K x st f fd)(X:K.In h)(G:h.Ns mainGlobals mg)(b:∀u v w,BA x st [p,p1,p2] [u,v,w]):Df K mg x st [p,p1,p2] f fd:=A.df X G fun us hl=>match us,hl with|[u,v,w],_=>b u v w
end
theorem bm{N P:List Str}{sc:Scope}(a:sc.kind=.function:=by rfl)(b:sc.isCoroutine=false:=by rfl)(c:sc.isGenerator=false:=by rfl)(d:N.Nodup:=by decide +kernel)(e:N.take P.length=P:=by rfl)
  (g:∀x∈P,sc.names.lookup x=some .local∨sc.names.lookup x=some .cell:=by decide +kernel) (i:∀y∈sc.names,y.2 ≠ .free:=by decide +kernel):FnScope N P sc:=⟨a,b,c,d,e,g,i⟩
theorem oo{a b:Prop}(h:a∨b:=by first|exact Or.inl rfl|exact Or.inr rfl):a∨b:=h
theorem dk{p:Prop}(h:p:=by decide +kernel):p:=h
theorem rm{j k:Nat}{A:Around}(r:Room k A)(h:j <= k:=by decide):Room j A:=r.mono h
end L2
namespace DL
open PySem PySem.Spec L2
theorem ndB{X:Cx}{scope:Scope}{cl:List (Str×Addr)}{N:List Str}{B:Blk}(h:N.Nodup:=by decide +kernel):(cxB X scope cl N B).N.Nodup:=h
end DL
namespace My
open PySem L2
def top(i:Nat):Stmt:=PySem.Challenge.pw_othersum_k41_whole_a_hidden_mark_turns.main.body.getD i (.Pass ⟨0,0,0,0⟩)
abbrev jx:Stmt:=top 8
theorem tj:FnScope ["thing"] ["thing"] (ah jx):=bm
abbrev gI:Stmt:=top 9
theorem rp:FnScope ["thing","least","most"] ["thing","least","most"] (ah gI):=bm
abbrev jy:Stmt:=top 10
theorem sc_together:FnScope ["counts","tried","well"] ["counts"] (ah jy):=bm
abbrev bV:Stmt:=top 11
theorem gu:FnScope ["many","rows"] ["many","rows"] (ah bV):=bm
abbrev yB:Stmt:=top 12
theorem sc_said:FnScope ["one","other","first","second"] ["one","other"] (ah yB):=bm
abbrev oW:Stmt:=top 16
theorem yC:FnScope ["one","other"] ["one","other"] (ah oW):=bm
abbrev jz:Stmt:=top 17
theorem sc_gathered:FnScope ["many","pairs","found","kinds","counts","cells"] ["many","pairs"] (ah jz):=bm
abbrev jA:Stmt:=top 18
theorem tm:FnScope ["counts"] ["counts"] (ah jA):=bm
abbrev eO:Stmt:=top 20
theorem nv:FnScope ["many","house"] ["many","house"] (ah eO):=bm
abbrev fw:Stmt:=top 21
theorem oX:FnScope ["many","a","b"] ["many","a","b"] (ah fw):=bm
abbrev gJ:Stmt:=top 22
theorem rq:FnScope ["table"] ["table"] (ah gJ):=bm
abbrev oY:Stmt:=top 26
theorem sc_parted:FnScope ["one","other","many","ones","others"] ["one","other","many"] (ah oY):=bm
abbrev lW:Stmt:=top 27
theorem wt:FnScope ["count"] ["count"] (ah lW):=bm
abbrev gK:Stmt:=top 28
theorem rA:FnScope ["wells","ills"] ["wells","ills"] (ah gK):=bm
abbrev oZ:Stmt:=top 29
theorem yD:FnScope ["place","number","many"] ["place","number","many"] (ah oZ):=bm
abbrev pj:Stmt:=top 30
theorem yE:FnScope ["number","many"] ["number","many"] (ah pj):=bm
abbrev jB:Stmt:=top 32
theorem tq:FnScope ["book","some"] ["book","some"] (ah jB):=bm
abbrev jC:Stmt:=top 33
theorem tt:FnScope ["book"] ["book"] (ah jC):=bm
abbrev pq:Stmt:=top 34
theorem sc_within:FnScope ["book","mark","kind","cells"] ["book","mark","kind"] (ah pq):=bm
abbrev jD:Stmt:=top 35
theorem tu:FnScope ["book","some"] ["book","some"] (ah jD):=bm
abbrev gL:Stmt:=top 36
theorem rB:FnScope ["kinds","some"] ["kinds","some"] (ah gL):=bm
abbrev lX:Stmt:=top 37
theorem wu:FnScope ["things","place"] ["things","place"] (ah lX):=bm
abbrev fA:Stmt:=top 38
theorem pr:FnScope ["book","mark"] ["book","mark"] (ah fA):=bm
abbrev eP:Stmt:=top 39
theorem sc_check_marks:FnScope ["book","some","mark"] ["book","some"] (ah eP):=bm
abbrev pw:Stmt:=top 41
theorem sc_hidden:FnScope ["book","a","b","many","whole","table","ones","others","pairs","place","cell","kind","counts"] ["book","a","b","many"] (ah pw):=bm
abbrev tw:Stmt:=top 42
theorem sc_split:FnScope ["counts","parts","wells","ills"] ["counts","parts"] (ah tw):=bm
abbrev pz:Stmt:=top 43
theorem sc_poured:FnScope ["numbers","rooms","left","told","number","taken"] ["numbers","rooms"] (ah pz):=bm
abbrev pA:Stmt:=top 44
theorem sc_filled:FnScope ["number","rooms","taken","room"] ["number","rooms"] (ah pA):=bm
abbrev lY:Stmt:=top 46
theorem wv:FnScope ["table"] ["table"] (ah lY):=bm
abbrev yF:Stmt:=top 47
theorem Dt:FnScope ["table","a","b"] ["table","a","b"] (ah yF):=bm
abbrev lZ:Stmt:=top 48
theorem sc_turning:FnScope ["table","a","b","told","whole","number","part"] ["table","a","b"] (ah lZ):=bm
abbrev cQ:Stmt:=top 49
theorem jE:FnScope ["number","whole"] ["number","whole"] (ah cQ):=bm
abbrev gM:Stmt:=top 51
theorem rC:FnScope ["book","a","b"] ["book","a","b"] (ah gM):=bm
abbrev ma:Stmt:=top 52
theorem sc_choices:FnScope ["many","told","longest"] ["many"] (ah ma):=bm
abbrev pB:Stmt:=top 53
theorem sc_longer:FnScope ["tuples","many","told","some","start","mark"] ["tuples","many"] (ah pB):=bm
abbrev jF:Stmt:=top 55
theorem tD:FnScope ["_law_script"] ["_law_script"] (ah jF):=bm
abbrev gN:Stmt:=top 56
theorem sc__law_next:FnScope ["_law_pen_here","_law_many","_law_script","_law_turn","_law_left","_law_cell","_law_number"] ["_law_pen_here","_law_many"] (ah gN):=bm
abbrev fB:Stmt:=top 57
theorem sc__law_count:FnScope ["_law_pen_here","_law_way","_law_tried"] ["_law_pen_here"] (ah fB):=bm
abbrev gO:Stmt:=top 58
theorem sc__law_book:FnScope ["_law_pen_here","_law_most","_law_many","_law_marks","_law_found","_law_k","_law_kinds","_law_counts"] ["_law_pen_here","_law_most"] (ah gO):=bm
abbrev jG:Stmt:=top 59
theorem sc__law_two:FnScope ["_law_pen_here","_law_many","_law_a"] ["_law_pen_here","_law_many"] (ah jG):=bm
abbrev gP:Stmt:=top 61
theorem sc__law_said:FnScope ["_law_one","_law_other","_law_left","_law_right"] ["_law_one","_law_other"] (ah gP):=bm
abbrev gQ:Stmt:=top 62
theorem sc__law_more:FnScope ["_law_book_here","_law_a","_law_b","_law_kinds","_law_counts","_law_some","_law_cells"] ["_law_book_here","_law_a","_law_b"] (ah gQ):=bm
abbrev bW:Stmt:=top 63
theorem sc__law_put_together:FnScope ["_law_found","_law_last","_law_kinds","_law_whole","_law_kind"] ["_law_found","_law_last","_law_kinds"] (ah bW):=bm
abbrev Du:Stmt:=top 64
theorem sc_law:FnScope ["_law_script","_law_pen_here","_law_book_here","_law_a","_law_b","_law_kinds","_law_found","_law_last","_law_some","_law_marks","_law_table","_law_whole","_law_w","_law_due","_law_told"] ["_law_script"] (ah Du):=bm
set_option genInjectivity false in
set_option genSizeOf false in
structure Tx(K:PySem.W.Frag)(mg:Str->Option Value) where
 jU:Addr
 im:FuncData
 eE:Df K mg "is_whole" jx ["thing"] jU im
 ik:Addr
 fT:FuncData
 aD:Df K mg "is_within" gI ["thing","least","most"] ik fT
 jW:Addr
 ii:FuncData
 eC:Df K mg "together" jy ["counts"] jW ii
 bZ:Addr
 bR:FuncData
 au:Df K mg "together_by_house" bV ["many","rows"] bZ bR
 zy:Addr
 tY:FuncData
 kt:Df K mg "said" yB ["one","other"] zy tY
 pZ:Addr
 mQ:FuncData
 jc:Df K mg "beside" oW ["one","other"] pZ mQ
 gq:Addr
 fe:FuncData
 br:Df K mg "gathered" jz ["many","pairs"] gq fe
 jQ:Addr
 hU:FuncData
 eD:Df K mg "is_tried" jA ["counts"] jQ hU
 eY:Addr
 dX:FuncData
 bn:Df K mg "check_house" eO ["many","house"] eY dX
 fV:Addr
 eW:FuncData
 aT:Df K mg "check_pair" fw ["many","a","b"] fV eW
 hV:Addr
 fY:FuncData
 bJ:Df K mg "houses_of" gJ ["table"] hV fY
 kW:Addr
 iW:FuncData
 iZ:Df K mg "parted" oY ["one","other","many"] kW iW
 mO:Addr
 jX:FuncData
 aU:Df K mg "ills_of" lW ["count"] mO jX
 gY:Addr
 fR:FuncData
 bh:Df K mg "counts_of" gK ["wells","ills"] gY fR
 qa:Addr
 mI:FuncData
 dN:Df K mg "all_at" oZ ["place","number","many"] qa mI
 pY:Addr
 mV:FuncData
 dG:Df K mg "spread" pj ["number","many"] pY mV
 gr:Addr
 eV:FuncData
 bq:Df K mg "parts_by" jB ["book","some"] gr eV
 jP:Addr
 ic:FuncData
 aW:Df K mg "whole_of" jC ["book"] jP ic
 pX:Addr
 mL:FuncData
 dL:Df K mg "within" pq ["book","mark","kind"] pX mL
 gs:Addr
 eT:FuncData
 ce:Df K mg "table_by" jD ["book","some"] gs eT
 gZ:Addr
 gc:FuncData
 du:Df K mg "values_by" gL ["kinds","some"] gZ gc
 mU:Addr
 jO:FuncData
 cN:Df K mg "without" lX ["things","place"] mU jO
 fX:Addr
 eU:FuncData
 bv:Df K mg "check_mark" fA ["book","mark"] fX eU
 ff:Addr
 dW:FuncData
 cr:Df K mg "check_marks" eP ["book","some"] ff dW
 pV:Addr
 mP:FuncData
 iV:Df K mg "hidden" pw ["book","a","b","many"] pV mP
 tZ:Addr
 pW:FuncData
 fU:Df K mg "split" tw ["counts","parts"] tZ pW
 qb:Addr
 mR:FuncData
 dM:Df K mg "poured" pz ["numbers","rooms"] qb mR
 pU:Addr
 mK:FuncData
 jd:Df K mg "filled" pA ["number","rooms"] pU mK
 mT:Addr
 jS:FuncData
 fQ:Df K mg "sums_of" lY ["table"] mT jS
 vN:Addr
 qd:FuncData
 ku:Df K mg "says" yF ["table","a","b"] vN qd
 mJ:Addr
 jY:FuncData
 cP:Df K mg "turning" lZ ["table","a","b"] mJ jY
 cR:Addr
 cJ:FuncData
 bC:Df K mg "turned_or_kept" cQ ["number","whole"] cR cJ
 eZ:Addr
 dJ:FuncData
 bK:Df K mg "turned_by" gM ["book","a","b"] eZ dJ
 mM:Addr
 jR:FuncData
 ge:Df K mg "choices" ma ["many"] mM jR
 qc:Addr
 mS:FuncData
 jb:Df K mg "longer" pB ["tuples","many"] qc mS
 jV:Addr
 ig:FuncData
 eF:Df K mg "_law_pen" jF ["_law_script"] jV ig
 fg:Addr
 dI:FuncData
 af:Df K mg "_law_next" gN ["_law_pen_here","_law_many"] fg dI
 fZ:Addr
 fc:FuncData
 cO:Df K mg "_law_count" fB ["_law_pen_here"] fZ fc
 hW:Addr
 fS:FuncData
 dw:Df K mg "_law_book" gO ["_law_pen_here","_law_most"] hW fS
 jT:Addr
 ij:FuncData
 eB:Df K mg "_law_two" jG ["_law_pen_here","_law_many"] jT ij
 io:Addr
 fP:FuncData
 dz:Df K mg "_law_said" gP ["_law_one","_law_other"] io fP
 ie:Addr
 gb:FuncData
 dv:Df K mg "_law_more" gQ ["_law_book_here","_law_a","_law_b"] ie gb
 ca:Addr
 bQ:FuncData
 bi:Df K mg "_law_put_together" bW ["_law_found","_law_last","_law_kinds"] ca bQ
 Eb:Addr
 zz:FuncData
 Gu:Df K mg "law" Du ["_law_script"] Eb zz
 se:mg "ValueError" = none
 zx:mg "sum" = none
 bS:mg "tuple" = none
 Gw:mg "any" = none
 gv:mg "len" = none
 rZ:mg "list" = none
 hG:mg "enumerate" = none
 cS:mg "range" = none
 dH:mg "isinstance" = none
 wL:mg "int" = none
 Be:mg "zip" = none
 BV:mg "bool" = none
 kX:mg "sorted" = none
 Gx:mg "set" = none
 Gv:mg "min" = none
 BW:mg "dict" = none
 cD:Tok
 iY:mg "MOST_KINDS" = some (.int 6 cD)
 cu:Tok
 iX:mg "MOST_MARKS" = some (.int 5 cu)
 bU:Tok
 gz:mg "LEAST_PARTS" = some (.int 2 bU)
 cz:Tok
 je:mg "MOST_PARTS" = some (.int 8 cz)
open DL
section
variable{P:Program}{w:World}{K:PySem.W.Frag}{mg:Str->Option Value}{base:Heap}
theorem tE(T:Tx K mg):FnOk P w K mg base CX0 1 T.jV T.ig ["_law_script"] (Bj K):=by
 refine T.eF.F.ok tD (fun vs H Q E h=>?_) (fun cdv A outer s H vs Q E hr h=>?_)
 ·obtain⟨a,ns,rfl,_⟩:=h
  rfl
 ·obtain⟨a,ns,rfl,hs,k⟩:=h
  refine⟨_,(eG (lc (xc (bD (pv 0) (bD bO (bD bO cT)))))),?_⟩
  refine⟨_,rfl,(by show (3:Nat) <= sizeLine;decide),fun p hp=>?_⟩
  refine k p _ hp ⟨ak,?_,zyn 0⟩ (oG hp)
  rcases hs with ⟨o,e⟩|e
  ·exact .inl ⟨o,ji hp e⟩
  ·exact .inr e
theorem rD(T:Tx K mg):FnOk P w K mg base CX0 1 T.fg T.dI ["_law_pen_here","_law_many"] (xC K):=by
 refine T.af.F.ok sc__law_next (fun vs H Q E h=>?_) (fun cdv A outer s H vs Q E hr h=>?_)
 ·obtain⟨p,a,ns,t,l,m,rfl,_⟩:=h
  rfl
 ·obtain⟨p,a,ns,t,l,m,rfl,pen,m1,m2,k⟩:=h
  refine⟨_,(bA (qf (pv 0) (Fa rfl (kH (ol (i:=2) sc__law_next.nd rfl (Or.inl rfl)) (kH (ol (i:=3) sc__law_next.nd rfl (Or.inl rfl)) (kH (ol (i:=4) sc__law_next.nd rfl (Or.inl rfl)) wT)))))
   (bA (wQ (lh GI (pv 4) bO (aB _)) (bA (qf (cW lg (pv 3) bO) (wU (pv 0) bO ou))
   (bA (wQ (PW.pt (Ek (lh EA (pv 3) (iq cL rfl T.gv zyb (bD (pv 2) cT)) (aB _)) (Bf (lh Ey (xl oq (pv 2) (pv 3) (fun _ _=>rfl)) (cW Bg bO bO) (aB _))))) (bA (ip (i:=5) sc__law_next.nd rfl (Or.inl rfl) bO)
   (bA (wQ (lh Ez (iq cL rfl T.gv zyb (bD (pv 2) cT)) bO (aB _)) (eG (ip (i:=5) sc__law_next.nd rfl (Or.inl rfl) (cW jZ (xl oq (pv 2) (cW jZ (pv 3) (iq cL rfl T.gv zyb (bD (pv 2) cT))) (fun _ _=>rfl)) bO))) kZ)
   (bA (ip (i:=6) sc__law_next.nd rfl (Or.inl rfl) (cW jZ (cW jh (cW lg (cW lg (pv 5) (cW jh bO (pv 3))) bO) bO) bO))
   (bA (ip (i:=6) sc__law_next.nd rfl (Or.inl rfl) (cW jZ (cW lg (cW lg (cW jh (pv 6) (pv 6)) (cW jh bO (pv 3))) bO) bO))
   (eG (lc (cW jZ (cW ul (cW jZ (cW jh (pv 6) (cW lg (pv 6) bO)) bO) bO) (pv 1)))))))) kZ)
   (eG (ip (i:=4) sc__law_next.nd rfl (Or.inl rfl) (xl oq (pv 2) (pv 3) (fun _ _=>rfl)))))) kZ)
   (bA (qf (cW ul (pv 4) (pv 1)) (wU (pv 0) bO ou))
   (eG (lc (cW jZ (pv 4) (pv 1))))))),?_⟩
  have ht:=pen.t0
  have hm:(0:Int)<m:=by omega
  -- the pen's three parts
  refine⟨_,rfl,p,_,rfl,pen.lst,rfl,_,_,rfl,_,_,rfl,_,_,rfl,rfl,?_⟩
  -- if left == 0
  refine⟨_,rfl,rfl,_,rfl,?_⟩
  refine ite2 (fun hl=>?_) (fun hl=>?_)
  ·-- pen[1]=turn+1
   refine⟨_,rfl,_,_,rfl,rfl,_,rfl,p,_,1,1,rfl,rfl,pen.lst,rfl,?_⟩
   have pen1:Pen K (upd H p (.lst [.ref a,.int (t+1),.int l])) p a ns (t+1) l:=pen.put (by omega)
   have sq:=pen1.scr.sq
   -- if turn >= len(script) or script[turn]<10 ** 18
   refine⟨_,rfl,_,rfl,a,_,rfl,.inl sq,_,_,rfl,rfl,_,rfl,?_⟩
   refine ite2 (fun h1=>iteT ?_) (fun h1=>⟨_,rfl,_,rfl,a,_,t,_,rfl,rfl,sq,xA ht (by simp only[decide_eq_true_eq,zza]at h1;omega),_,_,rfl,rfl,⟨by decide,by decide,by decide⟩,_,_,rfl,rfl,_,rfl,ite2 (fun h2=>?_) (fun h2=>?_)⟩)
   rotate_left 2
   ·-- left=script[turn];pen[2]=left // many;return left % many
    simp only[decide_eq_true_eq,zza]at h1
    refine⟨_,rfl,_,rfl,a,_,t,_,rfl,rfl,sq,xA ht (by omega),?_⟩
    refine⟨_,rfl,_,rfl,_,_,rfl,rfl,⟨hm,xD (by omega) (by omega)⟩,_,rfl,p,_,2,2,rfl,rfl,pen1.lst,rfl,?_⟩
    refine⟨_,rfl,_,rfl,_,_,rfl,rfl,hm,?_⟩
    exact k _ (t+1) _ _ (zyU _ (by omega)) (zyI _ hm) (pen1.put (by omega)) (SBut.upd.trans SBut.upd)
   all_goals
    -- cell=..;if len(script)>0: cell=script[turn % len(script)] % ..
    refine⟨_,rfl,a,_,rfl,.inl sq,_,_,rfl,rfl,_,rfl,?_⟩
    refine ite2 (fun h3=>?_) (fun h3=>?_)
    ·simp only[decide_eq_true_eq,zza]at h3
     refine⟨_,rfl,_,rfl,_,rfl,a,_,rfl,.inl sq,_,_,rfl,rfl,(by show (0:Int)<((ns.map V.int).length:Int);rw[zza];omega),a,_,_,_,rfl,rfl,sq,xA (by rw[zza];exact zyU _ (by omega)) (by rw[zza];exact zyI _ (by omega)),_,_,rfl,rfl,mpos,?_⟩
     refine⟨_,rfl,_,rfl,_,_,rfl,rfl,zN,_,_,rfl,rfl,_,_,rfl,rfl,_,_,rfl,rfl,Fb,_,_,rfl,rfl,mpos,?_⟩
     refine⟨_,rfl,_,rfl,_,_,rfl,rfl,oH (by decide) (by decide),_,rfl,_,_,rfl,rfl,zN,_,_,rfl,rfl,_,_,rfl,rfl,_,_,rfl,rfl,mpos,?_⟩
     refine⟨_,rfl,_,rfl,_,_,rfl,rfl,_,_,rfl,rfl,oH (by decide) (by decide),_,_,rfl,rfl,mpos,_,_,rfl,rfl,⟨by decide,qz (by decide) (by decide)⟩,_,rfl,_,_,rfl,rfl,hm,?_⟩
     exact k _ (t+1) _ _ (zyU _ (by omega)) (zyI _ hm) pen1 SBut.upd
    ·refine⟨_,rfl,_,rfl,_,_,rfl,rfl,zN,_,_,rfl,rfl,_,_,rfl,rfl,_,_,rfl,rfl,Fb,_,_,rfl,rfl,mpos,?_⟩
     refine⟨_,rfl,_,rfl,_,_,rfl,rfl,oH (by decide) (by decide),_,rfl,_,_,rfl,rfl,zN,_,_,rfl,rfl,_,_,rfl,rfl,_,_,rfl,rfl,mpos,?_⟩
     refine⟨_,rfl,_,rfl,_,_,rfl,rfl,_,_,rfl,rfl,oH (by decide) (by decide),_,_,rfl,rfl,mpos,_,_,rfl,rfl,⟨by decide,qz (by decide) (by decide)⟩,_,rfl,_,_,rfl,rfl,hm,?_⟩
     exact k _ (t+1) _ _ (zyU _ (by omega)) (zyI _ hm) pen1 SBut.upd
  ·-- pen[2]=left // many;return left % many
   refine⟨_,rfl,_,rfl,_,_,rfl,rfl,⟨hm,xD (by omega) (by omega)⟩,_,rfl,p,_,2,2,rfl,rfl,pen.lst,rfl,?_⟩
   refine⟨_,rfl,_,rfl,_,_,rfl,rfl,hm,?_⟩
   exact k _ t _ _ (zyU _ (by omega)) (zyI _ hm) (pen.put ht) SBut.upd
theorem aJ(T:Tx K mg):FnOk P w K mg base CX0 1 T.fg T.dI ["_law_pen_here","_law_many"] (spD K 2 we):=CJ (rD T)
theorem aK:bj we:=xI
def FY:D->Bool
 |.int _=>true
 |_=>false
def gW:DSp:=fun ds Q=>match ds with
 |[d]=>zU d=true/\Q (.bl (FY d))
 |_=>False
theorem ww:bj gW:=fun ds P P' f h=>by
 unfold gW at h ⊢
 split at h
 ·exact⟨h.1,f _ h.2⟩
 ·exact h.elim
theorem wx(T:Tx K mg):FnOk P w K mg base CX0 1 T.jU T.im ["thing"] (spD K 1 gW):=by
 refine fnD (k:=0) T.eE.F tj (fun cdv A outer s H E hr=>(ai (aE (Bm (aM xH rfl T.dH rfl (aa (ac 0 (pv 0)) (aa (CA (n:="int") rfl T.wL rfl) ad))) (Bl (Fe (aM wc rfl T.dH rfl (aa (ac 0 (pv 0)) (aa (CA (n:="bool") rfl T.BV rfl) ad))))))))) (fun ds Q hl h=>?_)
 unfold gW at h
 split at h
 case h_2=>exact h.elim
 rename_i d
 obtain⟨h1,h⟩:=h
 refine⟨rfl,h1,?_⟩
 cases d with
 |int i=>exact Br.t ⟨rfl,h1,h⟩
 |bl i=>exact Br.t ⟨rfl,h1,h⟩
 |_=>exact Br.f h
def aI(c:Int×Int):D:=.tup [.int c.1,.int c.2]
def gTog:DSp:=fun ds Q=>match ds with
 |[.lst xs]=>∃cs:List (Int×Int),xs=cs.map aI/\cs.length <= 1000/\Q (.tup [.int (cs.map (·.1)).sum,.int (cs.map (·.2)).sum])
 |[.tup xs]=>∃cs:List (Int×Int),xs=cs.map aI/\cs.length <= 1000/\Q (.tup [.int (cs.map (·.1)).sum,.int (cs.map (·.2)).sum])
 |_=>False
theorem wy:bj gTog:=fun ds P P' f h=>by
 unfold gTog at h ⊢
 split at h
 ·obtain⟨cs,a,b,h⟩:=h
  exact⟨cs,a,b,f _ h⟩
 ·obtain⟨cs,a,b,h⟩:=h
  exact⟨cs,a,b,f _ h⟩
 ·exact h.elim
theorem FZ(cs:List (Int×Int)):(cs.map aI).map (fun d=>match d with|.tup (x::_)=>x|_=>.non)=(cs.map (·.1)).map D.int:=by
 rw[zzh,zzh];rfl
theorem Dv(cs:List (Int×Int)):(cs.map aI).map (fun d=>match d with|.tup [_,x]=>x|_=>.non)=(cs.map (·.2)).map D.int:=by
 rw[zzh,zzh];rfl
theorem Hy{cs:List (Int×Int)}{s:Sl}{Q:List D->Prop}(hc:cs.length <= 1000)(hq:Q ((cs.map (·.1)).map D.int)):cE (dg 0) bP (dOp gIx (dVar 0) (dC (.int 0))) (cs.map aI) [] [s] Q:=by
 refine bd (fun d=>match d with|.tup (x::_)=>x|_=>.non) (fun ρ=>∃s,ρ=[s]) ?_ (fun d hd ρ Y Z hN hY=>?_) _ ⟨_,rfl⟩ ?_
 ·rw[zza];exact zzk hc (by decide)
 ·obtain⟨s,rfl⟩:=hN
  obtain⟨c,_,rfl⟩:=zzb.mp hd
  exact Br.t (hY _ ⟨_,rfl⟩)
 ·rw[FZ];exact hq
theorem Dw{cs:List (Int×Int)}{s:Sl}{Q:List D->Prop}(hc:cs.length <= 1000)(hq:Q ((cs.map (·.2)).map D.int)):cE (dg 0) bP (dOp gIx (dVar 0) (dC (.int 1))) (cs.map aI) [] [s] Q:=by
 refine bd (fun d=>match d with|.tup [_,x]=>x|_=>.non) (fun ρ=>∃s,ρ=[s]) ?_ (fun d hd ρ Y Z hN hY=>?_) _ ⟨_,rfl⟩ ?_
 ·rw[zza];exact zzk hc (by decide)
 ·obtain⟨s,rfl⟩:=hN
  obtain⟨c,_,rfl⟩:=zzb.mp hd
  exact Br.t (hY _ ⟨_,rfl⟩)
 ·rw[Dv];exact hq
theorem wz(T:Tx K mg):FnOk P w K mg base CX0 1 T.jW T.ii ["counts"] (spD K 1 gTog):=by
 refine fnD (k:=0) T.eC.F sc_together (fun cdv A outer s H E hr=>(aj (aC (i:=1) sc_together.nd rfl oo (aM uy rfl T.zx PyProof.Rows.boot_sum (aa (aF (PCD.pld (aA (N':=["count"]) rfl rfl dk rfl (.own .nil) dk (xK (ac 0 (pv 0))) (fun B=>(ao (i:=0) ndB rfl oo)) (fun B=>aL) (fun B=>(ar (ac 0 (pv 0)) ae (fun _ _=>rfl)))))) ad)))
   (aj (aC (i:=2) sc_together.nd rfl oo (aM uy rfl T.zx PyProof.Rows.boot_sum (aa (aF (PCD.pld (aA (N':=["count"]) rfl rfl dk rfl (.own .nil) dk (xK (ac 0 (pv 0))) (fun B=>(ao (i:=0) ndB rfl oo)) (fun B=>aL) (fun B=>(ar (ac 0 (pv 0)) ae (fun _ _=>rfl)))))) ad)))
   (ai (aE (aS (aa (ac 1 (pv 1)) (aa (ac 2 (pv 2)) ad)))))))) (fun ds Q hl h=>?_)
 unfold gTog at h
 split at h
 case h_3=>exact h.elim
 all_goals
  obtain⟨cs,rfl,hc,h⟩:=h
  refine Hy hc (lK ?_)
  refine Dw hc (lK ?_)
  exact⟨sz,h⟩
def fC(t w t' w':Int):D:=if t=0∨t'=0 then .non else if t*w'<w*t' then .int 1 else if w*t'<t*w' then .int (-1) else .int 0
def wA:DSp:=fun ds Q=>match ds with
 |[.tup [.int t,.int w],.tup [.int t',.int w']]=>(Bd 7000 t/\Bd 7000 w/\Bd 7000 t'/\Bd 7000 w')/\Q (fC t w t' w')
 |_=>False
theorem yG:bj wA:=fun ds P P' f h=>by
 unfold wA at h ⊢
 split at h
 ·exact⟨h.1,f _ h.2⟩
 ·exact h.elim
theorem BE(T:Tx K mg):FnOk P w K mg base CX0 1 T.zy T.tY ["one","other"] (spD K 2 wA):=by
 refine fnD (k:=0) T.kt.F sc_said (fun cdv A outer s H E hr=>(aj (cG (PWD.pt (sE (aN (eL hr) (ar (ac 0 (pv 0)) ae (fun _ _=>rfl)) ae (aB _)) (lE (aN (eL hr) (ar (ac 1 (pv 1)) ae (fun _ _=>rfl)) ae (aB _))))) (ai (aE nD)) aQ)
   (aj (aC (i:=2) sc_said.nd rfl oo (bu qF (ar (ac 0 (pv 0)) ae (fun _ _=>rfl)) (ar (ac 1 (pv 1)) ae (fun _ _=>rfl))))
   (aj (aC (i:=3) sc_said.nd rfl oo (bu qF (ar (ac 1 (pv 1)) ae (fun _ _=>rfl)) (ar (ac 0 (pv 0)) ae (fun _ _=>rfl))))
   (aj (cG (aN vZ (ac 2 (pv 2)) (ac 3 (pv 3)) (aB _)) (ai (aE ae)) aQ)
   (aj (cG (aN zT (ac 2 (pv 2)) (ac 3 (pv 3)) (aB _)) (ai (aE (mY gx ae))) aQ)
   (ai (aE ae)))))))) (fun ds Q hl h=>?_)
 unfold wA at h
 split at h
 case h_2=>exact h.elim
 rename_i t w t' w'
 obtain⟨⟨b1,b2,b3,b4⟩,h⟩:=h
 unfold fC at h
 refine⟨⟨rfl,rfl⟩,fun e=>Br.t ?_,fun e=>⟨⟨rfl,rfl⟩,fun e'=>?_,fun e'=>?_⟩⟩
 ·have e:t=0:=by simpa[bB]using e
  rw[if_pos (.inl e)]at h
  exact h
 ·have e':t'=0:=by simpa[bB]using e'
  rw[if_pos (.inr e')]at h
  exact h
 ·have e:t≠0:=by simpa[bB]using e
  have e':t'≠0:=by simpa[bB]using e'
  rw[if_neg (by simp[e,e'])]at h
  refine⟨b2.cmul b3,b4.cmul b1,⟨fun c=>?_,fun c=>⟨fun c'=>?_,fun c'=>?_⟩⟩⟩
  ·have c:w'*t<w*t':=by simpa using c
   rw[if_pos (by rw[zyR t w'];exact c)]at h
   exact h
  ·have c:¬w'*t<w*t':=by simpa using c
   have c':w*t'<w'*t:=by simpa using c'
   rw[if_neg (by rw[zyR t w'];exact c),if_pos (by rw[zyR t w'];exact c')]at h
   exact h
  ·have c:¬w'*t<w*t':=by simpa using c
   have c':¬w*t'<w'*t:=by simpa using c'
   rw[if_neg (by rw[zyR t w'];exact c),if_neg (by rw[zyR t w'];exact c')]at h
   exact h
structure Cnt(n:Nat)(t w:Int):Prop where
 lo:0 <= w
 hi:w <= t
 bt:Bd n t
 bw:Bd n w
theorem Cnt.mono{m n:Nat}{t w:Int}(h:Cnt m t w)(l:m <= n):Cnt n t w:=⟨h.lo,h.hi,h.bt.mono l,h.bw.mono l⟩
theorem kj{n:Nat}{t w:Int}(lo:0 <= w)(hi:w <= t)(b:Bd n t):Cnt n t w:=⟨lo,hi,b,b.le (by omega)⟩
abbrev Row:=List (Int×Int)
def rowD(r:Row):D:=.tup (r.map aI)
def RowN(n m:Nat)(r:Row):Prop:=r.length=m/\∀c∈r,Cnt n c.1 c.2
abbrev yH(m:Nat)(r:Row):Prop:=RowN 200 m r
theorem RowN.up{n m:Nat}{r:Row}(o:RowN n m r)(h:n <= 200:=by decide):yH m r:=⟨o.1,fun c hc=>(o.2 c hc).mono h⟩
structure Tbl(m:Nat)(t:List Row):Prop where
 m2:2 <= m
 m6:m <= 6
 p1:1 <= t.length
 p60:t.length <= 100
 rows:∀r∈t,yH m r
def at_(r:Row)(h:Nat):Int×Int:=r.getD h (0,0)
def col(t:List Row)(h:Nat):List (Int×Int):=t.map fun r=>at_ r h
def sumP(cs:List (Int×Int)):Int×Int:=((cs.map (·.1)).sum,(cs.map (·.2)).sum)
def sums(t:List Row)(m:Nat):Row:=(List.range m).map fun h=>sumP (col t h)
theorem bI{n m:Nat}{r:Row}(o:RowN n m r){h:Nat}(hh:h<m):r[h]? = some (at_ r h)/\Cnt n (at_ r h).1 (at_ r h).2:=by
 have hl:h<r.length:=by rw[o.1];exact hh
 have e:r[h]? = some (at_ r h):=by
  unfold at_
  rw[zzg]
  simp[hl]
 exact⟨e,o.2 _ (zzH e)⟩
theorem km{n m:Nat}{r:Row}(o:RowN n m r){h:Int}{Q:D->Prop}(h0:0 <= h)(h1:h<m)(q:Q (aI (at_ r h.toNat))):opt (atI (r.map aI) h) Q:=by
 refine eh h0 ?_ q
 rw[zzn,(bI o (h:=h.toNat) (by omega)).1]
 rfl
def Aw:DSp:=fun ds Q=>match ds with
 |[.int x,.int lo,.int hi]=>(lo <= x/\x <= hi)/\Q (.bl true)
 |_=>False
theorem dm:bj Aw:=fun ds P P' f h=>by
 unfold Aw at h ⊢
 split at h
 ·exact⟨h.1,f _ h.2⟩
 ·exact h.elim
theorem dq(T:Tx K mg):FnOk P w K mg base CX0 2 T.ik T.fT ["thing","least","most"] (spD K 3 Aw):=by
 refine fnD (k:=1) T.aD.F rp (fun cdv A outer s H E hr=>(ai (aE (Bm (ag (wx T) ww (rm hr) rfl T.eE.m T.eE.F.kp T.eE.b (aa (ac 0 (pv 0)) ad)) (Bl (zQ Fi Fi (ac 1 (pv 1)) (ac 0 (pv 0)) (ac 2 (pv 2)))))))) (fun ds Q hl h=>?_)
 unfold Aw at h
 split at h
 case h_2=>exact h.elim
 rename_i x lo hi
 obtain⟨⟨h1,h2⟩,h⟩:=h
 have h':Q (.bl (decide (x <= hi))):=by rw[decide_eq_true h2];exact h
 exact⟨rfl,rfl,Br.t (Br.dt h1 h')⟩
def gChH:DSp:=fun ds Q=>match ds with
 |[.int m,.int h]=>(0 <= h/\h<m)/\Q .non
 |_=>False
theorem iM:bj gChH:=fun ds P P' f h=>by
 unfold gChH at h ⊢
 split at h
 ·exact⟨h.1,f _ h.2⟩
 ·exact h.elim
theorem iN(T:Tx K mg):FnOk P w K mg base CX0 3 T.eY T.dX ["many","house"] (spD K 2 gChH):=by
 refine fnD (k:=2) T.bn.F nv (fun cdv A outer s H E hr=>(ai (cG (nE (lD (ag (dq T) dm (rm hr) rfl T.aD.m T.aD.F.kp T.aD.b (aa (ac 1 (pv 1)) (aa ae (aa (bu fq (ac 0 (pv 0)) ae) ad)))))) (ai cK) aQ))) (fun ds Q hl h=>?_)
 unfold gChH at h
 split at h
 case h_2=>exact h.elim
 obtain⟨⟨h1,h2⟩,h⟩:=h
 exact⟨rfl,⟨h1,by omega⟩,Br.f h⟩
def gHs:DSp:=fun ds Q=>match ds with
 |[.lst (.tup xs::_)]=>Q (.int xs.length)
 |_=>False
theorem me:bj gHs:=fun ds P P' f h=>by
 unfold gHs at h ⊢
 split at h
 ·exact f _ h
 ·exact h.elim
theorem mf(T:Tx K mg):FnOk P w K mg base CX0 1 T.hV T.fY ["table"] (spD K 1 gHs):=by
 refine fnD (k:=0) T.bJ.F rq (fun cdv A outer s H E hr=>(ai (aE (aM ft rfl T.gv zyb (aa (ar (ac 0 (pv 0)) ae (fun _ _=>rfl)) ad))))) (fun ds Q hl h=>?_)
 unfold gHs at h
 split at h
 case h_2=>exact h.elim
 rename_i xs r
 exact eh (zyn 0) rfl h
theorem nU{m:Nat}{t:List Row}(o:Tbl m t){Q:D->Prop}(q:Q (.int m)):gHs [.lst (t.map rowD)] Q:=by
 cases t with
 |nil=>have:=o.p1;simp at this
 |cons r rest =>
  have:=(o.rows r zzd).1
  show Q (.int ((r.map aI).length:Nat))
  rw[zza,this]
  exact q
theorem Ax{m:Nat}{t:List Row}(ho:∀r∈t,yH m r)(hl:t.length <= 1000){h:Int}(h0:0 <= h)(h1:h<m){s:Sl}{Q:List D->Prop}(q:Q ((col t h.toNat).map aI)) :
  cE (dg 0) bP (dOp gIx (dVar 0) (dVar 1)) (t.map rowD) [] [s,.val (.int h)] Q:=by
 refine bb (fun pre acc ρ=>∃t0 t1:List Row,t=t0++t1/\pre=t0.map rowD/\acc=(col t0 h.toNat).map aI/\∃s,ρ=[s,.val (.int h)]) (fun acc ρ hN=>?_) (fun pre d post acc ρ Y e hN hY=>?_) _ ⟨[],t,rfl,rfl,rfl,_,rfl⟩
 ·obtain⟨t0,t1,rfl,e,rfl,_⟩:=hN
  have:t1=[]:=by
   have:=congrArg List.length e
   simp at this
   exact this
  subst this
  simpa using q
 ·obtain⟨t0,t1,rfl,rfl,rfl,s,rfl⟩:=hN
  rw[zzo]at e
  have e:=zzO e
  cases t1 with
  |nil=>simp at e
  |cons r t1 =>
   rw[zze]at e
   injection e with e1 e2
   subst e1
   have o:=ho r (by simp)
   refine Br.t (km o h0 h1 ⟨?_,hY _ _ ⟨t0++[r],t1,by simp,by simp,by simp[col],_,rfl⟩⟩)
   rw[zza]
   unfold col
   rw[zza]
   have:t0.length <= 1000:=by rw[zzl]at hl;omega
   exact zzD this (by decide)
def gTbh:DSp:=fun ds Q=>match ds with
 |[.int m,.lst xs]=>∃(n:Nat) (t:List Row),m=n/\xs=t.map rowD/\(n <= 6/\t.length <= 1000/\∀r∈t,yH n r)/\Q (rowD (sums t n))
 |_=>False
theorem bX:bj gTbh:=fun ds P P' f h=>by
 unfold gTbh at h ⊢
 split at h
 ·obtain⟨n,t,a,b,c,h⟩:=h
  exact⟨n,t,a,b,c,f _ h⟩
 ·exact h.elim
theorem bf:∀(n:Nat) (lo:Int),eJ lo n=(List.range n).map fun(i:Nat)=>D.int (lo+i)
 |0,_=>rfl
 |n+1,lo=>by
  rw[zyX,zze,zzh,eJ,bf n (lo+1)]
  congr 1
  ·simp
  ·apply zzp
   intro i _
   simp only[Function.comp]
   congr 1
   omega
theorem bY(T:Tx K mg):FnOk P w K mg base CX0 2 T.bZ T.bR ["many","rows"] (spD K 2 gTbh):=by
 refine fnD (k:=1) T.au.F gu (fun cdv A outer s H E hr=>(ai (aE (aO bH rfl T.bS rfl (aa (aF (PCD.pld (aA (N':=["house","rows"]) rfl rfl dk rfl (.own (.cap (j:=1) rfl oo rfl .nil)) dk (cg rfl T.cS (aa (ac 0 (pv 0)) ad)) (fun B=>(ao (i:=0) ndB rfl oo)) (fun B=>aL) (fun B=>(ag (wz T) wy (rm hr) rfl T.eC.m T.eC.F.kp T.eC.b (aa (aF (PCD.pld (aA (N':=["row","house"]) rfl rfl dk rfl (.own (.cap (j:=0) rfl oo rfl .nil)) dk (bF (ac 1 (pv 1))) (fun B=>(ao (i:=0) ndB rfl oo)) (fun B=>aL) (fun B=>(ar (ac 0 (pv 0)) (ac 1 (pv 1)) (fun _ _=>rfl)))))) ad)))))) ad))))) (fun ds Q hl h=>?_)
 unfold gTbh at h
 split at h
 case h_2=>exact h.elim
 obtain⟨n,t,rfl,rfl,⟨h6,h1000,ho⟩,h⟩:=h
 refine⟨⟨by omega,by omega⟩,?_⟩
 rw[zzP]
 refine bd (fun d=>match d with|.int i=>aI (sumP (col t i.toNat))|_=>.non) (fun ρ=>∃s,ρ=[s,.val (.lst (t.map rowD))]) ?_ (fun d hd ρ Y Z hN hY=>?_) _ ⟨_,rfl⟩ ?_
 ·rw[bf,zza,zzJ]
  exact zzk h6 (by decide)
 ·obtain⟨s,rfl⟩:=hN
  rw[bf]at hd
  obtain⟨i,hi,rfl⟩:=zzb.mp hd
  have hi:=zzy.mp hi
  refine Br.t (Ax ho h1000 (by omega) (by omega) ⟨rfl,col t (0+(i:Int)).toNat,rfl,?_,hY _ ⟨_,rfl⟩⟩)
  unfold col
  rw[zza]
  exact h1000
 ·show Q (.tup (List.map _ (eJ 0 n)))
  have e:(eJ 0 n).map (fun d=>match d with|.int i=>aI (sumP (col t i.toNat))|_=>.non)=(sums t n).map aI:=by
   rw[bf,zzh]
   unfold sums
   rw[zzh]
   apply zzp
   intro i _
   show aI (sumP (col t (0+(i:Int)).toNat))=aI (sumP (col t i))
   congr 3
   omega
  rw[e]
  exact h
def Ay:DSp:=fun ds Q=>match ds with
 |[.lst xs]=>∃(n:Nat) (t:List Row),xs=t.map rowD/\Tbl n t/\Q (rowD (sums t n))
 |_=>False
theorem yI:bj Ay:=fun ds P P' f h=>by
 unfold Ay at h ⊢
 split at h
 ·obtain⟨n,t,a,b,h⟩:=h
  exact⟨n,t,a,b,f _ h⟩
 ·exact h.elim
theorem yJ(T:Tx K mg):FnOk P w K mg base CX0 3 T.mT T.jS ["table"] (spD K 1 Ay):=by
 refine fnD (k:=2) T.fQ.F wv (fun cdv A outer s H E hr=>(ai (aE (ag (bY T) bX (rm hr) rfl T.au.m T.au.F.kp T.au.b (aa (ag (mf T) me (rm hr) rfl T.bJ.m T.bJ.F.kp T.bJ.b (aa (ac 0 (pv 0)) ad)) (aa (ac 0 (pv 0)) ad)))))) (fun ds Q hl h=>?_)
 unfold Ay at h
 split at h
 case h_2=>exact h.elim
 obtain⟨n,t,rfl,o,h⟩:=h
 refine⟨rfl,nU o ⟨rfl,n,t,rfl,rfl,⟨o.m6,zzk o.p60 (by decide),o.rows⟩,h⟩⟩
def gChP:DSp:=fun ds Q=>match ds with
 |[.int m,.int a,.int b]=>(0 <= a/\a<m/\0 <= b/\b<m/\a≠b)/\Q .non
 |_=>False
theorem fE:bj gChP:=fun ds P P' f h=>by
 unfold gChP at h ⊢
 split at h
 ·exact⟨h.1,f _ h.2⟩
 ·exact h.elim
theorem fF(T:Tx K mg):FnOk P w K mg base CX0 4 T.fV T.eW ["many","a","b"] (spD K 3 gChP):=by
 refine fnD (k:=3) T.aT.F oX (fun cdv A outer s H E hr=>(aj (fj (ag (iN T) iM (rm hr) rfl T.bn.m T.bn.F.kp T.bn.b (aa (ac 0 (pv 0)) (aa (ac 1 (pv 1)) ad))))
   (aj (fj (ag (iN T) iM (rm hr) rfl T.bn.m T.bn.F.kp T.bn.b (aa (ac 0 (pv 0)) (aa (ac 2 (pv 2)) ad))))
   (ai (cG (aN (eL hr) (ac 1 (pv 1)) (ac 2 (pv 2)) (aB _)) (ai cK) aQ))))) (fun ds Q hl h=>?_)
 unfold gChP at h
 split at h
 case h_2=>exact h.elim
 obtain⟨⟨h1,h2,h3,h4,h5⟩,h⟩:=h
 refine⟨rfl,⟨h1,h2⟩,rfl,⟨h3,h4⟩,⟨rfl,rfl⟩,fun z=>?_,fun _=>h⟩
 exact absurd (by simpa[bB]using z) h5
def kI(ks:List Int):List Key:=ks.map .inl
def aw(ks:List Int):D:=.tup (ks.map .int)
theorem dS(ks:List Int):aw ks=keyD (kI ks):=by
 unfold keyD kI aw
 rw[zzh]
 rfl
theorem ko{a b:List Int}(h:kI a=kI b):a=b:=by
 unfold kI at h
 exact(List.map_inj_right (fun _ _ e=>Sum.inl.inj e)).mp h
theorem wB{a b:List Int}:(kI a=kI b)↔a=b:=⟨ko,fun e=>by rw[e]⟩
theorem pC(ks:List Int):oR (kI ks):=fun x hx=>by
 obtain⟨i,_,rfl⟩:=zzb.mp hx
 exact⟨i,rfl⟩
def addG(k:List Int)(r:Row):List (List Int×List Row)->List (List Int×List Row)
 |[]=>[(k,[r])]
 |p::t=>if p.1=k then(p.1,p.2++[r])::t else p::addG k r t
def grp(ps:List (List Int×Row)):List (List Int×List Row):=ps.foldl (fun g p=>addG p.1 p.2 g) []
theorem uX(ps:List (List Int×Row))(p:List Int×Row):grp (ps++[p])=addG p.1 p.2 (grp ps):=by
 unfold grp
 rw[List.foldl_append]
 rfl
def emb(g:List (List Int×List Row)):List (List Key×List D):=g.map fun p=>(kI p.1,p.2.map rowD)
def embV(g:List (List Int×List Row)):List (List Key×D):=g.map fun p=>(kI p.1,.lst (p.2.map rowD))
theorem yK(k:List Int)(r:Row):∀g,nq (kI k) (rowD r) (emb g)=emb (addG k r g)
 |[]=>rfl
 |p::t=>by
  show nq (kI k) (rowD r) ((kI p.1,p.2.map rowD)::emb t)=_
  unfold nq addG
  by_cases e:p.1=k
  ·rw[if_pos (show (kI p.1,p.2.map rowD).1=kI k by rw[e]),if_pos e]
   simp[emb]
  ·rw[if_neg (show ¬(kI p.1,p.2.map rowD).1=kI k from fun z=>e (ko z)),if_neg e,yK k r t]
   rfl
theorem kQ(k:List Int)(r:Row):∀g:List (List Int×List Row),(addG k r g).map (·.1)=if k∈g.map (·.1) then g.map (·.1) else g.map (·.1)++[k]
 |[]=>rfl
 |p::t=>by
  unfold addG
  by_cases e:p.1=k
  ·rw[if_pos e,if_pos (by simp[e])]
   rfl
  ·rw[if_neg e,zze,kQ k r t]
   by_cases m:k∈t.map (·.1)
   ·rw[if_pos m,if_pos (by rw[zze];exact zzc _ m),zze]
   ·rw[if_neg m,if_neg (by rw[zze];intro z;rcases zzi.mp z with z|z;exact e z.symm;exact m z),zze]
    rfl
structure GOk(C:List Int->Prop)(R:Row->Prop)(n:Nat)(g:List (List Int×List Row)):Prop where
 nd:(g.map (·.1)).Nodup
 it:∀p∈g,C p.1/\p.2≠[]/\p.2.length <= n/\∀r∈p.2,R r
 len:g.length <= n
theorem GOk.add{C:List Int->Prop}{R:Row->Prop}{n:Nat}{g:List (List Int×List Row)}(h:GOk C R n g){k:List Int}{r:Row}(hk:C k)(hr:R r):GOk C R (n+1) (addG k r g):=by
 refine⟨?_,?_,?_⟩
 ·rw[kQ]
  split
  ·exact h.nd
  ·rename_i m
   refine zyN.mpr ⟨h.nd,by simp,fun a ha b hb e=>?_⟩
   rw[zzw.mp hb]at e
   exact m (e ▸ ha)
 ·have key:∀g:List (List Int×List Row),(∀p∈g,C p.1/\p.2≠[]/\p.2.length <= n/\∀r∈p.2,R r)->∀p∈addG k r g,C p.1/\p.2≠[]/\p.2.length <= n+1/\∀r∈p.2,R r:=by
   intro g
   induction g with
   |nil =>
    intro _ p hp
    rw[zzw.mp hp]
    exact⟨hk,by simp,by simp,fun x hx=>by rw[zzw.mp hx];exact hr⟩
   |cons q t ih =>
    intro h p hp
    unfold addG at hp
    split at hp
    ·rcases zzi.mp hp with rfl|hp
     ·have:=h q zzd
      refine⟨this.1,by simp,by simp;exact this.2.2.1,fun x hx=>?_⟩
      rcases zzx.mp hx with hx|hx
      ·exact this.2.2.2 x hx
      ·rw[zzw.mp hx];exact hr
     ·have:=h p (zzc _ hp)
      exact⟨this.1,this.2.1,Nat.le_succ_of_le this.2.2.1,this.2.2.2⟩
    ·rcases zzi.mp hp with rfl|hp
     ·have:=h p zzd
      exact⟨this.1,this.2.1,Nat.le_succ_of_le this.2.2.1,this.2.2.2⟩
     ·exact ih (fun p hp=>h p (zzc _ hp)) p hp
  exact key g h.it
 ·have:=congrArg List.length (kQ k r g)
  rw[zza]at this
  rw[this]
  split
  ·rw[zza];exact Nat.le_succ_of_le h.len
  ·rw[zzl,zza];simp;exact h.len
theorem rE{C:List Int->Prop}{R:Row->Prop}:∀(ps:List (List Int×Row)),(∀p∈ps,C p.1/\R p.2)->GOk C R ps.length (grp ps):=by
 intro ps
 generalize hn:ps.length=n
 induction n generalizing ps with
 |zero =>
  intro _
  have:ps=[]:=zzN.mp hn
  subst this
  exact⟨zyP,fun p hp=>by simp[grp]at hp,zzG _⟩
 |succ n ih =>
  intro h
  obtain⟨qs,p,rfl⟩:∃qs p,ps=qs++[p]:=⟨ps.dropLast,ps.getLast (by intro z;rw[z]at hn;simp at hn),(List.dropLast_concat_getLast _).symm⟩
  rw[uX]
  have hp:=h p (by simp)
  exact(ih qs (by simp at hn;exact hn) fun q hq=>h q (by simp[hq])).add hp.1 hp.2
def cV(g:List (List Int×List Row))(k:List Int):List Row:=((g.find? fun p=>decide (p.1=k)).map (·.2)).getD []
theorem yL{g:List (List Int×List Row)}{k:List Int}(h:k∈g.map (·.1)):∃p∈g,p.1=k/\cV g k=p.2/\gt (embV g) (kI k)=some (.lst (p.2.map rowD)):=by
 induction g with
 |nil=>simp at h
 |cons q t ih =>
  by_cases e:q.1=k
  ·refine⟨q,zzd,e,?_,?_⟩
   ·unfold cV
    rw[zzZ (by simpa using e)]
    rfl
   ·unfold gt embV
    rw[zze,zzZ (by simpa[wB]using e)]
    rfl
  ·have h':k∈t.map (·.1):=by
    rw[zze]at h
    rcases zzi.mp h with h|h
    ·exact absurd h.symm e
    ·exact h
   obtain⟨p,h1,h2,h3,h4⟩:=ih h'
   refine⟨p,zzc _ h1,h2,?_,?_⟩
   ·unfold cV at h3 ⊢
    rw[zya (by simpa using e)]
    exact h3
   ·unfold gt embV at h4 ⊢
    rw[zze,zya (by simpa[wB]using e)]
    exact h4
def dU(ks:List (List Int)):List (List Int):=if ks.length<2 then ks else(kRun (fun i j=>lexI ((ks.map kI).getD i []) ((ks.map kI).getD j [])) (PySem.W.kas_sort ks.length)).toList.map fun i=>ks.getD i []
theorem mh(ks:List (List Int))(i:Nat):(ks.map kI).getD i []=kI (ks.getD i []):=by
 rw[zzg,zzg,zzn]
 cases ks[i]?<;>rfl
theorem tF(ks:List (List Int)):srtK (ks.map kI)=(dU ks).map kI:=by
 unfold srtK dU
 rw[zza]
 split
 ·rfl
 ·rw[zzh]
  apply zzp
  intro i _
  exact mh ks i
theorem aV(ks:List (List Int)):(dU ks).Perm ks:=by
 unfold dU
 split
 ·exact List.Perm.refl _
 ·exact qU (KGood.end _ _ (cq (by omega)))
def aX(c:List Int×Row):D:=.tup [aw c.1,rowD c.2]
def az(m:Nat)(ps:List (List Int×Row)):List (List Int×Row):=(dU ((grp ps).map (·.1))).map fun k=>(k,sums (cV (grp ps) k) m)
def cF(r:Row):Prop:=∃c∈r,0<c.1
theorem Ga{ns:List Int}(h:∀n∈ns,0 <= n):∀x∈ns,x <= ns.sum/\0 <= ns.sum:=by
 induction ns with
 |nil=>intro x hx;simp at hx
 |cons a r ih =>
  intro x hx
  have h0:=h a zzd
  have hr:0 <= r.sum:=by
   cases r with
   |nil=>simp
   |cons b t=>exact(ih (fun n hn=>h n (zzc _ hn)) b zzd).2
  rw[zzB]
  rcases zzi.mp hx with rfl|hx
  ·omega
  ·have:=(ih (fun n hn=>h n (zzc _ hn)) x hx).1
   omega
theorem nV{n m:Nat}{rows:List Row}(ho:∀r∈rows,RowN n m r)(hne:rows≠[])(ht:∀r∈rows,cF r):cF (sums rows m):=by
 cases rows with
 |nil=>exact absurd rfl hne
 |cons r0 rs =>
  obtain⟨c,hc,hpos⟩:=ht r0 zzd
  obtain⟨h,hh⟩:=List.getElem?_of_mem hc
  have hm:h<m:=by
   have:=(zzt.mp hh).1
   rw[(ho r0 zzd).1]at this
   exact this
  refine⟨sumP (col (r0::rs) h),zzb.mpr ⟨h,zzy.mpr hm,rfl⟩,?_⟩
  have e:at_ r0 h=c:=by
   unfold at_
   rw[zzg,hh]
   rfl
  have hin:c.1∈(col (r0::rs) h).map (·.1):=zzb.mpr ⟨c,zzb.mpr ⟨r0,zzd,e⟩,rfl⟩
  have hall:∀x∈(col (r0::rs) h).map (·.1),0 <= x:=fun x hx=>by
   obtain⟨d,hd,rfl⟩:=zzb.mp hx
   obtain⟨r,hr,rfl⟩:=zzb.mp hd
   have:=(bI (ho r hr) hm).2
   have h1:=this.lo
   have h2:=this.hi
   omega
  have:=(Ga hall _ hin).1
  unfold sumP
  dsimp only
  omega
theorem Gb(ds:List D):fzOs (ds.map O.val)=ds:=by
 induction ds with
 |nil=>rfl
 |cons d r ih=>simp only[zze,fzOs,fzO,ih]
theorem Hz(g:List (List Int×List Row)):fzO (dlO (emb g))=.dT ((embV g).map (·.1)) ((embV g).map (·.2)):=by
 unfold dlO emb embV
 simp only[fzO]
 refine congr (congrArg D.dT ?_) ?_
 ·rw[zzh,zzh]
  rfl
 ·rw[oJ,zzh,zzh,zzh]
  apply zzp
  intro p _
  simp only[Function.comp,fzO,Gb]
theorem yM{l:Nat}{ks:List (List Int)}(nd:ks.Nodup)(hl:∀k∈ks,k.length=l)(h2:2 <= ks.length):∀k∈ks,k≠[]:=by
 intro k hk z
 subst z
 have l0:l=0:=(hl [] hk).symm
 subst l0
 match ks,nd,hl,h2 with
 |a::b::r,nd,hl,_ =>
  have ha:a=[]:=zzN.mp (hl a (by simp))
  have hb:b=[]:=zzN.mp (hl b (by simp))
  subst ha hb
  simp at nd
 |[_],_,_,h2=>simp at h2
 |[],_,_,h2=>simp at h2
def ltI:List Int->List Int->Bool
 |[],[]=>false
 |[],_::_=>true
 |_::_,[]=>false
 |a::r,b::r'=>if a=b then ltI r r' else decide (a<b)
theorem mi:∀a b:List Int,lexI (kI a) (kI b)=ltI a b
 |[],[]=>rfl
 |[],_::_=>rfl
 |_::_,[]=>rfl
 |a::r,b::r'=>by
  show (if a=b then lexI (kI r) (kI r') else decide (a<b))=if a=b then ltI r r' else decide (a<b)
  rw[mi r r']
theorem jH:∀a:List Int,ltI a a=false
 |[]=>rfl
 |a::r=>by
  show (if a=a then ltI r r else _)=_
  rw[if_pos rfl]
  exact jH r
theorem yN:∀a b c:List Int,ltI a b=true->ltI b c=true->ltI a c=true
 |[],[],_,h,_=>by cases h
 |[],_::_,[],_,h=>by cases h
 |[],_::_,_::_,_,_=>rfl
 |_::_,[],_,h,_=>by cases h
 |_::_,_::_,[],_,h=>by cases h
 |a::r,b::s,c::t,h1,h2=>by
  unfold ltI at h1 h2 ⊢
  by_cases e1:a=b
  ·rw[if_pos e1]at h1
   subst e1
   by_cases e2:a=c
   ·rw[if_pos e2]at h2 ⊢
    exact yN r s t h1 h2
   ·rw[if_neg e2]at h2 ⊢
    exact h2
  ·rw[if_neg e1]at h1
   have h1:=of_decide_eq_true h1
   by_cases e2:b=c
   ·subst e2
    rw[if_neg e1]
    exact decide_eq_true h1
   ·rw[if_neg e2]at h2
    have h2:=of_decide_eq_true h2
    rw[if_neg (by omega)]
    exact decide_eq_true (by omega)
theorem BF{a b:List Int}(h:ltI a b=true):ltI b a=false:=by
 cases e:ltI b a with
 |false=>rfl
 |true =>
  have:=yN a b a h e
  rw[jH]at this
  cases this
theorem BG:∀a b:List Int,a≠b->ltI a b=false->ltI b a=true
 |[],[],h,_=>absurd rfl h
 |[],_::_,_,h=>by cases h
 |_::_,[],_,_=>rfl
 |a::r,b::s,h,e=>by
  unfold ltI at e ⊢
  by_cases z:a=b
  ·subst z
   rw[if_pos rfl]at e ⊢
   exact BG r s (fun z=>h (by rw[z])) e
  ·rw[if_neg z]at e
   rw[if_neg (Ne.symm z)]
   have:=of_decide_eq_false e
   exact decide_eq_true (by omega)
theorem iO{ks:List (List Int)}(nd:ks.Nodup):(dU ks).Pairwise fun a b=>ltI a b=true:=by
 unfold dU
 by_cases h:ks.length<2
 ·rw[if_pos h]
  match ks,h with
  |[],_=>exact .nil
  |[_],_=>exact List.pairwise_singleton _ _
 ·rw[if_neg h]
  have gd:∀i,i<ks.length->ks[i]? = some (ks.getD i []):=fun i hi=>by simp[hi]
  have O:StrO ks.length (fun i j=>lexI ((ks.map kI).getD i []) ((ks.map kI).getD j [])):=by
   refine⟨fun i j k _ _ _ h1 h2=>?_,fun i j _ _ h1=>?_,fun i j hi hj e h1=>?_⟩
   ·simp only[mh,mi]at *
    exact yN _ _ _ h1 h2
   ·simp only[mh,mi]at *
    exact BF h1
   ·simp only[mh,mi]at *
    refine BG _ _ (fun z=>e ?_) h1
    have e1:ks.getD i []=ks[i]:=by simp[hi]
    have e2:ks.getD j []=ks[j]:=by simp[hj]
    rw[e1,e2]at z
    exact(zyQ nd).mp z
  have pm:=KGood.end (fun i j=>lexI ((ks.map kI).getD i []) ((ks.map kI).getD j [])) _ (cq (N:=ks.length) (by omega))
  have as:=Ak O (by omega)
  have sz:=pm.size
  generalize kRun (fun i j=>lexI ((ks.map kI).getD i []) ((ks.map kI).getD j [])) (PySem.W.kas_sort ks.length)=p at pm as sz
  rw[List.pairwise_map,List.pairwise_iff_getElem]
  intro i j hi hj hij
  have:=as i j hij (by rw[zyE]at hj;omega)
  simp only[mh,mi]at this
  rw[zyE]at hi hj
  have e1:p.getD i 0=p[i]:=by simp[Array.getD,hi]
  have e2:p.getD j 0=p[j]:=by simp[Array.getD,hj]
  rw[e1,e2]at this
  simpa using this
theorem yO:∀{xs ys:List (List Int)},xs.Pairwise (fun a b=>ltI a b=true)->ys.Pairwise (fun a b=>ltI a b=true)->(∀k,k∈xs↔k∈ys)->xs=ys
 |[],[],_,_,_=>rfl
 |[],y::ys,_,_,h=>absurd ((h y).mpr zzd) (by simp)
 |x::xs,[],_,_,h=>absurd ((h x).mp zzd) (by simp)
 |x::xs,y::ys,hx,hy,h=>by
  obtain⟨hx1,hx2⟩:=List.pairwise_cons.mp hx
  obtain⟨hy1,hy2⟩:=List.pairwise_cons.mp hy
  have exy:x=y:=by
   rcases zzi.mp ((h x).mp zzd) with e|e
   ·exact e
   ·rcases zzi.mp ((h y).mpr zzd) with e'|e'
    ·exact e'.symm
    ·have a:=hy1 x e
     have b:=hx1 y e'
     rw[BF a]at b
     cases b
  subst exy
  have ni:∀{zs:List (List Int)},(∀z∈zs,ltI x z=true)->x∉zs:=fun hz m=>by
   have:=hz x m
   rw[jH]at this
   cases this
  rw[yO hx2 hy2 fun k=>⟨fun hk=>?_,fun hk=>?_⟩]
  ·rcases zzi.mp ((h k).mp (zzc _ hk)) with rfl|e
   ·exact absurd hk (ni hx1)
   ·exact e
  ·rcases zzi.mp ((h k).mpr (zzc _ hk)) with rfl|e
   ·exact absurd hk (ni hy1)
   ·exact e
theorem yP{xs ys:List (List Int)}(hx:xs.Nodup)(hy:ys.Nodup)(h:∀k,k∈xs↔k∈ys):dU xs=dU ys :=
 yO (iO hx) (iO hy) fun k=>by rw[(aV xs).mem_iff,(aV ys).mem_iff];exact h k
theorem uY(ps:List (List Int×Row)):((grp ps).map (·.1)).Nodup:=(rE (C:=fun _=>True) (R:=fun _=>True) ps fun _ _=>⟨trivial,trivial⟩).nd
theorem uZ(k:List Int)(r:Row)(k':List Int):∀g:List (List Int×List Row),cV (addG k r g) k'=if k=k' then cV g k'++[r] else cV g k'
 |[]=>by
  unfold addG cV
  by_cases e:k=k'
  ·rw[if_pos e,zzZ (by simpa using e)]
   rfl
  ·rw[if_neg e,zya (by simpa using e)]
 |p::t=>by
  have ih:=uZ k r k' t
  unfold addG
  unfold cV at ih ⊢
  by_cases e:p.1=k
  ·rw[if_pos e]
   by_cases e2:k=k'
   ·rw[if_pos e2,zzZ (by simp[e,e2]),zzZ (by simp[e,e2])]
    rfl
   ·rw[if_neg e2,zya (by simp[e,e2]),zya (by simp[e,e2])]
  ·rw[if_neg e]
   by_cases e2:p.1=k'
   ·rw[zzZ (by simpa using e2),zzZ (by simpa using e2),if_neg (fun z=>e (by rw[e2,z]))]
   ·rw[zya (by simpa using e2),zya (by simpa using e2)]
    exact ih
theorem jI(ps:List (List Int×Row))(k:List Int):cV (grp ps) k=(ps.filter fun p=>decide (p.1=k)).map (·.2):=by
 have key:∀(qs:List (List Int×Row)) g,cV (qs.foldl (fun g (p:List Int×Row)=>addG p.1 p.2 g) g) k=cV g k++(qs.filter fun p=>decide (p.1=k)).map (·.2):=by
  intro qs
  induction qs with
  |nil=>intro g;simp
  |cons q t ih =>
   intro g
   rw[List.foldl_cons,ih,uZ]
   by_cases e:q.1=k
   ·rw[if_pos e,zyq (by simpa using e),zze,zyC]
    rfl
   ·rw[if_neg e,zyr (by simpa using e)]
 rw[grp,key]
 rfl
theorem pD(ps:List (List Int×Row))(k:List Int):k∈(grp ps).map (·.1)↔k∈ps.map (·.1):=by
 have key:∀(qs:List (List Int×Row)) g,k∈(qs.foldl (fun g (p:List Int×Row)=>addG p.1 p.2 g) g).map (·.1)↔k∈g.map (·.1)∨k∈qs.map (·.1):=by
  intro qs
  induction qs with
  |nil=>intro g;simp
  |cons q t ih =>
   intro g
   rw[List.foldl_cons,ih,kQ,zze,zzi]
   by_cases m:q.1∈g.map (·.1)
   ·rw[if_pos m]
    constructor
    ·rintro(h|h)
     ·exact .inl h
     ·exact .inr (.inr h)
    ·rintro(h|h|h)
     ·exact .inl h
     ·exact .inl (h ▸ m)
     ·exact .inr h
   ·rw[if_neg m,zzx,zzw]
    constructor
    ·rintro((h|h)|h)
     ·exact .inl h
     ·exact .inr (.inl h)
     ·exact .inr (.inr h)
    ·rintro(h|h|h)
     ·exact .inl (.inl h)
     ·exact .inl (.inr h)
     ·exact .inr h
 rw[grp,key]
 simp
theorem gi{m:Nat}{ps qs:List (List Int×Row)}(hk:∀k,k∈ps.map (·.1)↔k∈qs.map (·.1))(hs:∀k∈ps.map (·.1),sums ((ps.filter fun p=>decide (p.1=k)).map (·.2)) m=sums ((qs.filter fun p=>decide (p.1=k)).map (·.2)) m):az m ps=az m qs:=by
 unfold az
 rw[yP (uY ps) (uY qs) fun k=>by rw[pD,pD];exact hk k]
 apply zzp
 intro k h
 have h:k∈ps.map (·.1):=by
  rw[(aV _).mem_iff,pD]at h
  exact(hk k).mpr h
 rw[jI,jI,hs k h]
def dr(r:Row):Bool:=(r.map fun c=>decide (0<c.1)).any id
theorem triedB_iff{r:Row}:dr r=true↔cF r:=by
 unfold dr cF
 rw[List.any_eq_true]
 constructor
 ·rintro⟨b,hb,e⟩
  obtain⟨c,hc,rfl⟩:=zzb.mp hb
  exact⟨c,hc,by simpa using e⟩
 ·rintro⟨c,hc,hp⟩
  exact⟨true,zzb.mpr ⟨c,hc,by simpa using hp⟩,rfl⟩
def vb:DSp:=fun ds Q=>match ds with
 |[.tup xs]=>∃r:Row,xs=r.map aI/\r.length <= 1000/\Q (.bl (dr r))
 |_=>False
theorem wC:bj vb:=fun ds P P' f h=>by
 unfold vb at h ⊢
 split at h
 ·obtain⟨r,a,b,h⟩:=h
  exact⟨r,a,b,f _ h⟩
 ·exact h.elim
theorem wD(T:Tx K mg):FnOk P w K mg base CX0 1 T.jQ T.hU ["counts"] (spD K 1 vb):=by
 refine fnD (k:=0) T.eD.F tm (fun cdv A outer s H E hr=>(ai (aE (aM FE rfl T.Gw PyProof.Rows.boot_any (aa (aF (PCD.pld (aA (N':=["count"]) rfl rfl dk rfl (.own .nil) dk (ee (ac 0 (pv 0))) (fun B=>(ao (i:=0) ndB rfl oo)) (fun B=>aL) (fun B=>(iC vZ (ar (ac 0 (pv 0)) ae (fun _ _=>rfl)) ae (aB _)))))) ad))))) (fun ds Q hl h=>?_)
 unfold vb at h
 split at h
 case h_2=>exact h.elim
 obtain⟨r,rfl,hl,h⟩:=h
 refine bd (fun d=>match d with|.tup (.int t::_)=>.bl (decide (0<t))|_=>.non) (fun ρ=>∃s,ρ=[s]) (by rw[zza];exact zzk hl (by decide)) (fun d hd ρ Y Z hN hY=>?_) _ ⟨_,rfl⟩ ?_
 ·obtain⟨s,rfl⟩:=hN
  obtain⟨c,_,rfl⟩:=zzb.mp hd
  exact Br.t (hY _ ⟨_,rfl⟩)
 ·have e:(r.map aI).map (fun d=>match d with|.tup (.int t::_)=>D.bl (decide (0<t))|_=>.non)=(r.map fun c=>decide (0<c.1)).map D.bl:=by
   rw[zzh,zzh]
   rfl
  rw[e]
  exact xV h
def gath(n:Nat)(ps:List (List Int×Row)):List (List Int×Row):=(az n ps).filter fun c=>dr c.2
def nW:DSpN:=fun ds _ L=>match ds with
 |[.int m,.lst xs]=>∃(n:Nat) (ps:List (List Int×Row)) (l:Nat),m=n/\xs=ps.map aX/\(n <= 6/\ps.length <= 60/\∀p∈ps,p.1.length=l/\RowN 110 n p.2)/\L ((gath n ps).map aX)
 |[.int m,.tup xs]=>∃(n:Nat) (ps:List (List Int×Row)) (l:Nat),m=n/\xs=ps.map aX/\(n <= 6/\ps.length <= 60/\∀p∈ps,p.1.length=l/\RowN 110 n p.2)/\L ((gath n ps).map aX)
 |_=>False
theorem gR:qN nW:=fun ds P P' L L' f fl h=>by
 unfold nW at h ⊢
 split at h
 ·obtain⟨n,ps,l,a,b,c,h⟩:=h
  exact⟨n,ps,l,a,b,c,fl _ h⟩
 ·obtain⟨n,ps,l,a,b,c,h⟩:=h
  exact⟨n,ps,l,a,b,c,fl _ h⟩
 ·exact h.elim
theorem mj(T:Tx K mg):FnOk P w K mg base CX0 3 T.gq T.fe ["many","pairs"] (spDN K 2 nW):=by
 refine fnDN (k:=2) T.br.F sc_gathered (fun cdv A outer s H E hr=>(cX (xZ (i:=2) sc_gathered.nd rfl oo)
   (CO (dZ PassesOwn.never rfl (xK (ac 1 (pv 1))) (lG (n:=2) rfl (bG (ao (i:=3) sc_gathered.nd rfl oo) (bG (ao (i:=4) sc_gathered.nd rfl oo) gD))) (ai (FO hr (pv 2) (pv 3) (pv 4))))
   (cX (sN (i:=5) sc_gathered.nd rfl rfl (aA (N':=["kinds","many","found"]) rfl rfl dk rfl (.own (.cap (j:=0) rfl oo rfl (.cap (j:=2) rfl oo rfl .nil))) dk (bF (aM uO rfl T.kX dk (aa (ac 2 (pv 2)) ad))) (fun B=>(ao (i:=0) ndB rfl oo)) (fun B=>aL) (fun B=>(aS (aa (ac 0 (pv 0)) (aa (ag (bY T) bX (rm hr) rfl T.au.m T.au.F.kp T.au.b (aa (ac 1 (pv 1)) (aa (Bw hr (ac 2 (pv 2)) (ac 0 (pv 0)) (fun _ _=>rfl)) ad))) ad))))))
   (lO (PCD.pld (aA (N':=["cell"]) rfl rfl dk rfl (.own .nil) dk (bF (ac 5 (pv 5))) (fun B=>(ao (i:=0) ndB rfl oo)) (fun B=>(jm (lD (ag (wD T) wC (rm hr) rfl T.eD.m T.eD.F.kp T.eD.b (aa (ar (ac 0 (pv 0)) ae (fun _ _=>rfl)) ad))))) (fun B=>(ac 0 (pv 0)))))))))) (fun ds Q L hl h=>?_)
 unfold nW at h
 split at h
 case h_3=>exact h.elim
 all_goals
  obtain⟨n,ps,l,rfl,rfl,⟨n6,p60,hps⟩,h⟩:=h
  have gok:∀qs:List (List Int×Row),(∀p∈qs,p∈ps)->GOk (fun k=>k.length=l) (fun r=>RowN 110 n r) qs.length (grp qs):=fun qs hq=>rE qs fun p hp=>hps p (hq p hp)
  refine⟨fun ρ=>∃(pd:D) (a b:Sl),ρ=[.val (.int n),.val pd,.obj (dlO (emb (grp ps))),a,b,.nil],?_,?_⟩
  ·refine iD (fun pre ρ=>∃p0 p1:List (List Int×Row),ps=p0++p1/\pre=p0.map aX/\∃(pd:D) (a b:Sl),ρ=[.val (.int n),.val pd,.obj (dlO (emb (grp p0))),a,b,.nil]) (fun ρ hN=>?_) (fun pre d post ρ X e hN hX=>?_) _ ⟨[],ps,rfl,rfl,_,_,_,rfl⟩
   ·obtain⟨p0,p1,rfl,e,pd,a,b,rfl⟩:=hN
    have:p1=[]:=by
     have:=congrArg List.length e
     simp at this
     exact this
    subst this
    rw[zzM]
    exact⟨pd,a,b,rfl⟩
   ·obtain⟨p0,p1,rfl,rfl,pd,a,b,rfl⟩:=hN
    rw[zzo]at e
    have e:=zzO e
    cases p1 with
    |nil=>simp at e
    |cons p p1 =>
     rw[zze]at e
     injection e with e1 e2
     subst e1
     have go:=gok p0 fun q hq=>by simp[hq]
     have pl:p0.length <= 60:=by rw[zzl]at p60;omega
     refine⟨rfl,emb (grp p0),kI p.1,rowD p.2,rfl,?_,rfl,?_,fun q hq=>?_,hX _ ⟨p0++[p],p1,by simp,by simp,_,_,_,by rw[yK,←uX];rfl⟩⟩
     ·show Sl.val (aw p.1)=_
      rw[dS]
     ·unfold emb
      rw[zza]
      exact zzD (show (grp p0).length <= 60 from zzk go.len pl) (by decide)
     ·obtain⟨q',hq',rfl⟩:=zzb.mp hq
      rw[zza]
      exact zzD (show q'.2.length <= 60 from zzk (go.it q' hq').2.2.1 pl) (by decide)
  ·rintro _ ⟨pd,a,b,rfl⟩
   have go:=gok ps fun q hq=>hq
   have hk:(emb (grp ps)).map (·.1)=((grp ps).map (·.1)).map kI:=by unfold emb;rw[zzh,zzh];rfl
   have kl:((grp ps).map (·.1)).length <= 60:=by rw[zza];exact zzk go.len p60
   have kln:∀k∈(grp ps).map (·.1),k.length=l:=fun k hk=>by
    obtain⟨p,hp,rfl⟩:=zzb.mp hk
    exact(go.it p hp).1
   have sl:(dU ((grp ps).map (·.1))).length <= 60:=by rw[(aV _).length_eq];exact kl
   refine⟨⟨fun k hk'=>?_,fun h2 k hk'=>?_,?_⟩,?_⟩
   ·rw[hk]at hk'
    obtain⟨k',_,rfl⟩:=zzb.mp hk'
    exact pC k'
   ·rw[hk]at h2 hk'
    rw[zza]at h2
    obtain⟨k',hk2,rfl⟩:=zzb.mp hk'
    intro z
    exact yM go.nd kln h2 k' hk2 (ko (b:=[]) z)
   ·rw[hk,zza]
    omega
   ·have e1:(srtK ((emb (grp ps)).map (·.1))).map keyD=(dU ((grp ps).map (·.1))).map aw:=by
     rw[hk,tF,zzh]
     apply zzp
     intro k _
     exact(dS k).symm
    show cE _ _ _ ((srtK ((emb (grp ps)).map (·.1))).map keyD) _ _ _
    rw[e1]
    refine bb (fun pre acc ρ=>∃k0 k1:List (List Int),dU ((grp ps).map (·.1))=k0++k1/\pre=k0.map aw/\acc=(k0.map fun k=>(k,sums (cV (grp ps) k) n)).map aX/\∃s:Sl,ρ=[s,.val (.int n),.val (fzO (dlO (emb (grp ps))))]) (fun acc ρ hN=>?_) (fun pre d post acc ρ Y e hN hY=>?_) _ ⟨[],_,rfl,rfl,rfl,_,rfl⟩
    ·obtain⟨k0,k1,e,e2,rfl,s,rfl⟩:=hN
     have:k1=[]:=by
      have:=congrArg List.length e2
      rw[e]at this
      simp at this
      exact this
     subst this
     rw[zzM]at e
     rw[←e]
     have epl:((dU ((grp ps).map (·.1))).map fun k=>(k,sums (cV (grp ps) k) n))=az n ps:=rfl
     rw[epl]
     have pll:(az n ps).length <= 60:=by unfold az;rw[zza];exact sl
     refine bb (fun pre acc ρ=>∃c0 c1:List (List Int×Row),az n ps=c0++c1/\pre=c0.map aX/\acc=(c0.filter fun c=>dr c.2).map aX/\∃s:Sl,ρ=[s]) (fun acc ρ hN=>?_) (fun pre d post acc ρ Y e hN hY=>?_) _ ⟨[],_,rfl,rfl,rfl,_,rfl⟩
     ·obtain⟨c0,c1,e3,e4,rfl,s,rfl⟩:=hN
      have:c1=[]:=by
       have:=congrArg List.length e4
       rw[e3]at this
       simp at this
       exact this
      subst this
      rw[zzM]at e3
      rw[←e3]
      exact h
     ·obtain⟨c0,c1,e3,rfl,rfl,s,rfl⟩:=hN
      rw[e3,zzo]at e
      have e:=zzO e
      cases c1 with
      |nil=>simp at e
      |cons c c1 =>
       rw[zze]at e
       injection e with e1 e2
       subst e1
       rw[e3,zzl]at pll
       have hc:c∈az n ps:=by rw[e3];simp
       have hcl:c.2.length <= 1000:=by
        obtain⟨k,_,rfl⟩:=zzb.mp hc
        show (sums _ n).length <= 1000
        unfold sums
        rw[zza,zzJ]
        omega
       refine⟨rfl,c.2,rfl,hcl,?_⟩
       cases z:dr c.2 with
       |true =>
        refine Br.t ⟨?_,hY _ _ ⟨c0++[c],c1,by rw[e3];simp,by simp,by rw[zyo,zyq (by simpa using z)];simp,_,rfl⟩⟩
        rw[zza]
        exact zzD (show _ <= 60 from zzk (zyc _ _) (by omega)) (by decide)
       |false=>exact Br.f (hY _ _ ⟨c0++[c],c1,by rw[e3];simp,by simp,by rw[zyo,zyr (by simp[z])];simp,_,rfl⟩)
    ·obtain⟨k0,k1,e3,rfl,rfl,s,rfl⟩:=hN
     rw[e3,zzo]at e
     have e:=zzO e
     cases k1 with
     |nil=>simp at e
     |cons k k1 =>
      rw[zze]at e
      injection e with e1 e2
      subst e1
      have hk':k∈dU ((grp ps).map (·.1)):=by rw[e3];simp
      obtain⟨p,hp,_,h3,h4⟩:=yL ((aV _).mem_iff.mp hk')
      have gp:=go.it p hp
      rw[e3,zzl]at sl
      refine Br.t ⟨embV (grp ps),kI k,.lst (p.2.map rowD),Hz _,dS k,h4,rfl,n,p.2,rfl,rfl,⟨n6,zzk gp.2.2.1 (by omega),fun r hr=>(gp.2.2.2 r hr).up⟩,sz,?_,hY _ _ ⟨k0++[k],k1,by rw[e3];simp,by simp,by rw[zzo,zzo,←h3];rfl,_,rfl⟩⟩
      rw[zza,zza]
      exact zzD (show k0.length <= 60 by omega) (by decide)
def Dx:DSp:=fun ds Q=>nW ds Q fun es=>Q (.lst es)
theorem nX:bj Dx:=fun ds P P' f h=>gR _ _ _ _ _ f (fun es q=>f _ q) h
theorem nY(T:Tx K mg):FnOk P w K mg base CX0 3 T.gq T.fe ["many","pairs"] (spD K 2 Dx):=DL.FnOk.asD (mj T) (fun ds Q h=>h) gR
theorem vc{n l:Nat}{ps:List (List Int×Row)}(h:∀p∈ps,p.1.length=l/\RowN 110 n p.2/\cF p.2):gath n ps=az n ps:=by
 unfold gath
 rw[List.filter_eq_self]
 intro c hc
 obtain⟨k,hk,rfl⟩:=zzb.mp hc
 obtain⟨p,hp,_,h3,_⟩:=yL ((aV _).mem_iff.mp hk)
 have go:=(rE (C:=fun k=>k.length=l) (R:=fun r=>RowN 110 n r/\cF r) ps fun p hp=>⟨(h p hp).1,(h p hp).2⟩).it p hp
 rw[triedB_iff]
 show cF (sums (cV (grp ps) k) n)
 rw[h3]
 exact nV (n:=110) (fun r hr=>(go.2.2.2 r hr).1) go.2.1 fun r hr=>(go.2.2.2 r hr).2
structure Bk where
 m:Nat
 marks:List Int
 cells:List (List Int×Row)
def aG(b:Bk):D:=.tup [.int b.m,aw b.marks,.tup (b.cells.map aX)]
structure BkOk(b:Bk):Prop where
 m2:2 <= b.m
 m6:b.m <= 6
 mk5:b.marks.length <= 5
 c60:b.cells.length <= 60
 it:∀c∈b.cells,c.1.length=b.marks.length/\RowN 110 b.m c.2/\cF c.2
structure SoOk(b:Bk)(so:List Int):Prop where
 it:∀x∈so,0 <= x/\x<b.marks.length
 nd:so.Nodup
 len:so.length <= 5
def vals(ks so:List Int):List Int:=so.map fun x=>ks.getD x.toNat 0
def cc(b:Bk)(so:List Int):List (List Int×Row):=az b.m (b.cells.map fun c=>(vals c.1 so,c.2))
theorem yQ{ks so:List Int}(hb:∀x∈so,0 <= x/\x<ks.length)(hl:so.length <= 1000){s:Sl}{Q:List D->Prop}(q:Q ((vals ks so).map D.int)) :
  cE (dg 0) bP (dOp gIx (dVar 1) (dVar 0)) (so.map D.int) [] [s,.val (aw ks)] Q:=by
 refine bd (fun d=>match d with|.int i=>.int (ks.getD i.toNat 0)|_=>.non) (fun ρ=>∃s,ρ=[s,.val (aw ks)]) (by rw[zza];exact zzk hl (by decide)) (fun d hd ρ Y Z hN hY=>?_) _ ⟨_,rfl⟩ ?_
 ·obtain⟨s,rfl⟩:=hN
  obtain⟨x,hx,rfl⟩:=zzb.mp hd
  obtain⟨h0,h1⟩:=hb x hx
  refine Br.t (eh (d:=.int (ks.getD x.toNat 0)) h0 ?_ (hY _ ⟨_,rfl⟩))
  rw[zzn,zzg]
  have:x.toNat<ks.length:=by omega
  simp[this]
 ·unfold vals at q
  rw[zzh]at q ⊢
  exact q
def Gc:DSp:=fun ds Q=>∃ks so:List Int,ds=[aw ks,aw so]/\(∀x∈so,0 <= x/\x<ks.length)/\so.length <= 1000/\Q (aw (vals ks so))
theorem tG:bj Gc:=fun ds P P' f ⟨ks,so,a,b,c,h⟩=>⟨ks,so,a,b,c,f _ h⟩
theorem tH(T:Tx K mg):FnOk P w K mg base CX0 1 T.gZ T.gc ["kinds","some"] (spD K 2 Gc):=by
 refine fnD (k:=0) T.du.F rB (fun cdv A outer s H E hr=>(ai (aE (aO bH rfl T.bS rfl (aa (aF (PCD.pld (aA (N':=["mark","kinds"]) rfl rfl dk rfl (.own (.cap (j:=0) rfl oo rfl .nil)) dk (ee (ac 1 (pv 1))) (fun B=>(ao (i:=0) ndB rfl oo)) (fun B=>aL) (fun B=>(ar (ac 1 (pv 1)) (ac 0 (pv 0)) (fun _ _=>rfl)))))) ad))))) (fun ds Q hl h=>?_)
 obtain⟨ks,so,rfl,h1,h2,h⟩:=h
 exact yQ h1 h2 h
def gChM:DSp:=fun ds Q=>∃(b:Bk) (x:Int),ds=[aG b,.int x]/\(0 <= x/\x<b.marks.length)/\b.marks.length <= 5/\Q .non
theorem kq:bj gChM:=fun ds P P' f ⟨b,x,a,c,d,h⟩=>⟨b,x,a,c,d,f _ h⟩
theorem kr(T:Tx K mg):FnOk P w K mg base CX0 3 T.fX T.eU ["book","mark"] (spD K 2 gChM):=by
 refine fnD (k:=2) T.bv.F pr (fun cdv A outer s H E hr=>(ai (cG (nE (lD (ag (dq T) dm (rm hr) rfl T.aD.m T.aD.F.kp T.aD.b (aa (ac 1 (pv 1)) (aa ae (aa (bu fq (aM ft rfl T.gv zyb (aa (ar (ac 0 (pv 0)) ae (fun _ _=>rfl)) ad)) ae) ad)))))) (ai cK) aQ))) (fun ds Q hl h=>?_)
 obtain⟨b,x,rfl,⟨h0,h1⟩,h2,h⟩:=h
 have e:((b.marks.map D.int).length:Int)=b.marks.length:=by rw[zza]
 refine⟨rfl,⟨h0,?_⟩,Br.f h⟩
 omega
theorem pE{d:D}(h:shp d=true){A B:Prop}(q:B):Br (!eqD d d) A B:=by
 rw[uz h]
 exact Br.f q
theorem wE{d e:D}(h:d=e)(s:shp e=true){A B:Prop}(q:B):Br (!eqD d e) A B:=by rw[h];exact pE s q
theorem vd{d e:D}(h:d=e)(s:shp e=true):shp d=true:=by rw[h];exact s
def Gd:DSp:=fun ds Q=>∃(b:Bk) (so:List Int),ds=[aG b,aw so]/\SoOk b so/\b.marks.length <= 5/\Q .non
theorem pF:bj Gd:=fun ds P P' f ⟨b,so,a,c,d,h⟩=>⟨b,so,a,c,d,f _ h⟩
theorem pG(T:Tx K mg):FnOk P w K mg base CX0 4 T.ff T.dW ["book","some"] (spD K 2 Gd):=by
 refine fnD (k:=3) T.cr.F sc_check_marks (fun cdv A outer s H E hr=>(aj (cG (nE (lD (aM sI rfl T.dH rfl (aa (ac 1 (pv 1)) (aa (CA (n:="tuple") rfl T.bS rfl) ad))))) (ai cK) aQ)
   (aH (dZ PassesOwn.never rfl (ee (ac 1 (pv 1))) (ao (i:=2) sc_check_marks.nd rfl oo) (ai (fj (ag (kr T) kq (rm hr) rfl T.bv.m T.bv.F.kp T.bv.b (aa (ac 0 (pv 0)) (aa (ac 2 (pv 2)) ad))))))
   (ai (cG (aN (kB hr) (ye rfl rfl T.gv rfl T.Gx (ac 1 (pv 1))) (aM ft rfl T.gv zyb (aa (ac 1 (pv 1)) ad)) (aB _)) (ai cK) aQ))))) (fun ds Q hl h=>?_)
 obtain⟨b,so,rfl,o,hm,h⟩:=h
 refine⟨rfl,rfl,Br.f ?_⟩
 refine⟨fun ρ=>∃s:Sl,ρ=[.val (aG b),.val (aw so),s],?_,?_⟩
 ·refine qI (fun ρ=>∃s:Sl,ρ=[.val (aG b),.val (aw so),s]) (fun ρ h=>h) (fun d hd ρ X hN hX=>?_) _ ⟨_,rfl⟩
  obtain⟨s,rfl⟩:=hN
  obtain⟨x,hx,rfl⟩:=zzb.mp hd
  exact⟨rfl,b,x,rfl,o.it x hx,hm,hX _ ⟨_,rfl⟩⟩
 ·rintro _ ⟨s,rfl⟩
  have e:D.int (sT so:Nat)=D.int ((so.map D.int).length:Nat):=by rw[sU o.nd,zza]
  exact⟨so,rfl,zzk o.len (by decide),⟨rfl,rfl⟩,wE e rfl h⟩
def tI:DSpN:=fun ds _ L=>∃(b:Bk) (so:List Int),ds=[aG b,aw so]/\BkOk b/\SoOk b so/\L ((cc b so).map aX)
theorem mq:qN tI:=fun ds P P' L L' f fl ⟨b,so,a,c,d,h⟩=>⟨b,so,a,c,d,fl _ h⟩
theorem tJ(T:Tx K mg):FnOk P w K mg base CX0 5 T.gr T.eV ["book","some"] (spDN K 2 tI):=by
 refine fnDN (k:=4) T.bq.F tq (fun cdv A outer s H E hr=>(cX (fj (ag (pG T) pF (rm hr) rfl T.cr.m T.cr.F.kp T.cr.b (aa (ac 0 (pv 0)) (aa (ac 1 (pv 1)) ad))))
   (Am (mj T) gR (rm hr) rfl T.br.m T.br.F.kp T.br.b (aa (ar (ac 0 (pv 0)) ae (fun _ _=>rfl)) (aa (aF (PCD.pld (aA (N':=["cell","some"]) rfl rfl dk rfl (.own (.cap (j:=1) rfl oo rfl .nil)) dk (ee (ar (ac 0 (pv 0)) ae (fun _ _=>rfl))) (fun B=>(ao (i:=0) ndB rfl oo)) (fun B=>aL) (fun B=>(aS (aa (ag (tH T) tG (rm hr) rfl T.du.m T.du.F.kp T.du.b (aa (ar (ac 0 (pv 0)) ae (fun _ _=>rfl)) (aa (ac 1 (pv 1)) ad))) (aa (ar (ac 0 (pv 0)) ae (fun _ _=>rfl)) ad))))))) ad))))) (fun ds Q L hl h=>?_)
 obtain⟨b,so,rfl,bo,o,h⟩:=h
 unfold cc at h
 refine⟨rfl,b,so,rfl,o,bo.mk5,?_⟩
 have c60:=bo.c60
 refine bb (fun pre acc ρ=>∃c0 c1:List (List Int×Row),b.cells=c0++c1/\pre=c0.map aX/\acc=(c0.map fun c=>(vals c.1 so,c.2)).map aX/\∃s:Sl,ρ=[s,.val (aw so)]) (fun acc ρ hN=>?_) (fun pre d post acc ρ Y e hN hY=>?_) _ ⟨[],_,rfl,rfl,rfl,_,rfl⟩
 ·obtain⟨c0,c1,e,e2,rfl,s,rfl⟩:=hN
  have:c1=[]:=by
   have:=congrArg List.length e2
   rw[e]at this
   simp at this
   exact this
  subst this
  rw[zzM]at e
  rw[←e]
  have fin:nW [.int b.m,.lst ((b.cells.map fun c=>(vals c.1 so,c.2)).map aX)] Q L:=by
   have ga:=vc (n:=b.m) (l:=so.length) (ps:=b.cells.map fun c=>(vals c.1 so,c.2)) fun p hp=>by
    obtain⟨c,hc,rfl⟩:=zzb.mp hp
    exact⟨by unfold vals;rw[zza],(bo.it c hc).2⟩
   refine⟨b.m,_,so.length,rfl,rfl,⟨bo.m6,by rw[zza];exact bo.c60,fun p hp=>?_⟩,by rw[ga];exact h⟩
   obtain⟨c,hc,rfl⟩:=zzb.mp hp
   exact⟨by unfold vals;rw[zza],(bo.it c hc).2.1⟩
  exact⟨rfl,fin⟩
 ·obtain⟨c0,c1,e3,rfl,rfl,s,rfl⟩:=hN
  rw[e3,zzo]at e
  have e:=zzO e
  cases c1 with
  |nil=>simp at e
  |cons c c1 =>
   rw[zze]at e
   injection e with e1 e2
   subst e1
   have hc:=bo.it c (by rw[e3];simp)
   rw[e3,zzl]at c60
   refine Br.t ⟨rfl,c.1,so,rfl,fun x hx=>by rw[hc.1];exact o.it x hx,zzk o.len (by decide),sz,?_,hY _ _ ⟨c0++[c],c1,by rw[e3];simp,by simp,by rw[zzo,zzo];rfl,_,rfl⟩⟩
   rw[zza,zza]
   exact zzD (show c0.length <= 60 by omega) (by decide)
theorem rF{b:Bk}(bo:BkOk b){so:List Int}:(cc b so).length <= 60:=by
 unfold cc az
 rw[zza,(aV _).length_eq,zza]
 have:=(rE (C:=fun _=>True) (R:=fun _=>True) (b.cells.map fun c=>(vals c.1 so,c.2)) fun _ _=>⟨trivial,trivial⟩).len
 rw[zza]at this
 exact zzk this bo.c60
def BH:DSp:=fun ds Q=>tI ds Q fun es=>Q (.lst es)
theorem jJ:bj BH:=fun ds P P' f h=>mq _ _ _ _ _ f (fun es q=>f _ q) h
theorem jK(T:Tx K mg):FnOk P w K mg base CX0 5 T.gr T.eV ["book","some"] (spD K 2 BH):=DL.FnOk.asD (tJ T) (fun ds Q h=>h) mq
def pH:DSpN:=fun ds _ L=>∃(b:Bk) (so:List Int),ds=[aG b,aw so]/\BkOk b/\SoOk b so/\L (((cc b so).map (·.2)).map rowD)
theorem mt:qN pH:=fun ds P P' L L' f fl ⟨b,so,a,c,d,h⟩=>⟨b,so,a,c,d,fl _ h⟩
theorem tK(T:Tx K mg):FnOk P w K mg base CX0 6 T.gs T.eT ["book","some"] (spDN K 2 pH):=by
 refine fnDN (k:=5) T.ce.F tu (fun cdv A outer s H E hr=>(lO (PCD.pld (aA (N':=["part"]) rfl rfl dk rfl (.own .nil) dk (bF (ag (jK T) jJ (rm hr) rfl T.bq.m T.bq.F.kp T.bq.b (aa (ac 0 (pv 0)) (aa (ac 1 (pv 1)) ad)))) (fun B=>(ao (i:=0) ndB rfl oo)) (fun B=>aL) (fun B=>(ar (ac 0 (pv 0)) ae (fun _ _=>rfl))))))) (fun ds Q L hl h=>?_)
 obtain⟨b,so,rfl,bo,o,h⟩:=h
 refine⟨rfl,b,so,rfl,bo,o,?_⟩
 refine bd (fun d=>match d with|.tup [_,x]=>x|_=>.non) (fun ρ=>∃s,ρ=[s]) ?_ (fun d hd ρ Y Z hN hY=>?_) _ ⟨_,rfl⟩ ?_
 ·rw[zza]
  exact zzk (rF bo) (by decide)
 ·obtain⟨s,rfl⟩:=hN
  obtain⟨c,_,rfl⟩:=zzb.mp hd
  exact Br.t (hY _ ⟨_,rfl⟩)
 ·have e:((cc b so).map aX).map (fun d=>match d with|.tup [_,x]=>x|_=>.non)=((cc b so).map (·.2)).map rowD:=by
   rw[zzh,zzh]
   rfl
  rw[e]
  exact h
def isS(s:Int)(d:D):Bool:=eqF d (.int s)
def four(d:D):Prop:=d=.non∨d=.int 1∨d=.int (-1)∨d=.int 0
theorem ve{d:D}(h:four d):shp d=true:=by rcases h with rfl|rfl|rfl|rfl<;>rfl
structure AbOk(m:Nat)(a b:Int):Prop where
 a0:0 <= a
 a1:a<m
 b0:0 <= b
 b1:b<m
 ne:a≠b
theorem Az(x y:D)(xs ys:List D):eqD (.tup (x::xs)) (.tup (y::ys))=(eqD x y && eqD (.tup xs) (.tup ys)):=rfl
theorem pI:∀a b:List Int,eqD (aw a) (aw b)=decide (a=b)
 |[],[]=>rfl
 |[],_::_=>by
  rw[decide_eq_false (by simp)]
  rfl
 |_::_,[]=>by
  rw[decide_eq_false (by simp)]
  rfl
 |x::xs,y::ys=>by
  have ih:=pI xs ys
  unfold aw at ih ⊢
  rw[zze,zze,Az,ih,bB]
  by_cases h:x=y<;>by_cases h':xs=ys<;>simp[h,h']
def ny(a b:Nat)(r:Row):D:=fC (at_ r a).1 (at_ r a).2 (at_ r b).1 (at_ r b).2
theorem yR{g:DSp}(hg:∀(c d:Int×Int) (Q:D->Prop),Cnt 200 c.1 c.2->Cnt 200 d.1 d.2->Q (fC c.1 c.2 d.1 d.2)->g [aI c,aI d] Q){m:Nat}{t:List Row}(ho:∀r∈t,yH m r)(hl:t.length <= 1000){a b:Int}(a0:0 <= a)(a1:a<m)(b0:0 <= b)(b1:b<m){s:Sl}{Q:List D->Prop}(q:Q (t.map (ny a.toNat b.toNat))) :
  cE (dg 0) bP (CB 2 g (kh (dOp gIx (dVar 0) (dVar 1)) (kh (dOp gIx (dVar 0) (dVar 2)) vY))) (t.map rowD) [] [s,.val (.int a),.val (.int b)] Q:=by
 refine bb (fun pre acc ρ=>∃t0 t1:List Row,t=t0++t1/\pre=t0.map rowD/\acc=t0.map (ny a.toNat b.toNat)/\∃s,ρ=[s,.val (.int a),.val (.int b)]) (fun acc ρ hN=>?_) (fun pre d post acc ρ Y e hN hY=>?_) _ ⟨[],t,rfl,rfl,rfl,_,rfl⟩
 ·obtain⟨t0,t1,rfl,e,rfl,_⟩:=hN
  have:t1=[]:=by
   have:=congrArg List.length e
   simp at this
   exact this
  subst this
  simpa using q
 ·obtain⟨t0,t1,rfl,rfl,rfl,s,rfl⟩:=hN
  rw[zzo]at e
  have e:=zzO e
  cases t1 with
  |nil=>simp at e
  |cons r t1 =>
   rw[zze]at e
   injection e with e1 e2
   subst e1
   have o:=ho r (by simp)
   refine Br.t (km o a0 a1 (km o b0 b1 ⟨rfl,hg _ _ _ (bI o (by omega)).2 (bI o (by omega)).2 ⟨?_,hY _ _ ⟨t0++[r],t1,by simp,by simp,by simp[ny],_,rfl⟩⟩⟩))
   rw[zza]
   have:t0.length <= 1000:=by rw[zzl]at hl;omega
   exact zzD this (by decide)
theorem AA(c d:Int×Int)(Q:D->Prop)(hc:Cnt 200 c.1 c.2)(hd:Cnt 200 d.1 d.2)(q:Q (fC c.1 c.2 d.1 d.2)):wA [aI c,aI d] Q :=
 ⟨⟨hc.bt.mono (by decide),hc.bw.mono (by decide),hd.bt.mono (by decide),hd.bw.mono (by decide)⟩,q⟩
def yS:DSpN:=fun ds _ L=>match ds with
 |[.lst xs,.int a,.int b]=>∃(n:Nat) (t:List Row),xs=t.map rowD/\Tbl n t/\(0 <= a/\a<n/\0 <= b/\b<n/\a≠b)/\L (t.map (ny a.toNat b.toNat))
 |_=>False
theorem Dy:qN yS:=fun ds P P' L L' f fl h=>by
 unfold yS at h ⊢
 split at h
 ·obtain⟨n,t,a,b,c,h⟩:=h
  exact⟨n,t,a,b,c,fl _ h⟩
 ·exact h.elim
theorem Dz(T:Tx K mg):FnOk P w K mg base CX0 5 T.vN T.qd ["table","a","b"] (spDN K 3 yS):=by
 refine fnDN (k:=4) T.ku.F Dt (fun cdv A outer s H E hr=>(cX (fj (ag (fF T) fE (rm hr) rfl T.aT.m T.aT.F.kp T.aT.b (aa (ag (mf T) me (rm hr) rfl T.bJ.m T.bJ.F.kp T.bJ.b (aa (ac 0 (pv 0)) ad)) (aa (ac 1 (pv 1)) (aa (ac 2 (pv 2)) ad)))))
   (lO (PCD.pld (aA (N':=["part","a","b"]) rfl rfl dk rfl (.own (.cap (j:=1) rfl oo rfl (.cap (j:=2) rfl oo rfl .nil))) dk (bF (ac 0 (pv 0))) (fun B=>(ao (i:=0) ndB rfl oo)) (fun B=>aL) (fun B=>(ag (BE T) yG (rm hr) rfl T.kt.m T.kt.F.kp T.kt.b (aa (ar (ac 0 (pv 0)) (ac 1 (pv 1)) (fun _ _=>rfl)) (aa (ar (ac 0 (pv 0)) (ac 2 (pv 2)) (fun _ _=>rfl)) ad))))))))) (fun ds Q L hl h=>?_)
 unfold yS at h
 split at h
 case h_2=>exact h.elim
 obtain⟨n,t,rfl,o,⟨a0,a1,b0,b1,ab⟩,h⟩:=h
 refine⟨rfl,nU o ⟨rfl,⟨a0,a1,b0,b1,ab⟩,?_⟩⟩
 exact yR AA o.rows (zzk o.p60 (by decide)) a0 a1 b0 b1 h
def nA:D->Bool
 |.non=>true
 |.int i=>i == 0
 |_=>false
def tkT(s:Int)(x:D):D:=if eqD x (.int s)=true then .tup [.str "kept",.int s] else .tup [.str "turned",.int s,x]
def kE(told:List D)(x:D):D :=
 if told.all (isS 1)=true then tkT 1 x else if told.all (isS (-1))=true then tkT (-1) x else
 match told.findIdx? nA with
 |some j=>.tup [.str "open",.int j]
 |none=>.tup [.str "apart",.int (told.findIdx (isS 1)),.int (told.findIdx (isS (-1)))]
theorem jL(a b:Nat)(r:Row):ny a b r=.non∨ny a b r=.int 1∨ny a b r=.int (-1)∨ny a b r=.int 0:=by
 unfold ny fC
 split
 ·exact .inl rfl
 ·split
  ·exact .inr (.inl rfl)
  ·split
   ·exact .inr (.inr (.inl rfl))
   ·exact .inr (.inr (.inr rfl))
theorem wF(t w t' w':Int):(∃i,fC t w t' w'=.int i)∨fC t w t' w'=.non:=by
 unfold fC
 split
 ·exact .inr rfl
 ·split
  ·exact .inl ⟨_,rfl⟩
  ·split<;>exact .inl ⟨_,rfl⟩
abbrev told(t:List Row)(a b:Nat):List D:=t.map (ny a b)
theorem rG(t:List Row)(a b:Nat):(told t a b).all iF=true:=by
 rw[zyt]
 intro d hd
 obtain⟨r,_,rfl⟩:=zzb.mp hd
 rcases jL a b r with e|e|e|e<;>(rw[e];rfl)
def gTKt:DSp:=fun ds Q=>match ds with
 |[.int s,x]=>((∃i,x=.int i)∨x=.non)/\Q (tkT s x)
 |_=>False
theorem kF:bj gTKt:=fun ds P P' f h=>by
 unfold gTKt at h ⊢
 split at h
 ·exact⟨h.1,f _ h.2⟩
 ·exact h.elim
theorem AB{x:D}(h:(∃i,x=.int i)∨x=.non):shp x=true:=by
 rcases h with ⟨i,rfl⟩|rfl
 ·exact Shp.shp (n:=0) .int
 ·exact Shp.shp (n:=0) .non
theorem kG(T:Tx K mg):FnOk P w K mg base CX0 1 T.cR T.cJ ["number","whole"] (spD K 2 gTKt):=by
 refine fnD (k:=0) T.bC.F jE (fun cdv A outer s H E hr=>(aj (cG (aN (eL hr) (ac 1 (pv 1)) (ac 0 (pv 0)) (aB _)) (ai (aE (aS (aa lB (aa (ac 0 (pv 0)) ad))))) aQ)
   (ai (aE (aS (aa lB (aa (ac 0 (pv 0)) (aa (ac 1 (pv 1)) ad)))))))) (fun ds Q hl h=>?_)
 unfold gTKt at h
 split at h
 case h_2=>exact h.elim
 rename_i s x
 obtain⟨hx,h⟩:=h
 unfold tkT at h
 refine⟨⟨AB hx,rfl⟩,fun e=>?_,fun e=>?_⟩
 ·have e:eqD x (.int s)=true:=e
  rw[if_pos e]at h
  exact⟨sz,h⟩
 ·have e:eqD x (.int s)=false:=e
  rw[if_neg (by rw[e];exact zzu)]at h
  exact⟨sz,h⟩
theorem vf{n:Nat}:∀{ns:List Int},(∀i∈ns,Bd n i)->∀{k:Nat},ns.length <= 2^k->Bd (n+k) ns.sum:=by
 have key:∀ns:List Int,(∀i∈ns,Bd n i)->ns.sum.natAbs <= ns.length*(2^n - 1):=by
  intro ns
  induction ns with
  |nil=>intro _;simp
  |cons a r ih =>
   intro h
   have h1:=ih fun i hi=>h i (zzc _ hi)
   have h2:a.natAbs<2^n:=h a zzd
   rw[zzB,zyG,Nat.succ_mul]
   have:=Int.natAbs_add_le a r.sum
   omega
 intro ns h k hk
 have h1:=key ns h
 unfold Bd
 have h2:ns.length*(2^n - 1) <= 2^k*(2^n - 1):=Nat.mul_le_mul_right _ hk
 have h3:2^k*(2^n - 1)<2^k*2^n:=Nat.mul_lt_mul_of_pos_left (by have:=Nat.two_pow_pos n;omega) (Nat.two_pow_pos k)
 rw[←Nat.pow_add,Nat.add_comm k n]at h3
 omega
theorem rH{m:Nat}{t:List Row}(o:Tbl m t){h:Nat}(hh:h<m):0 <= (sumP (col t h)).2/\(sumP (col t h)).2 <= (sumP (col t h)).1/\Bd 300 (sumP (col t h)).1/\Bd 300 (sumP (col t h)).2:=by
 have hc:∀c∈col t h,Cnt 200 c.1 c.2:=fun c hc=>by
  obtain⟨r,hr,rfl⟩:=zzb.mp hc
  exact(bI (o.rows r hr) hh).2
 have hl:(col t h).length <= 2^10:=by
  unfold col
  rw[zza]
  exact zzk o.p60 (by decide)
 have s1:0 <= ((col t h).map (·.2)).sum/\((col t h).map (·.2)).sum <= ((col t h).map (·.1)).sum:=by
  generalize col t h=cs at hc
  induction cs with
  |nil=>simp
  |cons c r ih =>
   have:=ih fun d hd=>hc d (zzc _ hd)
   have h1:=(hc c zzd).lo
   have h2:=(hc c zzd).hi
   simp only[zze,zzB]
   omega
 refine⟨s1.1,s1.2,(vf (n:=200) (k:=10) (fun i hi=>?_) (by rw[zza];exact hl)).mono (by decide),(vf (n:=200) (k:=10) (fun i hi=>?_) (by rw[zza];exact hl)).mono (by decide)⟩
 ·obtain⟨c,hc',rfl⟩:=zzb.mp hi
  exact(hc c hc').bt
 ·obtain⟨c,hc',rfl⟩:=zzb.mp hi
  exact(hc c hc').bw
def fG(t:List Row)(a b:Nat):D:=fC (sumP (col t a)).1 (sumP (col t a)).2 (sumP (col t b)).1 (sumP (col t b)).2
theorem fH{m:Nat}{t:List Row}{h:Int}{Q:D->Prop}(h0:0 <= h)(h1:h<m)(q:Q (aI (sumP (col t h.toNat)))):opt (atI ((sums t m).map aI) h) Q:=by
 refine eh h0 ?_ q
 unfold sums
 rw[zzn,zzn,zyy (by omega)]
 rfl
def kR:DSp:=fun ds Q=>match ds with
 |[.lst xs,.int a,.int b]=>∃(n:Nat) (t:List Row),xs=t.map rowD/\Tbl n t/\(0 <= a/\a<n/\0 <= b/\b<n/\a≠b)/\Q (kE (told t a.toNat b.toNat) (fG t a.toNat b.toNat))
 |_=>False
theorem rJ:bj kR:=fun ds P P' f h=>by
 unfold kR at h ⊢
 split at h
 ·obtain⟨n,t,a,b,c,h⟩:=h
  exact⟨n,t,a,b,c,f _ h⟩
 ·exact h.elim
def vg:DSp:=fun ds Q=>match ds with
 |[.lst xs,.int a,.int b]=>∃(n:Nat) (t:List Row),xs=t.map rowD/\Tbl n t/\(0 <= a/\a<n/\0 <= b/\b<n/\a≠b)/\Q (.lst (told t a.toNat b.toNat))
 |_=>False
theorem BI:bj vg:=fun ds P P' f h=>by
 unfold vg at h ⊢
 split at h
 ·obtain⟨n,t,a,b,c,h⟩:=h
  exact⟨n,t,a,b,c,f _ h⟩
 ·exact h.elim
theorem BJ(T:Tx K mg):FnOk P w K mg base CX0 5 T.vN T.qd ["table","a","b"] (spD K 3 vg):=DL.FnOk.asD (Dz T) (fun ds Q h=>by
 unfold vg at h
 unfold yS
 split at h
 ·exact h
 ·exact h.elim) Dy
theorem count_all{ds:List D}{s:Int}:(eqD (.int ((ds.countP fun z=>eqF z (.int s):Nat):Int)) (.int (ds.length:Int))=true)↔ds.all (isS s)=true:=by
 rw[bB,decide_eq_true_eq]
 have h:((ds.countP fun z=>eqF z (.int s):Nat):Int)=(ds.length:Int)↔(ds.countP fun z=>eqF z (.int s))=ds.length:=by omega
 rw[h,List.countP_eq_length,zyt]
 rfl
theorem wG{t:List Row}{a b:Nat}(ho:(told t a b).findIdx? nA=none){s:Int}(hs:s=1∨s = -1)(hn:¬(told t a b).all (isS (-s))=true) :
  ∃z,(told t a b)[(told t a b).findIdx (isS s)]? = some z/\isS s z=true:=by
 have hex:∃d∈told t a b,isS s d=true:=by
  rw[zyt]at hn
  have:∃d∈told t a b,¬isS (-s) d=true:=by
   apply Classical.byContradiction
   intro h
   exact hn fun d hd=>Classical.byContradiction fun q=>h ⟨d,hd,q⟩
  obtain⟨d,hd,q⟩:=this
  refine⟨d,hd,?_⟩
  have hop:nA d=false:=by
   have:=List.findIdx?_eq_none_iff.mp ho d hd
   simpa using this
  obtain⟨r,_,rfl⟩:=zzb.mp hd
  rcases jL a b r with e|e|e|e<;>rw[e]at q hop ⊢
  ·exact absurd hop (by decide)
  ·rcases hs with rfl|rfl
   ·rfl
   ·exact absurd rfl q
  ·rcases hs with rfl|rfl
   ·exact absurd rfl q
   ·rfl
  ·exact absurd hop (by decide)
 have hlt:=List.findIdx_lt_length.mpr hex
 exact⟨(told t a b)[(told t a b).findIdx (isS s)],zzm hlt,List.findIdx_getElem⟩
theorem BK{t:List Row}{a b:Nat}(ho:(told t a b).findIdx? nA=none){s:Int}(hs:s=1∨s = -1)(hn:¬(told t a b).all (isS (-s))=true){Q:D->Prop}(q:Q (.int ((told t a b).findIdx (isS s):Nat))) :
  FB (.lst (told t a b)) (.int s) Q:=by
 refine⟨⟨rfl,rG t a b⟩,(told t a b).findIdx (isS s),⟨wG ho hs hn,fun m z hm hz=>?_⟩,q⟩
 have:=List.not_of_lt_findIdx hm
 have hz':=zzt.mp hz
 obtain⟨hl,e⟩:=hz'
 subst e
 have:isS s (told t a b)[m]=false:=by simpa using this
 exact this
theorem rK(T:Tx K mg):FnOk P w K mg base CX0 6 T.mJ T.jY ["table","a","b"] (spD K 3 kR):=by
 refine fnD (k:=5) T.cP.F sc_turning (fun cdv A outer s H E hr=>(aj (aC (i:=3) sc_turning.nd rfl oo (ag (BJ T) BI (rm hr) rfl T.ku.m T.ku.F.kp T.ku.b (aa (ac 0 (pv 0)) (aa (ac 1 (pv 1)) (aa (ac 2 (pv 2)) ad)))))
   (aj (aC (i:=4) sc_turning.nd rfl oo (ag (yJ T) yI (rm hr) rfl T.fQ.m T.fQ.F.kp T.fQ.b (aa (ac 0 (pv 0)) ad)))
   (aH (dZ PassesOwn.never rfl (ee (aS (aa ae (aa (mY gx ae) ad)))) (ao (i:=5) sc_turning.nd rfl oo) (ai (cG (aN (eL hr) (CU Aa (ac 3 (pv 3)) (ac 5 (pv 5))) (aM ft rfl T.gv zyb (aa (ac 3 (pv 3)) ad)) (aB _)) (ai (aE (ag (kG T) kF (rm hr) rfl T.bC.m T.bC.F.kp T.bC.b (aa (ac 5 (pv 5)) (aa (ag (BE T) yG (rm hr) rfl T.kt.m T.kt.F.kp T.kt.b (aa (ar (ac 4 (pv 4)) (ac 1 (pv 1)) (fun _ _=>rfl)) (aa (ar (ac 4 (pv 4)) (ac 2 (pv 2)) (fun _ _=>rfl)) ad))) ad))))) aQ)))
   (aH (dZ PassesOwn.never rfl (CN rfl T.hG (aa (ac 3 (pv 3)) ad)) (lG (n:=2) rfl (bG (ao (i:=6) sc_turning.nd rfl oo) (bG (ao (i:=5) sc_turning.nd rfl oo) gD))) (ai (cG (PWD.pt (sE (aN Bp (ac 5 (pv 5)) nD (aB _)) (lE (aN (eL hr) (ac 5 (pv 5)) ae (aB _))))) (ai (aE (aS (aa lB (aa (ac 6 (pv 6)) ad))))) aQ)))
   (ai (aE (aS (aa lB (aa (CU uH (ac 3 (pv 3)) ae) (aa (CU uH (ac 3 (pv 3)) (mY gx ae)) ad))))))))))) (fun ds Q hl h=>?_)
 unfold kR at h
 split at h
 case h_2=>exact h.elim
 rename_i a b
 obtain⟨n,t,rfl,o,ab,h⟩:=h
 have a0:=ab.1
 have a1:=ab.2.1
 have b0:=ab.2.2.1
 have b1:=ab.2.2.2.1
 have wa:=rH o (h:=a.toNat) (by omega)
 have wb:=rH o (h:=b.toNat) (by omega)
 have tf:=rG t a.toNat b.toNat
 have sw:=wF (sumP (col t a.toNat)).1 (sumP (col t a.toNat)).2 (sumP (col t b.toNat)).1 (sumP (col t b.toNat)).2
 refine⟨rfl,n,t,rfl,o,ab,rfl,n,t,rfl,o,?_⟩
 refine⟨fun ρ=>(¬(told t a.toNat b.toNat).all (isS 1)=true/\¬(told t a.toNat b.toNat).all (isS (-1))=true)/\∃s5 s6:Sl,ρ=[.val (.lst (t.map rowD)),.val (.int a),.val (.int b),.val (.lst (told t a.toNat b.toNat)),.val (rowD (sums t n)),s5,s6],?_,?_⟩
 ·have bs:∀{c:Int×Int},(0 <= c.2/\c.2 <= c.1/\Bd 300 c.1/\Bd 300 c.2)->Bd 7000 c.1/\Bd 7000 c.2:=fun h=>⟨h.2.2.1.mono (by decide),h.2.2.2.mono (by decide)⟩
  have sd:∀{Q:D->Prop},Q (fG t a.toNat b.toNat)->wA [aI (sumP (col t a.toNat)),aI (sumP (col t b.toNat))] Q:=fun q=>⟨⟨(bs wa).1,(bs wa).2,(bs wb).1,(bs wb).2⟩,q⟩
  refine⟨sz,trivial,⟨rfl,tf⟩,⟨rfl,rfl⟩,fun z=>?_,fun z=>⟨trivial,⟨rfl,tf⟩,⟨rfl,rfl⟩,fun z'=>?_,fun z'=>?_⟩⟩
  ·have z:=count_all.mp z
   have e:kE (told t a.toNat b.toNat) (fG t a.toNat b.toNat)=tkT 1 (fG t a.toNat b.toNat):=by unfold kE;rw[if_pos z]
   rw[e]at h
   exact fH a0 a1 (fH b0 b1 ⟨rfl,sd ⟨rfl,sw,h⟩⟩)
  ·have z':=count_all.mp z'
   have z:¬(told t a.toNat b.toNat).all (isS 1)=true:=fun q=>by rw[count_all.mpr q]at z;cases z
   have e:kE (told t a.toNat b.toNat) (fG t a.toNat b.toNat)=tkT (-1) (fG t a.toNat b.toNat):=by unfold kE;rw[if_neg z,if_pos z']
   rw[e]at h
   exact fH a0 a1 (fH b0 b1 ⟨rfl,sd ⟨rfl,sw,h⟩⟩)
  ·have z:¬(told t a.toNat b.toNat).all (isS 1)=true:=fun q=>by rw[count_all.mpr q]at z;cases z
   have z':¬(told t a.toNat b.toNat).all (isS (-1))=true:=fun q=>by rw[count_all.mpr q]at z';cases z'
   exact⟨⟨z,z'⟩,_,_,rfl⟩
 ·rintro _ ⟨⟨n1,n2⟩,s5,s6,rfl⟩
  refine⟨fun ρ=>(told t a.toNat b.toNat).findIdx? nA=none/\∃s5 s6:Sl,ρ=[.val (.lst (t.map rowD)),.val (.int a),.val (.int b),.val (.lst (told t a.toNat b.toNat)),.val (rowD (sums t n)),s5,s6],?_,?_⟩
  ·refine nK (fun i ρ=>(∀m z,m<i->(told t a.toNat b.toNat)[m]? = some z->nA z=false)/\∃s5 s6:Sl,ρ=[.val (.lst (t.map rowD)),.val (.int a),.val (.int b),.val (.lst (told t a.toNat b.toNat)),.val (rowD (sums t n)),s5,s6]) ?_ ?_ _ ⟨fun m z hm=>absurd hm (zyf _),_,_,rfl⟩
   ·rintro ρ ⟨hn,hr⟩
    refine⟨?_,hr⟩
    rw[List.findIdx?_eq_none_iff]
    intro d hd
    obtain⟨m,hm,e⟩:=List.mem_iff_getElem.mp hd
    exact hn m d hm (by rw[←e];exact zzm hm)
   ·rintro i d ρ X hd ⟨hn,s5,s6,rfl⟩ hX
    have ret:nA d=true->Q (.tup [.str "open",.int i]):=fun od=>by
     have hf:(told t a.toNat b.toNat).findIdx? nA=some i:=by
      rw[List.findIdx?_eq_some_iff_getElem]
      obtain⟨hl,e⟩:=zzt.mp hd
      refine⟨hl,by rw[e];exact od,fun j hj=>?_⟩
      have:=hn j ((told t a.toNat b.toNat)[j]'(Nat.lt_trans hj hl)) hj (zzm _)
      rw[this];exact zzu
     unfold kE at h
     rw[if_neg n1,if_neg n2,hf]at h
     exact h
    have nx:nA d=false->∀m z,m<i+1->(told t a.toNat b.toNat)[m]? = some z->nA z=false:=fun od m z hm hz=>by
     by_cases e:m=i
     ·subst e;rw[hd]at hz;cases hz;exact od
     ·exact hn m z (by omega) hz
    obtain⟨r,_,rfl⟩:=zzb.mp (zzH hd)
    rcases jL a.toNat b.toNat r with e|e|e|e<;>rw[e]at ret nx ⊢
    ·exact⟨rfl,Br.t (Br.t ⟨sz,ret rfl⟩)⟩
    ·exact⟨rfl,Br.f ⟨⟨rfl,rfl⟩,Br.f (hX _ ⟨nx rfl,_,_,rfl⟩)⟩⟩
    ·exact⟨rfl,Br.f ⟨⟨rfl,rfl⟩,Br.f (hX _ ⟨nx rfl,_,_,rfl⟩)⟩⟩
    ·exact⟨rfl,Br.f ⟨⟨rfl,rfl⟩,Br.t ⟨sz,ret rfl⟩⟩⟩
  ·rintro _ ⟨hf,s5,s6,rfl⟩
   unfold kE at h
   rw[if_neg n1,if_neg n2,hf]at h
   refine⟨trivial,BK hf (.inl rfl) n2 ⟨trivial,?_⟩⟩
   obtain⟨i1,j,i2,i3⟩:=BK (Q:=fun d=>d=.int ((told t a.toNat b.toNat).findIdx (isS (-1)):Nat)) hf (.inr rfl) n1 rfl
   injection i3 with i3
   have i3:j=(told t a.toNat b.toNat).findIdx (isS (-1)):=by omega
   subst i3
   exact⟨i1,_,i2,sz,h⟩
theorem BL{m:Nat}{rows:List Row}(ho:∀r∈rows,RowN 110 m r)(hl:rows.length <= 60):RowN 200 m (sums rows m):=by
 refine⟨by unfold sums;simp,fun c hc=>?_⟩
 obtain⟨h,hh,rfl⟩:=zzb.mp hc
 have hh:=zzy.mp hh
 have cn:∀x∈col rows h,Cnt 110 x.1 x.2:=fun x hx=>by
  obtain⟨r,hr,rfl⟩:=zzb.mp hx
  exact(bI (ho r hr) hh).2
 have cl:(col rows h).length <= 2^10:=by unfold col;rw[zza];exact zzk hl (by decide)
 have s1:0 <= ((col rows h).map (·.2)).sum/\((col rows h).map (·.2)).sum <= ((col rows h).map (·.1)).sum:=by
  generalize col rows h=cs at cn
  induction cs with
  |nil=>simp
  |cons c r ih =>
   have:=ih fun d hd=>cn d (zzc _ hd)
   have h1:=(cn c zzd).lo
   have h2:=(cn c zzd).hi
   simp only[zze,zzB]
   omega
 refine⟨s1.1,s1.2,(vf (n:=110) (k:=10) (fun i hi=>?_) (by rw[zza];exact cl)).mono (by decide),(vf (n:=110) (k:=10) (fun i hi=>?_) (by rw[zza];exact cl)).mono (by decide)⟩
 ·obtain⟨c,hc',rfl⟩:=zzb.mp hi
  exact(cn c hc').bt
 ·obtain⟨c,hc',rfl⟩:=zzb.mp hi
  exact(cn c hc').bw
theorem jM(m:Nat)(ps:List (List Int×Row)):(az m ps).map (·.1)=dU ((grp ps).map (·.1)):=by
 unfold az
 rw[zzh]
 exact List.map_id _
theorem iP(m:Nat)(ps:List (List Int×Row)):((az m ps).map (·.1)).Pairwise fun a b=>ltI a b=true:=by
 rw[jM]
 exact iO (uY _)
theorem parts_mem{m:Nat}{ps:List (List Int×Row)}{k:List Int}:k∈(az m ps).map (·.1)↔k∈ps.map (·.1):=by
 rw[jM,(aV _).mem_iff,pD]
theorem fJ{m:Nat}{ps:List (List Int×Row)}{c:List Int×Row}(h:c∈az m ps):c.2=sums ((ps.filter fun p=>decide (p.1=c.1)).map (·.2)) m:=by
 unfold az at h
 obtain⟨k,_,rfl⟩:=zzb.mp h
 show sums (cV (grp ps) k) m=_
 rw[jI]
theorem iQ(m:Nat)(ps:List (List Int×Row)):az m ps=((az m ps).map (·.1)).map fun k=>(k,sums ((ps.filter fun p=>decide (p.1=k)).map (·.2)) m):=by
 rw[zzh]
 conv=>lhs;rw[←List.map_id (az m ps)]
 apply zzp
 intro c hc
 show c=(c.1,_)
 rw[←fJ hc]
theorem AC(m:Nat)(ps:List (List Int×Row)):((az m ps).map (·.1)).Nodup:=by
 rw[jM]
 exact(aV _).nodup_iff.mpr (uY _)
theorem fK(m:Nat)(q:List Int->Bool)(ps:List (List Int×Row)):az m (ps.filter fun p=>q p.1)=(az m ps).filter fun c=>q c.1:=by
 have ek:(az m (ps.filter fun p=>q p.1)).map (·.1)=((az m ps).map (·.1)).filter q:=by
  refine yO (iP _ _) ((iP m ps).sublist List.filter_sublist) fun k=>?_
  rw[parts_mem,zzv,parts_mem,zzb,zzb]
  constructor
  ·rintro⟨p,hp,rfl⟩
   have hp:=zzv.mp hp
   exact⟨⟨p,hp.1,rfl⟩,hp.2⟩
  ·rintro⟨⟨p,hp,rfl⟩,hq⟩
   exact⟨p,zzv.mpr ⟨hp,hq⟩,rfl⟩
 obtain⟨Ks,hK⟩:∃Ks,Ks=(az m ps).map (·.1):=⟨_,rfl⟩
 rw[←hK]at ek
 rw[iQ m (ps.filter fun p=>q p.1),ek,iQ m ps,←hK,zyL]
 apply zzp
 intro k hk
 have hk:=(zzv.mp hk).2
 show (k,_)=(k,_)
 rw[zyp]
 have:(ps.filter fun p=>decide (p.1=k) && q p.1)=ps.filter fun p=>decide (p.1=k):=by
  apply zyh
  intro p _
  by_cases z:p.1=k
  ·rw[z,hk,Bool.and_true]
  ·rw[decide_eq_false z];rfl
 rw[this]
theorem pJ{α:Type}{F:α->Int}:∀{l:List α},(∀x∈l,F x=0)->(l.map F).sum=0
 |[],_=>rfl
 |x::l,h=>by
  rw[zze,zzB,h x zzd,pJ fun y hy=>h y (zzc _ hy)]
  rfl
theorem yT{v:Int}{k:List Int}:∀{K:List (List Int)},K.Nodup->k∈K->(K.map fun x=>if k=x then v else 0).sum=v
 |[],_,h=>by simp at h
 |x::K,nd,h=>by
  have nd:=zzY.mp nd
  rw[zze,zzB]
  by_cases z:k=x
  ·rw[if_pos z]
   have:(K.map fun x=>if k=x then v else 0).sum=0:=pJ fun y hy=>if_neg fun e=>nd.1 (by rw[←z,e];exact hy)
   omega
  ·rw[if_neg z,yT nd.2 (by rcases zzi.mp h with h|h;exact absurd h z;exact h)]
   omega
theorem vh{α:Type}(F G:α->Int):∀l:List α,(l.map fun x=>F x+G x).sum=(l.map F).sum+(l.map G).sum
 |[]=>rfl
 |x::l=>by
  rw[zze,zze,zze,zzB,zzB,zzB,vh F G l]
  omega
theorem vi(F:Row->Int){K:List (List Int)}(nd:K.Nodup):∀(ps:List (List Int×Row)),(∀p∈ps,p.1∈K)->(K.map fun k=>(((ps.filter fun p=>decide (p.1=k)).map (·.2)).map F).sum).sum=((ps.map (·.2)).map F).sum
 |[],_=>pJ fun _ _=>rfl
 |p::ps,h=>by
  have ih:=vi F nd ps fun q hq=>h q (zzc _ hq)
  rw[zze,zze,zzB,←ih,←yT (v:=F p.2) nd (h p zzd),←vh]
  congr 1
  apply zzp
  intro k _
  rw[List.filter_cons]
  by_cases z:p.1=k
  ·rw[if_pos (decide_eq_true z),if_pos z,zze,zze,zzB]
  ·rw[if_neg (by rw[decide_eq_true_eq];exact z),if_neg z]
   omega
theorem cI{rows:List Row}{n h:Nat}(hh:h<n):at_ (sums rows n) h=sumP (col rows h):=by
 unfold at_ sums
 rw[zzg,zzn,zyy hh]
 rfl
theorem eA(m:Nat)(ps:List (List Int×Row)):sums ((az m ps).map (·.2)) m=sums (ps.map (·.2)) m:=by
 unfold sums
 apply zzp
 intro h hh
 have hh:=zzy.mp hh
 have hk:∀p∈ps,p.1∈(az m ps).map (·.1):=fun p hp=>parts_mem.mpr (zzb.mpr ⟨p,hp,rfl⟩)
 have key:∀g:Int×Int->Int,(∀cs:List (Int×Int),g (sumP cs)=(cs.map g).sum)->((col ((az m ps).map (·.2)) h).map g).sum=((col (ps.map (·.2)) h).map g).sum:=fun g hg=>by
  have:=vi (fun r=>g (at_ r h)) (AC m ps) ps hk
  unfold col
  rw[zzh,zzh (f:=fun r=>at_ r h)]
  refine Eq.trans ?_ this
  conv=>lhs;rw[iQ m ps]
  rw[zzh,zzh]
  congr 1
  apply zzp
  intro k _
  show g (at_ (sums ((ps.filter fun p=>decide (p.1=k)).map (·.2)) m) h)=_
  rw[cI hh,hg]
  unfold col
  rw[zzh]
  rfl
 have k1:=key (·.1) fun cs=>rfl
 have k2:=key (·.2) fun cs=>rfl
 unfold sumP
 rw[k1,k2]
def aY(s:List Int):Int:=match s.getLast? with
 |some x=>x+1
 |none=>0
def extI(n:Nat)(s:List Int):List (List Int):=(List.range (n - (aY s).toNat)).map fun(i:Nat)=>s++[aY s+(i:Int)]
def lgr(n:Nat)(ts:List (List Int)):List (List Int):=ts.flatMap (extI n)
def lv(n:Nat):Nat->List (List Int)
 |0=>[[]]
 |k+1=>lgr n (lv n k)
def chs(n:Nat):Nat->List (List Int)
 |0=>[]
 |k+1=>chs n k++lv n (k+1)
theorem vj:∀n,n <= 5->∀k,k <= 6->(lv n k).length <= 10:=by decide +kernel
theorem Ge:∀n,n <= 5->lv n (n+1)=[]:=by decide +kernel
theorem HA:∀n,n <= 5->∀k,k <= n->lv n k≠[]:=by decide +kernel
theorem iR:∀n,n <= 5->∀k,k <= 6->(chs n k).length <= 31:=by decide +kernel
def ascB:List Int->Bool
 |[]=>true
 |x::r=>r.all (fun y=>decide (x<y)) && ascB r
def okB(n:Nat)(s:List Int):Bool:=decide (s.length <= 5) && (s.all (fun x=>decide (0 <= x) && decide (x<(n:Int))) && ascB s)
theorem BM:∀{s:List Int},ascB s=true->s.Nodup
 |[],_=>zyP
 |x::r,h=>by
  have h:(r.all (fun y=>decide (x<y)) && ascB r)=true:=h
  rw[zzK,zyt]at h
  refine zzY.mpr ⟨fun m=>?_,BM h.2⟩
  have:=of_decide_eq_true (h.1 x m)
  omega
theorem BN{n:Nat}{s:List Int}(h:okB n s=true):s.length <= 5/\(∀x∈s,0 <= x/\x<(n:Int))/\s.Nodup:=by
 unfold okB at h
 rw[zzK,zzK,zyt]at h
 refine⟨of_decide_eq_true h.1,fun x hx=>?_,BM h.2.2⟩
 have:=h.2.1 x hx
 rw[zzK]at this
 exact⟨of_decide_eq_true this.1,of_decide_eq_true this.2⟩
theorem Gf:∀n,n <= 5->∀k,k <= 6->(lv n k).all (okB n)=true:=by decide +kernel
theorem DB:∀n,n <= 5->∀k,k <= 6->(chs n k).all (okB n)=true:=by decide +kernel
theorem Gg{n:Nat}(hn:n <= 5){k:Nat}(hk:k <= 6){s:List Int}(h:s∈lv n k):s.length <= 5/\(∀x∈s,0 <= x/\x<(n:Int))/\s.Nodup:=BN (zyt.mp (Gf n hn k hk) s h)
theorem BO{n:Nat}(hn:n <= 5){k:Nat}(hk:k <= 6){s:List Int}(h:s∈chs n k):s.length <= 5/\(∀x∈s,0 <= x/\x<(n:Int))/\s.Nodup:=BN (zyt.mp (DB n hn k hk) s h)
def eQ(ts:List (List Int)):D:=.lst (ts.map aw)
theorem DC(n:Nat)(s:List Int):(extI n s).length <= n:=by unfold extI;rw[zza,zzJ];omega
theorem DD(n:Nat)(ts:List (List Int)):(lgr n ts).length <= n*ts.length:=by
 unfold lgr
 induction ts with
 |nil=>simp
 |cons a r ih =>
  rw[List.flatMap_cons,zzl,zyG,Nat.mul_succ]
  have:=DC n a
  omega
theorem AD{n:Nat}{s:List Int}(h:∀x∈s,0 <= x/\x<(n:Int)):0 <= aY s/\aY s <= n:=by
 unfold aY
 cases e:s.getLast? with
 |none=>exact⟨by simp,by simp⟩
 |some x =>
  have:=h x (List.mem_of_getLast? e)
  show 0 <= x+1/\x+1 <= (n:Int)
  omega
def gLg:DSp:=fun ds Q=>∃(n:Nat) (ts:List (List Int)),ds=[eQ ts,.int n]/\n <= 5/\ts.length <= 100/\(∀s∈ts,s.length <= 5/\∀x∈s,0 <= x/\x<(n:Int))/\Q (eQ (lgr n ts))
theorem AE:bj gLg:=fun ds P P' f ⟨n,ts,a,b,c,d,h⟩=>⟨n,ts,a,b,c,d,f _ h⟩
theorem AF(T:Tx K mg):FnOk P w K mg base CX0 1 T.qc T.mS ["tuples","many"] (spD K 2 gLg):=by
 refine fnD (k:=0) T.jb.F sc_longer (fun cdv A outer s H E hr=>(aj (lF (i:=2) sc_longer.nd rfl oo (dE ad))
   (aH (dZ PassesOwn.never rfl (bF (ac 0 (pv 0))) (ao (i:=3) sc_longer.nd rfl oo) (aj (aC (i:=4) sc_longer.nd rfl oo (uq (aN vZ (aM ft rfl T.gv zyb (aa (ac 3 (pv 3)) ad)) ae (aB _)) (bu dh (ar (ac 3 (pv 3)) (mY gx ae) (fun _ _=>rfl)) ae) ae))
   (ai (dZ PassesOwn.never rfl (qC rfl T.cS (aa (ac 4 (pv 4)) (aa (ac 1 (pv 1)) ad))) (ao (i:=5) sc_longer.nd rfl oo) (ai (uw (pv 2) (bu lS (ac 3 (pv 3)) (aS (aa (ac 5 (pv 5)) ad)))))))))
   (ai (aE (ac 2 (pv 2))))))) (fun ds Q hl h=>?_)
 obtain⟨n,ts,rfl,n5,t100,ok,h⟩:=h
 refine⟨sz,fun ρ=>∃s3 s4 s5:Sl,ρ=[.val (eQ ts),.val (.int n),.own ((lgr n ts).map aw),s3,s4,s5],?_,?_⟩
 ·refine iD (fun pre ρ=>∃c0 c1:List (List Int),ts=c0++c1/\pre=c0.map aw/\∃s3 s4 s5:Sl,ρ=[.val (eQ ts),.val (.int n),.own ((lgr n c0).map aw),s3,s4,s5]) (fun ρ hN=>?_) (fun pre d post ρ X e hN hX=>?_) _ ⟨[],ts,rfl,rfl,_,_,_,rfl⟩
  ·obtain⟨c0,c1,e1,e2,s3,s4,s5,rfl⟩:=hN
   have:c1=[]:=by
    have:=congrArg List.length e2
    rw[e1]at this
    simp at this
    exact this
   subst this
   rw[zzM]at e1
   subst e1
   exact⟨_,_,_,rfl⟩
  ·obtain⟨c0,c1,e1,rfl,s3,s4,s5,rfl⟩:=hN
   rw[e1,zzo]at e
   have e:=zzO e
   cases c1 with
   |nil=>simp at e
   |cons c c1 =>
    rw[zze]at e
    injection e with e3 e4
    subst e3
    have co:=ok c (by rw[e1];simp)
    have st:=AD co.2
    have cl:c0.length <= 100:=by rw[e1,zzl]at t100;omega
    have ll:=DD n c0
    have lm:n*c0.length <= 5*100:=Nat.mul_le_mul n5 cl
    have inner:∀E:DEnds,(∀ρ,(∃s3 s4 s5:Sl,ρ=[.val (eQ ts),.val (.int n),.own ((lgr n (c0++[c])).map aw),s3,s4,s5])->E.nx ρ)->dFor (diR2 (kh (dVar 4) (kh (dVar 1) vY))) (dg 5) (dApp 2 (dOp FR (dVar 3) (dTup (kh (dVar 5) vY)))) E [.val (eQ ts),.val (.int n),.own ((lgr n c0).map aw),.val (aw c),.val (.int (aY c)),s5]:=fun E hE=>by
     have e5:((n:Int) - aY c).toNat=n - (aY c).toNat:=by omega
     refine⟨⟨by omega,by omega,by omega,by omega⟩,?_⟩
     refine iE (fun k ρ=>∃s5:Sl,ρ=[.val (eQ ts),.val (.int n),.own ((lgr n c0++(List.range (k - aY c).toNat).map fun(i:Nat)=>c++[aY c+(i:Int)]).map aw),.val (aw c),.val (.int (aY c)),s5]) _ _ ?_ ?_ _ ⟨s5,by rw[Int.sub_self];simp⟩
     ·rintro ρ ⟨s5,rfl⟩
      refine hE _ ⟨.val (aw c),.val (.int (aY c)),s5,?_⟩
      have e6:lgr n (c0++[c])=lgr n c0++(List.range (aY c+(((n:Int) - aY c).toNat:Nat) - aY c).toNat).map fun(i:Nat)=>c++[aY c+(i:Int)]:=by
       unfold lgr
       rw[List.flatMap_append,List.flatMap_singleton]
       have:(aY c+(((n:Int) - aY c).toNat:Nat) - aY c).toNat=n - (aY c).toNat:=by omega
       rw[this]
       rfl
      rw[e6]
     ·rintro k ρ Z k0 k1 ⟨s5,rfl⟩ hZ
      have ek:(List.range (k+1 - aY c).toNat).map (fun(i:Nat)=>c++[aY c+(i:Int)])=(List.range (k - aY c).toNat).map (fun(i:Nat)=>c++[aY c+(i:Int)])++[c++[k]]:=by
       rw[show (k+1 - aY c).toNat=(k - aY c).toNat+1 by omega,zyW,zzo]
       congr 2
       show [c++[aY c+(((k - aY c).toNat:Nat):Int)]]=_
       rw[show aY c+(((k - aY c).toNat:Nat):Int)=k by omega]
      refine⟨trivial,sz,?_,?_,hZ _ ⟨.val (.int k),?_⟩⟩
      ·show (c.map D.int).length+1 <= sizeLine
       rw[zza]
       exact zzk (show c.length+1 <= 6 by omega) (by decide)
      ·rw[zza,zzl,zza,zzJ]
       exact zzD (show _ <= 600 by omega) (by decide)
      ·have em:∀A:List (List Int),(A++[c++[k]]).map aw=A.map aw++[.tup (c.map D.int++[.int k])]:=fun A=>by
        rw[zzo]
        unfold aw
        simp
       rw[ek,←zyC,em]
       rfl
    have go:∀E:DEnds,(∀ρ,(∃s3 s4 s5:Sl,ρ=[.val (eQ ts),.val (.int n),.own ((lgr n (c0++[c])).map aw),s3,s4,s5])->E.nx ρ)->True:=fun _ _=>trivial
    have fin:∀ρ,(∃s3 s4 s5:Sl,ρ=[.val (eQ ts),.val (.int n),.own ((lgr n (c0++[c])).map aw),s3,s4,s5])->X ρ:=fun ρ ⟨s3,s4,s5,er⟩=>hX ρ ⟨c0++[c],c1,by rw[e1];simp,by simp,s3,s4,s5,er⟩
    have el:(((c.map D.int).length:Nat):Int)=c.length:=by rw[zza]
    refine Br.di (fun z=>?_) (fun z=>?_)
    ·obtain⟨x,hx⟩:∃x,c.getLast? = some x:=by
      cases q:c.getLast? with
      |none =>
       rw[List.getLast?_eq_none_iff]at q
       rw[q]at z
       exact absurd z (by decide)
      |some x=>exact⟨x,rfl⟩
     have es:aY c=x+1:=by unfold aY;rw[hx]
     rw[es]at inner
     have cp:0<c.length:=by omega
     have ea:atI (c.map D.int) (-1)=some (.int x):=by
      unfold atI ixN
      rw[zza,if_neg (by decide),if_pos (by omega)]
      show (c.map D.int)[(-1+(c.length:Int)).toNat]? = _
      rw[zzn,show (-1+(c.length:Int)).toNat=c.length - 1 by omega,←List.getLast?_eq_getElem?,hx]
      rfl
     show opt (atI (c.map D.int) (-1)) _
     rw[ea]
     exact inner _ fin
    ·have cn:c=[]:=by
      have:c.length=0:=by omega
      exact zzN.mp this
     have es:aY c=0:=by rw[cn];rfl
     rw[es]at inner
     exact inner _ fin
 ·rintro _ ⟨s3,s4,s5,rfl⟩
  exact h
def gCh:DSp:=fun ds Q=>∃n:Nat,ds=[.int n]/\n <= 5/\Q (eQ (chs n (n+1)))
theorem yU:bj gCh:=fun ds P P' f ⟨n,a,b,h⟩=>⟨n,a,b,f _ h⟩
def cntO:Sl->Nat
 |.own l=>2*(40 - l.length)
 |_=>0
def flg:Sl->Nat
 |.val (.lst (_::_))=>1
 |_=>0
def muC(ρ:DS):Nat:=cntO (slot ρ 1)+flg (slot ρ 2)
theorem yV(T:Tx K mg):FnOk P w K mg base CX0 2 T.mM T.jR ["many"] (spD K 1 gCh):=by
 refine fnD (k:=1) T.ge.F sc_choices (fun cdv A outer s H E hr=>(aj (lF (i:=1) sc_choices.nd rfl oo (dE ad))
   (aj (aC (i:=2) sc_choices.nd rfl oo (aF (dE (aa (aS ad) ad))))
   (aH (zS PassesOwn.never (aN vZ (aM ft rfl T.gv zyb (aa (ac 2 (pv 2)) ad)) ae (aB _)) (aj (aC (i:=2) sc_choices.nd rfl oo (ag (AF T) AE (rm hr) rfl T.jb.m T.jb.F.kp T.jb.b (aa (ac 2 (pv 2)) (aa (ac 0 (pv 0)) ad))))
   (ai (FN (pv 1) (ac 2 (pv 2))))))
   (ai (aE (ac 1 (pv 1)))))))) (fun ds Q hl h=>?_)
 obtain⟨n,rfl,n5,h⟩:=h
 refine⟨sz,sz,sz,fun ρ=>∃s2:Sl,ρ=[.val (.int n),.own ((chs n (n+1)).map aw),s2],?_,?_⟩
 ·refine wf (fun ρ=>∃k,k <= n+1/\ρ=[.val (.int n),.own ((chs n k).map aw),.val (eQ (lv n k))]) muC (fun ρ X hN hX=>?_) _ ⟨0,by omega,rfl⟩
  obtain⟨k,kn,rfl⟩:=hN
  have l10:=vj n n5 k (by omega)
  have cl:=iR n n5 k (by omega)
  by_cases z:k=n+1
  ·subst z
   have e:=Ge n n5
   rw[e]
   exact Br.f ⟨_,rfl⟩
  ·have kn':k <= n:=by omega
   have ne:=HA n n5 k kn'
   have lp:0<(lv n k).length:=List.length_pos_iff.mpr ne
   have el:((((lv n k).map aw).length:Nat):Int)=(lv n k).length:=by rw[zza]
   refine Br.dt (by omega) ?_
   refine⟨rfl,n,lv n k,rfl,n5,by omega,fun s hs=>⟨(Gg n5 (by omega) hs).1,(Gg n5 (by omega) hs).2.1⟩,trivial,?_⟩
   have l10':=vj n n5 (k+1) (by omega)
   have cl':=iR n n5 (k+1) (by omega)
   have e1:lgr n (lv n k)=lv n (k+1):=rfl
   have e2:(chs n (k+1)).map aw=(chs n k).map aw++(lv n (k+1)).map aw:=by
    show (chs n k++lv n (k+1)).map aw=_
    rw[zzo]
   rw[e1]
   refine⟨_,rfl,?_,hX _ ⟨k+1,by omega,by rw[e2];rfl⟩ ?_⟩
   ·rw[zza,zza]
    exact zzk (show _ <= 100 by omega) (by decide)
   ·have c2:(chs n (k+1)).length=(chs n k).length+(lv n (k+1)).length:=by
     show (chs n k++lv n (k+1)).length=_
     rw[zzl]
    show 2*(40 - ((chs n k).map aw++(lv n (k+1)).map aw).length)+flg (.val (eQ (lv n (k+1))))<2*(40 - ((chs n k).map aw).length)+flg (.val (eQ (lv n k)))
    have m1:flg (.val (eQ (lv n k)))=1:=by
     cases q:lv n k with
     |nil=>exact absurd q ne
     |cons a r=>rfl
    have m2:flg (.val (eQ (lv n (k+1)))) <= (lv n (k+1)).length/\flg (.val (eQ (lv n (k+1)))) <= 1:=by
     cases q:lv n (k+1) with
     |nil=>exact⟨zzj _,zzG _⟩
     |cons a r=>exact⟨Nat.succ_le_succ (zzG _),zzj _⟩
    rw[m1,zzl,zza,zza]
    omega
 ·rintro _ ⟨s2,rfl⟩
  exact h
theorem nZ:bj (fun ds Q=>pH ds Q fun es=>Q (.lst es)):=fun ds P P' f h=>mt _ _ _ _ _ f (fun es q=>f _ q) h
theorem oa(T:Tx K mg):FnOk P w K mg base CX0 6 T.gs T.eT ["book","some"] (spD K 2 (fun ds Q=>pH ds Q fun es=>Q (.lst es))):=DL.FnOk.asD (tK T) (fun ds Q h=>h) mt
def tblB(b:Bk)(so:List Int):List Row:=(cc b so).map (·.2)
def trnB(b:Bk)(x y:Nat)(so:List Int):D:=kE (told (tblB b so) x y) (fG (tblB b so) x y)
def hdD:D->D
 |.tup (d::_)=>d
 |_=>.non
def isT(b:Bk)(x y:Nat)(so:List Int):Bool:=eqD (hdD (trnB b x y so)) (.str (PySem.Str.ofString "turned"))
theorem wH(ws:List D)(d:D):∃s r,kE ws d=.tup (.str s::r)/\shp (.str s)=true:=by
 have tk:∀s:Int,∃s' r,tkT s d=.tup (.str s'::r)/\shp (.str s')=true:=fun s=>by
  unfold tkT
  split
  ·exact⟨_,_,rfl,Shp.shp (n:=0) ⟨rfl,by decide +kernel,zzG _⟩⟩
  ·exact⟨_,_,rfl,Shp.shp (n:=0) ⟨rfl,by decide +kernel,zzG _⟩⟩
 unfold kE
 split
 ·exact tk 1
 ·split
  ·exact tk (-1)
  ·split
   ·exact⟨_,_,rfl,Shp.shp (n:=0) ⟨rfl,by decide +kernel,zzG _⟩⟩
   ·exact⟨_,_,rfl,Shp.shp (n:=0) ⟨rfl,by decide +kernel,zzG _⟩⟩
def tby(b:Bk)(x y:Nat):List (List Int):=if b.cells=[] then[] else(chs b.marks.length (b.marks.length+1)).filter (isT b x y)
def gTBN:DSpN:=fun ds _ L=>∃(b:Bk) (x y:Int),ds=[aG b,.int x,.int y]/\BkOk b/\AbOk b.m x y/\L ((tby b x.toNat y.toNat).map aw)
theorem rL:qN gTBN:=fun ds P P' L L' f fl ⟨b,x,y,a,c,d,h⟩=>⟨b,x,y,a,c,d,fl _ h⟩
theorem rM{b:Bk}(bo:BkOk b)(cn:b.cells≠[])(so:List Int):Tbl b.m (tblB b so):=by
 refine⟨bo.m2,bo.m6,?_,?_,fun r hr=>?_⟩
 ·cases q:b.cells with
  |nil=>exact absurd q cn
  |cons c t =>
   have:vals c.1 so∈(cc b so).map (·.1):=by
    unfold cc
    rw[parts_mem,zzh,zzb]
    exact⟨c,by rw[q];exact zzd,rfl⟩
   unfold tblB
   rw[zza]
   cases e:cc b so with
   |nil=>rw[e]at this;simp at this
   |cons _ _=>simp
 ·unfold tblB
  rw[zza]
  exact zzk (rF bo) (by decide)
 ·obtain⟨c,hc,rfl⟩:=zzb.mp hr
  unfold cc at hc
  rw[fJ hc]
  refine BL (fun r hr=>?_) ?_
  ·obtain⟨p,hp,rfl⟩:=zzb.mp hr
   obtain⟨d,hd,rfl⟩:=zzb.mp (zzv.mp hp).1
   exact(bo.it d hd).2.1
  ·rw[zza]
   refine zzk (zyc _ _) ?_
   rw[zza]
   exact bo.c60
theorem yW:shp (.str (PySem.Str.ofString "turned"))=true:=Shp.shp (n:=0) ⟨rfl,by decide +kernel,zzG _⟩
theorem rN(T:Tx K mg):FnOk P w K mg base CX0 7 T.eZ T.dJ ["book","a","b"] (spDN K 3 gTBN):=by
 refine fnDN (k:=6) T.bK.F rC (fun cdv A outer s H E hr=>(cX (fj (ag (fF T) fE (rm hr) rfl T.aT.m T.aT.F.kp T.aT.b (aa (ar (ac 0 (pv 0)) ae (fun _ _=>rfl)) (aa (ac 1 (pv 1)) (aa (ac 2 (pv 2)) ad)))))
   (yu (aN (eL hr) (aM ft rfl T.gv zyb (aa (ar (ac 0 (pv 0)) ae (fun _ _=>rfl)) ad)) ae (aB _)) (dE ad)
   (lO (PCD.pld (aA (N':=["some","book","a","b"]) rfl rfl dk rfl (.own (.cap (j:=0) rfl oo rfl (.cap (j:=1) rfl oo rfl (.cap (j:=2) rfl oo rfl .nil)))) dk (bF (ag (yV T) yU (rm hr) rfl T.ge.m T.ge.F.kp T.ge.b (aa (aM ft rfl T.gv zyb (aa (ar (ac 0 (pv 0)) ae (fun _ _=>rfl)) ad)) ad))) (fun B=>(ao (i:=0) ndB rfl oo)) (fun B=>(jm (aN (eL hr) (ar (ag (rK T) rJ (rm hr) rfl T.cP.m T.cP.F.kp T.cP.b (aa (ag (oa T) nZ (rm hr) rfl T.ce.m T.ce.F.kp T.ce.b (aa (ac 1 (pv 1)) (aa (ac 0 (pv 0)) ad))) (aa (ac 2 (pv 2)) (aa (ac 3 (pv 3)) ad)))) ae (fun _ _=>rfl)) lB (aB _)))) (fun B=>(ac 0 (pv 0))))))))) (fun ds Q L hl h=>?_)
 obtain⟨b,x,y,rfl,bo,ab,h⟩:=h
 have mk5:=bo.mk5
 refine⟨rfl,⟨ab.a0,ab.a1,ab.b0,ab.b1,ab.ne⟩,⟨rfl,rfl⟩,fun z=>?_,fun z=>?_⟩
 ·have z:(((b.cells.map aX).length:Nat):Int)=0:=by simpa[bB]using z
  have cn:b.cells=[]:=by
   rw[zza]at z
   exact zzN.mp (by omega)
  unfold tby at h
  rw[if_pos cn]at h
  exact⟨sz,h⟩
 ·have z:(((b.cells.map aX).length:Nat):Int)≠0:=by simpa[bB]using z
  have cn:b.cells≠[]:=fun q=>z (by rw[q];rfl)
  unfold tby at h
  rw[if_neg cn]at h
  have em:(((b.marks.map D.int).length:Nat):Int)=((b.marks.length:Nat):Int):=by rw[zza]
  refine⟨rfl,b.marks.length,by rw[em],mk5,?_⟩
  have cok:∀s∈chs b.marks.length (b.marks.length+1),SoOk b s:=fun s hs=>by
   have:=BO mk5 (show b.marks.length+1 <= 6 by omega) hs
   exact⟨this.2.1,this.2.2,this.1⟩
  have cl:=iR _ mk5 (b.marks.length+1) (by omega)
  generalize chs b.marks.length (b.marks.length+1)=cs at h cok cl
  refine bb (fun pre acc ρ=>∃c0 c1:List (List Int),cs=c0++c1/\pre=c0.map aw/\acc=(c0.filter (isT b x.toNat y.toNat)).map aw/\∃s:Sl,ρ=[s,.val (aG b),.val (.int x),.val (.int y)]) (fun acc ρ hN=>?_) (fun pre d post acc ρ Y e hN hY=>?_) _ ⟨[],cs,rfl,rfl,rfl,_,rfl⟩
  ·obtain⟨c0,c1,e1,e2,rfl,s,rfl⟩:=hN
   have:c1=[]:=by
    have:=congrArg List.length e2
    rw[e1]at this
    simp at this
    exact this
   subst this
   rw[zzM]at e1
   subst e1
   exact h
  ·obtain⟨c0,c1,e1,rfl,rfl,s,rfl⟩:=hN
   rw[e1,zzo]at e
   have e:=zzO e
   cases c1 with
   |nil=>simp at e
   |cons c c1 =>
    rw[zze]at e
    injection e with e3 e4
    subst e3
    have so:=cok c (by rw[e1];simp)
    have tb:=rM bo cn c
    have c31:(c0.filter (isT b x.toNat y.toNat)).length <= 31:=by
     rw[e1,zzl]at cl
     exact zzk (zyc _ _) (by omega)
    refine⟨rfl,b,c,rfl,bo,so,rfl,b.m,tblB b c,rfl,tb,⟨ab.a0,ab.a1,ab.b0,ab.b1,ab.ne⟩,?_⟩
    obtain⟨w',r,ew,sw⟩:=wH (told (tblB b c) x.toNat y.toNat) (fG (tblB b c) x.toNat y.toNat)
    have ei:isT b x.toNat y.toNat c=eqD (.str w') (.str (PySem.Str.ofString "turned")):=by
     unfold isT trnB
     rw[ew]
     rfl
    rw[ew]
    refine eh (zyn 0) rfl ⟨⟨sw,yW⟩,fun z=>?_,fun z=>?_⟩
    ·have z:isT b x.toNat y.toNat c=true:=by rw[ei];exact z
     refine⟨?_,hY _ _ ⟨c0++[c],c1,by rw[e1];simp,by simp,?_,_,rfl⟩⟩
     ·rw[zza]
      exact zzD c31 (by decide)
     ·rw[zyo,zyq z,zzo]
      rfl
    ·have z:isT b x.toNat y.toNat c=false:=by rw[ei];exact z
     refine hY _ _ ⟨c0++[c],c1,by rw[e1];simp,by simp,?_,_,rfl⟩
     rw[zyo,zyr (by rw[z];exact zzu)]
     simp
def gTB:DSp:=fun ds Q=>∃(b:Bk) (x y:Int),ds=[aG b,.int x,.int y]/\BkOk b/\AbOk b.m x y/\Q (eQ (tby b x.toNat y.toNat))
theorem my:bj gTB:=fun ds P P' f ⟨b,x,y,a,c,d,h⟩=>⟨b,x,y,a,c,d,f _ h⟩
theorem mz(T:Tx K mg):FnOk P w K mg base CX0 7 T.eZ T.dJ ["book","a","b"] (spD K 3 gTB):=DL.FnOk.asD (rN T) (fun ds Q h=>h) rL
theorem pK{α:Type}{g:DG}{te:DE}{l:List α}{Q:List D->Prop}(F G:α->D)(N:DS->Prop)(hl:l.length <= 1000)
  (hs:∀i∈l,∀(ρ:DS) (Y:D->DS->Prop) (Z:DS->Prop),N ρ->(∀ρ',N (cj ρ')->Y (G i) ρ')->g (F i) ρ fun ρ1=>bP ρ1 fun b ρ2=>Br b (te ρ2 Y) (Z ρ2)) (ρ:DS) (h:N ρ) (hq:Q (l.map G)):cE g bP te (l.map F) [] ρ Q:=by
 refine bb (fun pre acc ρ=>acc=(l.take pre.length).map G/\N ρ) (fun acc ρ hN=>by rw[hN.1,zza,List.take_length];exact hq) (fun pre d post acc ρ Y e hN hY=>?_) _ ⟨rfl,h⟩
 obtain⟨rfl,hN⟩:=hN
 have hg:(l.map F)[pre.length]? = some d:=by
  rw[e,zzF (zzj _),Nat.sub_self]
  rfl
 have lt:pre.length<l.length:=by
  have:=(zzt.mp hg).1
  simpa using this
 rw[zzn,zzm lt]at hg
 have hg:F l[pre.length]=d:=by simpa using hg
 rw[←hg]
 have tk:l.take (pre.length+1)=l.take pre.length++[l[pre.length]]:=(List.take_append_getElem lt).symm
 refine hs l[pre.length] (zzU lt) ρ _ _ hN fun ρ' h'=>⟨?_,hY _ _ ⟨?_,h'⟩⟩
 ·rw[zza,zyF]
  exact zzD (show min pre.length l.length <= 1000 by omega) (by decide)
 ·rw[zzl,zzL,tk,zzo]
  rfl
theorem vm{α:Type}{g:DG}{tc:DT}{te:DE}{l:List α}{Q:List D->Prop}(F G:α->D)(p:α->Bool)(N:DS->Prop)(hl:l.length <= 1000)
  (hs:∀i∈l,∀(ρ:DS) (Y:D->DS->Prop) (Z:DS->Prop),N ρ->(p i=true->∀ρ',N (cj ρ')->Y (G i) ρ')->(p i=false->∀ρ',N (cj ρ')->Z ρ')->g (F i) ρ fun ρ1=>tc ρ1 fun b ρ2=>Br b (te ρ2 Y) (Z ρ2)) (ρ:DS) (h:N ρ) (hq:Q ((l.filter p).map G)):cE g tc te (l.map F) [] ρ Q:=by
 refine bb (fun pre acc ρ=>acc=((l.take pre.length).filter p).map G/\N ρ) (fun acc ρ hN=>by rw[hN.1,zza,List.take_length];exact hq) (fun pre d post acc ρ Y e hN hY=>?_) _ ⟨rfl,h⟩
 obtain⟨rfl,hN⟩:=hN
 have hg:(l.map F)[pre.length]? = some d:=by
  rw[e,zzF (zzj _),Nat.sub_self]
  rfl
 have lt:pre.length<l.length:=by
  have:=(zzt.mp hg).1
  simpa using this
 rw[zzn,zzm lt]at hg
 have e1:F l[pre.length]=d:=by simpa using hg
 subst e1
 have e2:l.take (pre++[F l[pre.length]]).length=l.take pre.length++[l[pre.length]]:=by
  rw[zzl,zzL,List.take_succ_eq_append_getElem lt]
 have ll:(((l.take pre.length).filter p).map G).length <= 1000:=by
  rw[zza]
  exact zzk (zyc _ _) (by rw[zyF];omega)
 refine hs _ (zzU lt) ρ _ _ hN (fun z ρ' hN'=>⟨zzD ll (by decide),hY _ _ ⟨?_,hN'⟩⟩) (fun z ρ' hN'=>hY _ _ ⟨?_,hN'⟩)
 ·rw[e2,zyo,zyq z,zzo]
  rfl
 ·rw[e2,zyo,zyr (by rw[z];exact zzu)]
  simp
def yX:DSp:=fun ds Q=>match ds with
 |[.tup [.int t,.int w]]=>Q (.int (t - w))
 |_=>False
theorem fL:bj yX:=fun ds P P' f h=>by
 unfold yX at h ⊢
 split at h
 ·exact f _ h
 ·exact h.elim
theorem fM(T:Tx K mg):FnOk P w K mg base CX0 1 T.mO T.jX ["count"] (spD K 1 yX):=by
 refine fnD (k:=0) T.aU.F wt (fun cdv A outer s H E hr=>(ai (aE (bu fq (ar (ac 0 (pv 0)) ae (fun _ _=>rfl)) (ar (ac 0 (pv 0)) ae (fun _ _=>rfl)))))) (fun ds Q hl h=>?_)
 unfold yX at h
 split at h
 case h_2=>exact h.elim
 exact h
def gCo:DSp:=fun ds Q=>match ds with
 |[.lst xs,.lst ys]=>∃ws is:List Int,xs=ws.map D.int/\ys=is.map D.int/\ws.length=is.length/\ws.length <= 100/\Q (.lst ((List.zipWith (fun w i=>(w+i,w)) ws is).map aI))
 |_=>False
theorem gS:bj gCo:=fun ds P P' f h=>by
 unfold gCo at h ⊢
 split at h
 ·obtain⟨a,b,c,d,e,g,h⟩:=h
  exact⟨a,b,c,d,e,g,f _ h⟩
 ·exact h.elim
theorem vn:∀(ws is:List Int),zipD (ws.map D.int) (is.map D.int)=(List.zip ws is).map fun p=>.tup [.int p.1,.int p.2]
 |[],_=>by simp[zipD]
 |_::_,[]=>by simp[zipD]
 |w::ws,i::is=>by simp[zipD,vn ws is]
def tM:D->D
 |.tup [.int w,.int i]=>.tup [.int (w+i),.int w]
 |d=>d
theorem BP:∀(ws is:List Int),(zipD (ws.map D.int) (is.map D.int)).map tM=(List.zipWith (fun w i=>(w+i,w)) ws is).map aI
 |[],_=>by simp[zipD]
 |_::_,[]=>by simp[zipD]
 |w::ws,i::is=>by simp[zipD,BP ws is,tM,aI]
theorem gT(T:Tx K mg):FnOk P w K mg base CX0 1 T.gY T.fR ["wells","ills"] (spD K 2 gCo):=by
 refine fnD (k:=0) T.bh.F rA (fun cdv A outer s H E hr=>(ai (aE (aF (PCD.pld (aA (N':=["well","ill"]) rfl rfl dk rfl (.own (.own .nil)) dk (yk rfl T.Be (aa (ac 0 (pv 0)) (aa (ac 1 (pv 1)) ad))) (fun B=>(lG (n:=2) rfl (bG (ao (i:=0) ndB rfl oo) (bG (ao (i:=1) ndB rfl oo) gD)))) (fun B=>aL) (fun B=>(aS (aa (bu dh (ac 0 (pv 0)) (ac 1 (pv 1))) (aa (ac 0 (pv 0)) ad)))))))))) (fun ds Q hl h=>?_)
 unfold gCo at h
 split at h
 case h_2=>exact h.elim
 obtain⟨ws,is,rfl,rfl,e,l,h⟩:=h
 have hz:=vn ws is
 refine⟨_,_,rfl,rfl,bd tM (fun ρ=>∃a b:Sl,ρ=[a,b]) (by rw[eM,zza,zza];exact zzk (zzk (Nat.min_le_left _ _) l) (by decide)) (fun d hd ρ Y Z hN hY=>?_) _ ⟨_,_,rfl⟩ ?_⟩
 ·obtain⟨a,b,rfl⟩:=hN
  rw[hz]at hd
  obtain⟨⟨w,i⟩,_,rfl⟩:=zzb.mp hd
  exact⟨rfl,Br.t ⟨sz,hY _ ⟨_,_,rfl⟩⟩⟩
 ·rw[BP]
  exact h
def gAt:DSp:=fun ds Q=>match ds with
 |[.int p,.int n,.int m]=>(0 <= m/\m <= 100)/\Q (.lst (((List.range m.toNat).map fun j:Nat=>if (j:Int)=p then n else 0).map D.int))
 |_=>False
theorem vo:bj gAt:=fun ds P P' f h=>by
 unfold gAt at h ⊢
 split at h
 ·exact⟨h.1,f _ h.2⟩
 ·exact h.elim
def atPl(p n:Int):D->D
 |.int j=>.int (if j=p then n else 0)
 |d=>d
theorem vp(T:Tx K mg):FnOk P w K mg base CX0 1 T.qa T.mI ["place","number","many"] (spD K 3 gAt):=by
 refine fnD (k:=0) T.dN.F yD (fun cdv A outer s H E hr=>(ai (aE (aF (PCD.pld (aA (N':=["part","place","number"]) rfl rfl dk rfl (.own (.cap (j:=0) rfl oo rfl (.cap (j:=1) rfl oo rfl .nil))) dk (cg rfl T.cS (aa (ac 2 (pv 2)) ad)) (fun B=>(ao (i:=0) ndB rfl oo)) (fun B=>aL) (fun B=>(uq (aN (eL hr) (ac 0 (pv 0)) (ac 1 (pv 1)) (aB _)) (ac 2 (pv 2)) ae)))))))) (fun ds Q hl h=>?_)
 unfold gAt at h
 split at h
 case h_2=>exact h.elim
 rename_i p n m
 obtain⟨⟨m0,m1⟩,h⟩:=h
 refine⟨⟨by omega,by omega⟩,?_⟩
 show cE _ _ _ (eJ 0 m.toNat) _ _ _
 rw[bf]
 refine bd (atPl p n) (fun ρ=>∃a:Sl,ρ=[a,.val (.int p),.val (.int n)]) (by rw[zza,zzJ];exact zzk (show m.toNat <= 100 by omega) (by decide)) (fun d hd ρ Y Z hN hY=>?_) _ ⟨_,rfl⟩ ?_
 ·obtain⟨a,rfl⟩:=hN
  obtain⟨j,_,rfl⟩:=zzb.mp hd
  refine Br.t ⟨⟨rfl,rfl⟩,fun c=>?_,fun c=>?_⟩
  ·have c:(0+(j:Int))=p:=by simpa[bB]using c
   have e:atPl p n (.int (0+(j:Int)))=.int n:=by show D.int (if 0+(j:Int)=p then n else 0)=_;rw[if_pos c]
   rw[e]at hY
   exact hY _ ⟨_,rfl⟩
  ·have c:¬(0+(j:Int))=p:=by simpa[bB]using c
   have e:atPl p n (.int (0+(j:Int)))=.int 0:=by show D.int (if 0+(j:Int)=p then n else 0)=_;rw[if_neg c]
   rw[e]at hY
   exact hY _ ⟨_,rfl⟩
 ·have e:((List.range m.toNat).map fun i:Nat=>D.int (0+(i:Int))).map (atPl p n)=((List.range m.toNat).map fun j:Nat=>if (j:Int)=p then n else 0).map D.int:=by
   rw[zzh,zzh]
   apply zzp
   intro j _
   show D.int (if 0+(j:Int)=p then n else 0)=_
   rw[Int.zero_add]
   rfl
  rw[e]
  exact h
def gSpr:DSp:=fun ds Q=>match ds with
 |[.int n,.int m]=>(1 <= m/\m <= 100)/\Q (.lst (((n - (m - 1))::List.replicate (m - 1).toNat 1).map D.int))
 |_=>False
theorem vq:bj gSpr:=fun ds P P' f h=>by
 unfold gSpr at h ⊢
 split at h
 ·exact⟨h.1,f _ h.2⟩
 ·exact h.elim
theorem vt(T:Tx K mg):FnOk P w K mg base CX0 1 T.pY T.mV ["number","many"] (spD K 2 gSpr):=by
 refine fnD (k:=0) T.dG.F yE (fun cdv A outer s H E hr=>(ai (aE (aF (xN (aF (dE (aa (bu fq (ac 0 (pv 0)) (bu fq (ac 1 (pv 1)) ae)) ad))) (aF (xO (aF (dE (aa ae ad))) (bu fq (ac 1 (pv 1)) ae)))))))) (fun ds Q hl h=>?_)
 unfold gSpr at h
 split at h
 case h_2=>exact h.elim
 rename_i n m
 obtain⟨⟨m0,m1⟩,h⟩:=h
 refine⟨sz,sz,⟨⟨by omega,by omega⟩,?_⟩,?_,?_⟩
 ·exact zzk (m:=100) (by simp;omega) (by decide)
 ·exact zzk (m:=101) (by simp;omega) (by decide)
 ·have e:[D.int (n - (m - 1))]++(List.replicate (m - 1).toNat [D.int 1]).flatten=((n - (m - 1))::List.replicate (m - 1).toNat 1).map D.int:=by simp
  show Q (.lst ([D.int (n - (m - 1))]++(List.replicate (m - 1).toNat [D.int 1]).flatten))
  rw[e]
  exact h
abbrev Prt:=(Int×Int)×(Int×Int)
def tN(r:Prt):D:=.tup [aI r.1,aI r.2]
structure Good(r:Prt):Prop where
 a0:0 <= r.1.2
 a1:r.1.2 <= r.1.1
 b0:0 <= r.2.2
 b1:r.2.2 <= r.2.1
 a2:1 <= r.1.1
 b2:1 <= r.2.1
 less:r.1.2*r.2.1<r.2.2*r.1.1
structure Parts(m:Int)(c d:Int×Int)(rows:List Prt):Prop where
 len:rows.length=m.toNat
 good:∀r∈rows,Good r
 s1:(rows.map fun r=>r.1.1).sum=c.1
 s2:(rows.map fun r=>r.1.2).sum=c.2
 s3:(rows.map fun r=>r.2.1).sum=d.1
 s4:(rows.map fun r=>r.2.2).sum=d.2
abbrev vv(p n m:Int):List Int:=(List.range m.toNat).map fun j:Nat=>if (j:Int)=p then n else 0
abbrev sprA(n m:Int):List Int:=(n - (m - 1))::List.replicate (m - 1).toNat 1
abbrev AG(ws is:List Int):List (Int×Int):=List.zipWith (fun w i=>(w+i,w)) ws is
theorem rO:∀(xs ys:List (Int×Int)),zipD (xs.map aI) (ys.map aI)=(List.zip xs ys).map tN
 |[],_=>by simp[zipD]
 |_::_,[]=>by simp[zipD]
 |x::xs,y::ys=>by simp[zipD,rO xs ys,tN]
theorem HB{a i b:Int}(ha:0 <= a)(hi:1 <= i)(hb:1 <= b):Good ((a+i,a),(b+0,b)):=by
 refine⟨ha,by show a <= a+i;omega,by show 0 <= b;omega,by show b <= b+0;omega,by show 1 <= a+i;omega,by show 1 <= b+0;omega,?_⟩
 show a*(b+0)<b*(a+i)
 rw[Int.add_zero,Int.mul_add,zyR b a]
 have:0<b*i:=Int.mul_pos (by omega) (by omega)
 omega
theorem Gh{b i:Int}(hb:1 <= b)(hi:0 <= i):Good ((0+1,0),(b+i,b)):=by
 refine⟨zyn 0,by show (0:Int) <= 0+1;decide,by show 0 <= b;omega,by show b <= b+i;omega,by show (1:Int) <= 0+1;decide,by show 1 <= b+i;omega,?_⟩
 show 0*(b+i)<b*(0+1)
 omega
theorem AH{t w t' w' m:Int}(m2:2 <= m)(m8:m <= 8)(w0:0 <= w)(w1:w <= t)(w0':0 <= w')(w1':w' <= t')(hi:m <= t - w)(hw:m <= w'):Parts m (t,w) (t',w') (List.zip (AG (vv 0 w m) (sprA (t - w) m)) (AG (sprA w' m) (vv 1 (t' - w') m))):=by
 have g0:Good ((w+(t - w - (m - 1)),w),(w' - (m - 1)+0,w' - (m - 1))):=HB w0 (by omega) (by omega)
 have g1:Good ((0+1,0),(1+(t' - w'),1)):=Gh (by decide) (by omega)
 have g2:Good ((0+1,0),(1+0,1)):=Gh (by decide) (by decide)
 have hm:m=2∨m=3∨m=4∨m=5∨m=6∨m=7∨m=8:=by omega
 rcases hm with rfl|rfl|rfl|rfl|rfl|rfl|rfl
 all_goals
  refine⟨rfl,fun r hr=>?_,?_,?_,?_,?_⟩
  ·simp[AG,vv,sprA,zyW,List.replicate]at hr g0 g1 g2
   rcases hr with hr|hr<;>first | (subst hr;simpa using g0)|skip
   all_goals first | (subst hr;simpa using g1)|skip
   all_goals (rcases hr with hr|hr<;>(subst hr;first|simpa using g1|simpa using g2))
  all_goals (simp[AG,vv,sprA,zyW,List.replicate];try omega)
def mB:DSpN:=fun ds Q L=>match ds with
 |[.tup [.int t,.int w],.tup [.int t',.int w'],.int m]=>(2 <= m/\m <= 8)/\(0 <= w/\w <= t/\0 <= w'/\w' <= t')/\((t - w<m∨w'<m)->Q .non)/\(¬(t - w<m∨w'<m)->∀rows,Parts m (t,w) (t',w') rows->L (rows.map tN))
 |_=>False
theorem yY:qN mB:=fun ds P P' L L' f fl h=>by
 unfold mB at h ⊢
 split at h
 ·exact⟨h.1,h.2.1,fun z=>f _ (h.2.2.1 z),fun z r o=>fl _ (h.2.2.2 z r o)⟩
 ·exact h.elim
theorem yZ(T:Tx K mg):FnOk P w K mg base CX0 3 T.kW T.iW ["one","other","many"] (spDN K 3 mB):=by
 refine fnDN (k:=2) T.iZ.F sc_parted (fun cdv A outer s H E hr=>(cX (cG (nE (lD (ag (dq T) dm (rm hr) rfl T.aD.m T.aD.F.kp T.aD.b (aa (ac 2 (pv 2)) (aa (kO rfl T.gz) (aa (kO rfl T.je) ad)))))) (ai cK) aQ)
   (cX (cG (PWD.pt (sE (aN zT (ag (fM T) fL (rm hr) rfl T.aU.m T.aU.F.kp T.aU.b (aa (ac 0 (pv 0)) ad)) (ac 2 (pv 2)) (aB _)) (lE (aN zT (ar (ac 1 (pv 1)) ae (fun _ _=>rfl)) (ac 2 (pv 2)) (aB _))))) (ai (aE nD)) aQ)
   (cX (aC (i:=3) sc_parted.nd rfl oo (ag (gT T) gS (rm hr) rfl T.bh.m T.bh.F.kp T.bh.b (aa (ag (vp T) vo (rm hr) rfl T.dN.m T.dN.F.kp T.dN.b (aa ae (aa (ar (ac 0 (pv 0)) ae (fun _ _=>rfl)) (aa (ac 2 (pv 2)) ad)))) (aa (ag (vt T) vq (rm hr) rfl T.dG.m T.dG.F.kp T.dG.b (aa (ag (fM T) fL (rm hr) rfl T.aU.m T.aU.F.kp T.aU.b (aa (ac 0 (pv 0)) ad)) (aa (ac 2 (pv 2)) ad))) ad))))
   (cX (aC (i:=4) sc_parted.nd rfl oo (ag (gT T) gS (rm hr) rfl T.bh.m T.bh.F.kp T.bh.b (aa (ag (vt T) vq (rm hr) rfl T.dG.m T.dG.F.kp T.dG.b (aa (ar (ac 1 (pv 1)) ae (fun _ _=>rfl)) (aa (ac 2 (pv 2)) ad))) (aa (ag (vp T) vo (rm hr) rfl T.dN.m T.dN.F.kp T.dN.b (aa ae (aa (ag (fM T) fL (rm hr) rfl T.aU.m T.aU.F.kp T.aU.b (aa (ac 1 (pv 1)) ad)) (aa (ac 2 (pv 2)) ad)))) ad))))
   (lO (yy rfl rfl T.rZ rfl T.Be (aa (ac 3 (pv 3)) (aa (ac 4 (pv 4)) ad))))))))) (fun ds Q L hl h=>?_)
 unfold mB at h
 split at h
 case h_2=>exact h.elim
 rename_i t w t' w' m
 obtain⟨⟨m2,m8⟩,⟨w0,w1,w0',w1'⟩,hq,hL⟩:=h
 refine⟨rfl,⟨m2,m8⟩,Br.f ⟨rfl,fun c=>Br.t ?_,fun c=>⟨fun c'=>?_,fun c'=>?_⟩⟩⟩
 ·exact hq (.inl (by simpa using c))
 ·exact hq (.inr (by simpa using c'))
 ·have c:¬t - w<m:=by simpa using c
  have c':¬w'<m:=by simpa using c'
  refine⟨rfl,⟨by omega,by omega⟩,rfl,rfl,⟨by omega,by omega⟩,rfl,_,_,rfl,rfl,by simp;omega,by simp;omega,?_⟩
  refine⟨rfl,⟨by omega,by omega⟩,rfl,rfl,⟨by omega,by omega⟩,rfl,_,_,rfl,rfl,by simp;omega,by simp;omega,?_⟩
  show L (zipD _ _)
  rw[rO]
  exact hL (by omega) _ (AH m2 m8 w0 w1 w0' w1' (by omega) (by omega))
def kT:DSp:=fun ds Q=>match ds with
 |[.tup [.int t,.int w],.tup [.int t',.int w'],.int m]=>(2 <= m/\m <= 8)/\(0 <= w/\w <= t/\0 <= w'/\w' <= t')/\((t - w<m∨w'<m)->Q .non)/\(¬(t - w<m∨w'<m)->∀rows,Parts m (t,w) (t',w') rows->Q (.lst (rows.map tN)))
 |_=>False
theorem AI:bj kT:=fun ds P P' f h=>by
 unfold kT at h ⊢
 split at h
 ·exact⟨h.1,h.2.1,fun z=>f _ (h.2.2.1 z),fun z r o=>f _ (h.2.2.2 z r o)⟩
 ·exact h.elim
theorem AJ(T:Tx K mg):FnOk P w K mg base CX0 3 T.kW T.iW ["one","other","many"] (spD K 3 kT):=DL.FnOk.asD (yZ T) (fun ds Q h=>by
 unfold kT at h
 unfold mB
 split at h
 ·exact h
 ·exact h.elim) yY
theorem DF{k:Nat}{ws:List Int}{ρ:DS}{Q:D->DS->Prop}(h:slot ρ k=.val (.lst (ws.map D.int)))(q:Q (.int ws.sum) ρ):dCB gSum (kh (dVar k) vY) ρ Q:=by
 show Fd k ρ _ (slot ρ k)
 rw[h]
 exact lK (P:=fun d=>Q d ρ) q
def gFil:DSp:=fun ds Q=>∃(x:Int) (rs:List Int),ds=[.int x,.lst (rs.map D.int)]/\0 <= x/\(∀r∈rs,0 <= r)/\rs.length <= 100/\∀ts:List Int,ts.length=rs.length->(∀t∈ts,0 <= t/\t <= x)->(∀(i:Nat) (t r:Int),ts[i]? = some t->rs[i]? = some r->t <= r)->(x <= rs.sum->ts.sum=x)->Q (.lst (ts.map D.int))
theorem AK:bj gFil:=fun ds P P' f ⟨x,rs,a,b,c,d,h⟩=>⟨x,rs,a,b,c,d,fun ts e g k z=>f _ (h ts e g k z)⟩
theorem AL(T:Tx K mg):FnOk P w K mg base CX0 1 T.pU T.mK ["number","rooms"] (spD K 2 gFil):=by
 refine fnD (k:=0) T.jd.F sc_filled (fun cdv A outer s H E hr=>(aj (lF (i:=2) sc_filled.nd rfl oo (dE ad))
   (aH (dZ PassesOwn.never rfl (bF (ac 1 (pv 1))) (ao (i:=3) sc_filled.nd rfl oo) (ai (uw (pv 2) (aM Fs rfl T.Gv PyProof.Rows.boot_min (aa (ac 3 (pv 3)) (aa (bu fq (ac 0 (pv 0)) (CP 2 (aM uy rfl T.zx PyProof.Rows.boot_sum (aa (ac 2 (pv 2)) ad)))) ad))))))
   (ai (aE (ac 2 (pv 2))))))) (fun ds Q hl h=>?_)
 obtain⟨x,rs,rfl,x0,r0,rl,h⟩:=h
 refine⟨sz,fun ρ=>∃(ts:List Int) (s:Sl),ts.length=rs.length/\(∀t∈ts,0 <= t/\t <= x)/\(∀(i:Nat) (t r:Int),ts[i]? = some t->rs[i]? = some r->t <= r)/\(x <= rs.sum->ts.sum=x)/\ρ=[.val (.int x),.val (.lst (rs.map D.int)),.own (ts.map D.int),s],?_,?_⟩
 ·refine iD (fun pre ρ=>∃(q0 q1 ts:List Int) (s:Sl),rs=q0++q1/\pre=q0.map D.int/\ts.length=q0.length/\(∀t∈ts,0 <= t/\t <= x)/\(0 <= ts.sum/\ts.sum <= x/\(ts.sum=x∨ts.sum=q0.sum))/\(∀(i:Nat) (t r:Int),ts[i]? = some t->q0[i]? = some r->t <= r)/\ρ=[.val (.int x),.val (.lst (rs.map D.int)),.own (ts.map D.int),s]) (fun ρ hN=>?_) (fun pre d post ρ X e hN hX=>?_) _ ⟨[],rs,[],_,rfl,rfl,rfl,fun t ht=>by simp at ht,⟨by simp,by simpa using x0,.inr rfl⟩,fun i t r ht=>by simp at ht,rfl⟩
  ·obtain⟨q0,q1,ts,s,e1,e2,tl,tb,⟨s0,s1,s2⟩,tr,rfl⟩:=hN
   have:q1=[]:=by
    have:=congrArg List.length e2
    rw[e1]at this
    simp at this
    exact this
   subst this
   rw[zzM]at e1
   subst e1
   exact⟨ts,s,tl,tb,tr,fun z=>by omega,rfl⟩
  ·obtain⟨q0,q1,ts,s,e1,rfl,tl,tb,⟨s0,s1,s2⟩,tr,rfl⟩:=hN
   rw[e1,zzo]at e
   have e:=zzO e
   cases q1 with
   |nil=>simp at e
   |cons r q1 =>
    rw[zze]at e
    injection e with e3 e4
    subst e3
    have r0':=r0 r (by rw[e1];simp)
    have ll:ts.length <= 100:=by rw[e1,zzl]at rl;omega
    refine⟨trivial,ts.map D.int,rfl,rfl,DF (ws:=ts) rfl ⟨⟨trivial,rfl⟩,?_⟩⟩
    obtain⟨m,hm,m0,mr,mx,m3⟩:∃m:Int,(if x - ts.sum<r then x - ts.sum else r)=m/\0 <= m/\m <= r/\m <= x - ts.sum/\(m=x - ts.sum∨m=r):=⟨_,rfl,by split<;>omega,by split<;>omega,by split<;>omega,by split<;>omega⟩
    have key:(ts.map D.int).length<sizeLine/\X [.val (.int x),.val (.lst (rs.map D.int)),.own (ts.map D.int++[.int m]),.val (.int r)]:=by
     refine⟨by rw[zza];exact zzD ll (by decide),hX _ ⟨q0++[r],q1,ts++[m],_,by rw[e1];simp,by simp,by simp[tl],fun t ht=>?_,⟨?_,?_,?_⟩,fun i t r' ht hr'=>?_,by rw[zzo];rfl⟩⟩
     ·rcases zzx.mp ht with ht|ht
      ·exact tb t ht
      ·rw[zzw.mp ht];omega
     ·rw[zyx];simp;omega
     ·rw[zyx];simp;omega
     ·rw[zyx,zyx];simp;omega
     ·by_cases z:i<ts.length
      ·rw[zzE z]at ht
       rw[zzE (by omega)]at hr'
       exact tr i t r' ht hr'
      ·rw[zzF (by omega)]at ht hr'
       have z2:i - ts.length=0:=by
        have:=(zzt.mp ht).1
        simp at this
        omega
       rw[z2]at ht
       rw[←tl,z2]at hr'
       simp at ht hr'
       omega
    rw[←hm]at key
    exact key
 ·rintro _ ⟨ts,s,tl,tb,tr,ts2,rfl⟩
  exact h ts tl tb tr ts2
def lsD(ts:List Int):D:=.lst (ts.map D.int)
theorem mC:∀{l ts:List Int},l.length=ts.length->(List.zipWith (· - ·) l ts).sum=l.sum - ts.sum
 |[],[],_=>rfl
 |a::l,b::ts,h=>by
  have:=mC (l:=l) (ts:=ts) (by simpa using h)
  rw[List.zipWith_cons_cons,zzB,zzB,zzB,this]
  omega
theorem vw:∀{l:List Int},(∀r∈l,0 <= r)->l.sum=0->∀r∈l,r=0
 |[],_,_,r,hr=>by simp at hr
 |a::l,h,s,r,hr=>by
  have h0:=h a zzd
  have hl:∀r∈l,0 <= r:=fun r hr=>h r (zzc _ hr)
  have ls:0 <= l.sum:=by
   clear s hr
   induction l with
   |nil=>simp
   |cons b l ih =>
    have:=ih (fun r hr=>h r (by rcases zzi.mp hr with rfl|hr;exact zzd;exact zzc _ (zzc _ hr))) fun r hr=>hl r (zzc _ hr)
    have:=hl b zzd
    rw[zzB]
    omega
  rw[zzB]at s
  rcases zzi.mp hr with rfl|hr
  ·omega
  ·exact vw hl (by omega) r hr
structure PouL(ns rs:List Int)(tss:List (List Int))(l:List Int):Prop where
 len:tss.length=ns.length
 it:∀(i:Nat) (ts:List Int) (n:Int),tss[i]? = some ts->ns[i]? = some n->ts.length=rs.length/\(∀t∈ts,0 <= t/\t <= n)/\ts.sum=n
 ll:l.length=rs.length
 l0:∀r∈l,0 <= r
 cl:∀(k:Nat) (r:Int),rs[k]? = some r->(tss.map fun ts=>ts.getD k 0).sum+l.getD k 0=r
 sm:ns.sum+l.sum=rs.sum
theorem PouL.snoc{ns rs l ts:List Int}{n:Int}{tss:List (List Int)}(h:PouL ns rs tss l)(tl:ts.length=l.length)(tb:∀t∈ts,0 <= t/\t <= n)(tr:∀(i:Nat) (t r:Int),ts[i]? = some t->l[i]? = some r->t <= r)(tsum:ts.sum=n):PouL (ns++[n]) rs (tss++[ts]) (List.zipWith (· - ·) l ts):=by
 have pl:=h.len
 have ll:=h.ll
 refine⟨by simp[pl],fun i ts' n' ht' hn'=>?_,by rw[List.length_zipWith];omega,fun r hr=>?_,fun k r hk=>?_,?_⟩
 ·by_cases z:i<tss.length
  ·rw[zzE z]at ht'
   rw[zzE (by omega)]at hn'
   exact h.it i ts' n' ht' hn'
  ·rw[zzF (by omega)]at ht' hn'
   have z2:i - tss.length=0:=by
    have:=(zzt.mp ht').1
    simp at this
    omega
   rw[z2]at ht'
   rw[←pl,z2]at hn'
   simp at ht' hn'
   subst ht' hn'
   exact⟨by omega,tb,tsum⟩
 ·obtain⟨k,hk⟩:=List.mem_iff_getElem?.mp hr
  rw[List.getElem?_zipWith]at hk
  cases ea:l[k]? with
  |none=>rw[ea]at hk;cases hk
  |some a =>
   cases eb:ts[k]? with
   |none=>rw[ea,eb]at hk;cases hk
   |some b =>
    rw[ea,eb]at hk
    have hk:a - b=r:=by simpa using hk
    have:=tr k b a eb ea
    omega
 ·have:=h.cl k r hk
  have kl:k<rs.length:=(zzt.mp hk).1
  rw[zzo,zyx,zzg,List.getElem?_zipWith,zzm (show k<l.length by omega),zzm (show k<ts.length by omega)]
  rw[zzg,zzm (show k<l.length by omega)]at this
  simp[zzm (show k<ts.length by omega)]at this ⊢
  omega
 ·have:=h.sm
  rw[mC (by omega),zyx]
  simp
  omega
structure PouF(n l:Nat)(ns rs:Nat->Int)(F:Nat->Nat->Int):Prop where
 lo:∀i<n,∀k<l,0 <= F i k/\F i k <= ns i
 row:∀i<n,((List.range l).map (F i)).sum=ns i
 col:∀k<l,((List.range n).map fun i=>F i k).sum=rs k
def pouD(n l:Nat)(F:Nat->Nat->Int):D:=.lst ((List.range n).map fun i=>lsD ((List.range l).map (F i)))
theorem iS{α:Type}(d:α)(l:List α):(List.range l.length).map (fun i=>l.getD i d)=l:=by
 apply List.ext_getElem
 ·simp
 ·intro i h1 h2
  simp[h2]
theorem PouL.f{ns rs l:List Int}{tss:List (List Int)}(h:PouL ns rs tss l)(e:ns.sum=rs.sum):∃F,PouF ns.length rs.length (fun i=>ns.getD i 0) (fun k=>rs.getD k 0) F/\D.lst (tss.map lsD)=pouD ns.length rs.length F:=by
 have tl:=h.len
 have z0:∀r∈l,r=0:=vw h.l0 (by have:=h.sm;omega)
 have it:∀i,(hi:i<ns.length)->(tss.getD i []).length=rs.length/\(∀t∈tss.getD i [],0 <= t/\t <= ns.getD i 0)/\(tss.getD i []).sum=ns.getD i 0:=fun i hi=>by
  have h1:tss[i]? = some (tss.getD i []):=by rw[zzg,zzm (by omega)];rfl
  have h2:ns[i]? = some (ns.getD i 0):=by rw[zzg,zzm hi];rfl
  exact h.it i _ _ h1 h2
 have er:∀i,i<ns.length->(List.range rs.length).map (fun k=>(tss.getD i []).getD k 0)=tss.getD i []:=fun i hi=>by
  have:=iS 0 (tss.getD i [])
  rw[(it i hi).1]at this
  exact this
 refine⟨fun i k=>(tss.getD i []).getD k 0,⟨fun i hi k hk=>?_,fun i hi=>?_,fun k hk=>?_⟩,?_⟩
 ·have:=(it i hi).2.1 ((tss.getD i []).getD k 0) (by
   have hk':k<(tss.getD i []).length:=by rw[(it i hi).1];exact hk
   rw[zzg (i:=k),zzm hk']
   exact zzU hk')
  exact this
 ·rw[er i hi]
  exact(it i hi).2.2
 ·have h2:rs[k]? = some (rs.getD k 0):=by rw[zzg,zzm hk];rfl
  have h3:=h.cl k _ h2
  have hkl:k<l.length:=by rw[h.ll];exact hk
  have h4:l.getD k 0=0:=by
   rw[zzg,zzm hkl]
   exact z0 _ (zzU hkl)
  have h5:(List.range ns.length).map (fun i=>(tss.getD i []).getD k 0)=tss.map fun ts=>ts.getD k 0:=by
   have:=congrArg (List.map fun ts:List Int=>ts.getD k 0) (iS [] tss)
   rw[zzh,tl]at this
   exact this
  rw[h5]
  omega
 ·unfold pouD
  have h6:(List.range ns.length).map (fun i=>lsD ((List.range rs.length).map fun k=>(tss.getD i []).getD k 0))=(List.range ns.length).map fun i=>lsD (tss.getD i []):=by
   apply zzp
   intro i hi
   rw[er i (zzy.mp hi)]
  rw[h6]
  have:=congrArg (List.map lsD) (iS [] tss)
  rw[zzh,tl]at this
  rw[←this]
  rfl
def gPou:DSp:=fun ds Q=>∃(ns rs:List Int),ds=[.lst (ns.map D.int),.lst (rs.map D.int)]/\((∀n∈ns,0 <= n)/\(∀r∈rs,0 <= r)/\ns.length <= 100/\rs.length <= 100/\ns.sum=rs.sum)/\∀F,PouF ns.length rs.length (fun i=>ns.getD i 0) (fun k=>rs.getD k 0) F->Q (pouD ns.length rs.length F)
theorem vx:bj gPou:=fun ds P P' f ⟨ns,rs,a,b,h⟩=>⟨ns,rs,a,b,fun F o=>f _ (h F o)⟩
theorem za{l ts:List Int}(el:l.length=ts.length)(hl:l.length <= 100){x y:Sl}{Q:List D->Prop}(q:Q ((List.zipWith (· - ·) l ts).map D.int)) :
  cE (CD 2 (qB (dg 0) (qB (dg 1) CC))) bP (dOp (g2I0 fun i j=>.int (i - j)) (dVar 0) (dVar 1)) (zipD (l.map D.int) (ts.map D.int)) [] [x,y] Q:=by
 have ez:zipD (l.map D.int) (ts.map D.int)=(l.zip ts).map fun p=>D.tup [.int p.1,.int p.2]:=by
  clear hl q el
  induction l generalizing ts with
  |nil=>simp[zipD]
  |cons a l ih =>
   cases ts with
   |nil=>simp[zipD]
   |cons b ts=>simp[zipD,ih]
 rw[ez]
 refine pK (fun p:Int×Int=>D.tup [.int p.1,.int p.2]) (fun p=>D.int (p.1 - p.2)) (fun ρ=>∃a b,ρ=[a,b]) (by rw[List.length_zip];omega) (fun p hp ρ Y Z hN hY=>?_) _ ⟨_,_,rfl⟩ ?_
 ·obtain⟨a,b,rfl⟩:=hN
  exact⟨rfl,Br.t (hY _ ⟨_,_,rfl⟩)⟩
 ·have:(l.zip ts).map (fun p=>D.int (p.1 - p.2))=(List.zipWith (· - ·) l ts).map D.int:=by
   rw[List.zip,List.map_zipWith,List.map_zipWith]
  rw[this]
  exact q
theorem vy(T:Tx K mg):FnOk P w K mg base CX0 2 T.qb T.mR ["numbers","rooms"] (spD K 2 gPou):=by
 refine fnD (k:=1) T.dM.F sc_poured (fun cdv A outer s H E hr=>(aj (aC (i:=2) sc_poured.nd rfl oo (aF (sJ rfl T.rZ rfl (ac 1 (pv 1)))))
   (aj (lF (i:=3) sc_poured.nd rfl oo (dE ad))
   (aH (dZ PassesOwn.never rfl (bF (ac 0 (pv 0))) (ao (i:=4) sc_poured.nd rfl oo) (aj (aC (i:=5) sc_poured.nd rfl oo (ag (AL T) AK (rm hr) rfl T.jd.m T.jd.F.kp T.jd.b (aa (ac 4 (pv 4)) (aa (ac 2 (pv 2)) ad))))
   (aj (uw (pv 3) (ac 5 (pv 5)))
   (ai (sN (i:=2) sc_poured.nd rfl rfl (aA (N':=["room","part"]) rfl rfl dk rfl (.own (.own .nil)) dk (yk rfl T.Be (aa (ac 2 (pv 2)) (aa (ac 5 (pv 5)) ad))) (fun B=>(lG (n:=2) rfl (bG (ao (i:=0) ndB rfl oo) (bG (ao (i:=1) ndB rfl oo) gD)))) (fun B=>aL) (fun B=>(bu fq (ac 0 (pv 0)) (ac 1 (pv 1))))))))))
   (ai (aE (ac 3 (pv 3)))))))) (fun ds Q hl h=>?_)
 obtain⟨ns,rs,rfl,⟨n0,r0,nl,rl,es⟩,h⟩:=h
 refine⟨sz,fun ρ=>∃(tss:List (List Int)) (l:List Int) (a b c:Sl),PouL ns rs tss l/\ρ=[.val (.lst (ns.map D.int)),.val (.lst (rs.map D.int)),a,.own (tss.map lsD),b,c],?_,?_⟩
 ·refine iD (fun pre ρ=>∃(q0 q1 l:List Int) (tss:List (List Int)) (a b:Sl),ns=q0++q1/\pre=q0.map D.int/\PouL q0 rs tss l/\ρ=[.val (.lst (ns.map D.int)),.val (.lst (rs.map D.int)),.val (.lst (l.map D.int)),.own (tss.map lsD),a,b]) (fun ρ hN=>?_) (fun pre d post ρ X e hN hX=>?_) _ ⟨[],ns,rs,[],_,_,rfl,rfl,⟨rfl,fun i ts n ht=>by simp at ht,rfl,r0,fun k r hk=>by simp[hk],by simp⟩,rfl⟩
  ·obtain⟨q0,q1,l,tss,a,b,e1,e2,po,rfl⟩:=hN
   have:q1=[]:=by
    have:=congrArg List.length e2
    rw[e1]at this
    simp at this
    exact this
   subst this
   rw[zzM]at e1
   subst e1
   exact⟨tss,l,_,_,_,po,rfl⟩
  ·obtain⟨q0,q1,l,tss,a,b,e1,rfl,po,rfl⟩:=hN
   rw[e1,zzo]at e
   have e:=zzO e
   cases q1 with
   |nil=>simp at e
   |cons n q1 =>
    rw[zze]at e
    injection e with e3 e4
    subst e3
    have hn:=n0 n (by rw[e1];simp)
    have pl:=po.len
    have ll:=po.ll
    have l100:q0.length <= 100:=by rw[e1,zzl]at nl;omega
    have nle:n <= l.sum:=by
     have h1:=po.sm
     have h2:0 <= q1.sum:=by
      have:∀l:List Int,(∀r∈l,0 <= r)->0 <= l.sum:=fun l hl=>by
       induction l with
       |nil=>simp
       |cons b l ih =>
        have:=ih fun r hr=>hl r (zzc _ hr)
        have:=hl b zzd
        rw[zzB]
        omega
      exact this q1 fun r hr=>n0 r (by rw[e1];simp[hr])
     have h3:ns.sum=q0.sum+(n+q1.sum):=by rw[e1,zyx,zzB]
     omega
    refine⟨rfl,n,l,rfl,hn,po.l0,by omega,fun ts tl tb tr tsum=>⟨trivial,?_,?_⟩⟩
    ·rw[zza]
     exact zzD (show tss.length <= 100 by omega) (by decide)
    refine⟨l.map D.int,ts.map D.int,rfl,rfl,za (by omega) (by omega) (hX _ ⟨q0++[n],q1,List.zipWith (· - ·) l ts,tss++[ts],_,_,by rw[e1];simp,by simp,po.snoc tl tb tr (tsum nle),by rw[zzo];rfl⟩)⟩
 ·rintro _ ⟨tss,l,a,b,c,po,rfl⟩
  obtain⟨F,f1,f2⟩:=po.f es
  have:=h F f1
  rw[←f2]at this
  exact this
def csD(cs:List (Int×Int)):D:=.lst (cs.map aI)
def entS(F G:Nat->Nat->Int)(i k:Nat):Int×Int:=(F i k+G i k,F i k)
def splD(n l:Nat)(F G:Nat->Nat->Int):D:=.lst ((List.range n).map fun i=>csD ((List.range l).map (entS F G i)))
structure SplF(cs ps:List (Int×Int))(F G:Nat->Nat->Int):Prop where
 w:PouF cs.length ps.length (fun i=>(cs.getD i (0,0)).2) (fun k=>(ps.getD k (0,0)).2) F
 i:PouF cs.length ps.length (fun i=>(cs.getD i (0,0)).1 - (cs.getD i (0,0)).2) (fun k=>(ps.getD k (0,0)).1 - (ps.getD k (0,0)).2) G
def gSpl:DSp:=fun ds Q=>∃(cs ps:List (Int×Int)),ds=[csD cs,csD ps]/\((∀c∈cs,0 <= c.2/\c.2 <= c.1)/\(∀c∈ps,0 <= c.2/\c.2 <= c.1)/\cs.length <= 100/\ps.length <= 100/\(cs.map (·.2)).sum=(ps.map (·.2)).sum/\(cs.map fun c=>c.1 - c.2).sum=(ps.map fun c=>c.1 - c.2).sum)/\∀F G,SplF cs ps F G->Q (splD cs.length ps.length F G)
theorem zb:bj gSpl:=fun ds P P' f ⟨cs,ps,a,b,h⟩=>⟨cs,ps,a,b,fun F G o=>f _ (h F G o)⟩
theorem rP{cs:List (Int×Int)}(hl:cs.length <= 100){s:Sl}{Q:List D->Prop}(q:Q ((cs.map fun c=>c.1 - c.2).map D.int)):cE (dg 0) bP (CB 1 yX (kh (dVar 0) vY)) (cs.map aI) [] [s] Q:=by
 refine bd (fun d=>match d with|.tup [.int t,.int v]=>.int (t - v)|_=>.non) (fun ρ=>∃s,ρ=[s]) (by rw[zza];exact zzk hl (by decide)) (fun d hd ρ Y Z hN hY=>?_) _ ⟨_,rfl⟩ ?_
 ·obtain⟨s,rfl⟩:=hN
  obtain⟨c,_,rfl⟩:=zzb.mp hd
  exact Br.t ⟨rfl,hY _ ⟨_,rfl⟩⟩
 ·rw[zzh]at q ⊢
  exact q
theorem iT{α:Type}(f:α->Int)(d:α)(hd:f d=0)(l:List α)(i:Nat):(l.map f).getD i 0=f (l.getD i d):=by
 rw[zzg,zzg,zzn]
 cases l[i]? with
 |none=>exact hd.symm
 |some a=>rfl
theorem Gi(F G:Nat->Nat->Int)(i l:Nat):List.zipWith (fun w i=>(w+i,w)) ((List.range l).map (F i)) ((List.range l).map (G i))=(List.range l).map (entS F G i):=by
 apply List.ext_getElem
 ·simp
 ·intro k h1 h2
  simp[entS]
theorem zc(T:Tx K mg):FnOk P w K mg base CX0 3 T.tZ T.pW ["counts","parts"] (spD K 2 gSpl):=by
 refine fnD (k:=2) T.fU.F sc_split (fun cdv A outer s H E hr=>(aj (aC (i:=2) sc_split.nd rfl oo (ag (vy T) vx (rm hr) rfl T.dM.m T.dM.F.kp T.dM.b (aa (aF (PCD.pld (aA (N':=["count"]) rfl rfl dk rfl (.own .nil) dk (bF (ac 0 (pv 0))) (fun B=>(ao (i:=0) ndB rfl oo)) (fun B=>aL) (fun B=>(ar (ac 0 (pv 0)) ae (fun _ _=>rfl)))))) (aa (aF (PCD.pld (aA (N':=["part"]) rfl rfl dk rfl (.own .nil) dk (bF (ac 1 (pv 1))) (fun B=>(ao (i:=0) ndB rfl oo)) (fun B=>aL) (fun B=>(ar (ac 0 (pv 0)) ae (fun _ _=>rfl)))))) ad))))
   (aj (aC (i:=3) sc_split.nd rfl oo (ag (vy T) vx (rm hr) rfl T.dM.m T.dM.F.kp T.dM.b (aa (aF (PCD.pld (aA (N':=["count"]) rfl rfl dk rfl (.own .nil) dk (bF (ac 0 (pv 0))) (fun B=>(ao (i:=0) ndB rfl oo)) (fun B=>aL) (fun B=>(ag (fM T) fL (rm hr) rfl T.aU.m T.aU.F.kp T.aU.b (aa (ac 0 (pv 0)) ad)))))) (aa (aF (PCD.pld (aA (N':=["part"]) rfl rfl dk rfl (.own .nil) dk (bF (ac 1 (pv 1))) (fun B=>(ao (i:=0) ndB rfl oo)) (fun B=>aL) (fun B=>(ag (fM T) fL (rm hr) rfl T.aU.m T.aU.F.kp T.aU.b (aa (ac 0 (pv 0)) ad)))))) ad))))
   (ai (aE (aF (PCD.pld (aA (N':=["place","wells","ills"]) rfl rfl dk rfl (.own (.cap (j:=2) rfl oo rfl (.cap (j:=3) rfl oo rfl .nil))) dk (cg rfl T.cS (aa (aM ft rfl T.gv zyb (aa (ac 0 (pv 0)) ad)) ad)) (fun B=>(ao (i:=0) ndB rfl oo)) (fun B=>aL) (fun B=>(ag (gT T) gS (rm hr) rfl T.bh.m T.bh.F.kp T.bh.b (aa (ar (ac 1 (pv 1)) (ac 0 (pv 0)) (fun _ _=>rfl)) (aa (ar (ac 2 (pv 2)) (ac 0 (pv 0)) (fun _ _=>rfl)) ad)))))))))))) (fun ds Q hl h=>?_)
 obtain⟨cs,ps,rfl,⟨c0,p0,cl,pl,sw,si⟩,h⟩:=h
 refine Dw (zzk cl (by decide)) (Dw (zzk pl (by decide)) ⟨rfl,cs.map (·.2),ps.map (·.2),rfl,⟨?_,?_,by rw[zza];exact cl,by rw[zza];exact pl,sw⟩,fun F fo=>?_⟩)
 ·intro n hn
  obtain⟨c,hc,rfl⟩:=zzb.mp hn
  exact(c0 c hc).1
 ·intro n hn
  obtain⟨c,hc,rfl⟩:=zzb.mp hn
  exact(p0 c hc).1
 refine rP cl (rP pl ⟨rfl,cs.map (fun c=>c.1 - c.2),ps.map (fun c=>c.1 - c.2),rfl,⟨?_,?_,by rw[zza];exact cl,by rw[zza];exact pl,si⟩,fun G go=>?_⟩)
 ·intro n hn
  obtain⟨c,hc,rfl⟩:=zzb.mp hn
  have:=c0 c hc
  omega
 ·intro n hn
  obtain⟨c,hc,rfl⟩:=zzb.mp hn
  have:=p0 c hc
  omega
 simp only[zza]at fo go ⊢
 have e1:(fun i=>(cs.map (·.2)).getD i 0)=fun i=>(cs.getD i (0,0)).2:=funext fun i=>iT (·.2) (0,0) rfl cs i
 have e2:(fun k=>(ps.map (·.2)).getD k 0)=fun k=>(ps.getD k (0,0)).2:=funext fun i=>iT (·.2) (0,0) rfl ps i
 have e3:(fun i=>(cs.map fun c=>c.1 - c.2).getD i 0)=fun i=>(cs.getD i (0,0)).1 - (cs.getD i (0,0)).2:=funext fun i=>iT (fun c:Int×Int=>c.1 - c.2) (0,0) rfl cs i
 have e4:(fun k=>(ps.map fun c=>c.1 - c.2).getD k 0)=fun k=>(ps.getD k (0,0)).1 - (ps.getD k (0,0)).2:=funext fun i=>iT (fun c:Int×Int=>c.1 - c.2) (0,0) rfl ps i
 rw[e1,e2]at fo
 rw[e3,e4]at go
 have sp:SplF cs ps F G:=⟨fo,go⟩
 have el:((cs.map aI).length:Int)=cs.length:=by rw[zza]
 refine⟨⟨by omega,by omega⟩,?_⟩
 show cE _ _ _ (eJ 0 (((cs.map aI).length:Nat):Int).toNat) _ _ _
 rw[show ((cs.map aI).length:Int).toNat=cs.length by omega,bf]
 refine pK (fun(i:Nat)=>D.int (0+(i:Int))) (fun i=>csD ((List.range ps.length).map (entS F G i))) (fun ρ=>∃s,ρ=[s,.val (pouD cs.length ps.length F),.val (pouD cs.length ps.length G)]) (by rw[zzJ];omega) (fun i hi ρ Y Z hN hY=>?_) _ ⟨_,rfl⟩ (h F G sp)
 obtain⟨s,rfl⟩:=hN
 have hi:=zzy.mp hi
 have g:∀F:Nat->Nat->Int,((List.range cs.length).map fun i=>lsD ((List.range ps.length).map (F i)))[(0+(i:Int)).toNat]? = some (lsD ((List.range ps.length).map (F i))):=fun F=>by
  rw[show (0+(i:Int)).toNat=i by omega,zzn,zyy hi]
  rfl
 have hY':=hY [.val (.int (0+(i:Int))),.val (pouD cs.length ps.length F),.val (pouD cs.length ps.length G)] ⟨_,rfl⟩
 rw[←Gi]at hY'
 exact Br.t (eh (by omega) (g F) (eh (by omega) (g G) ⟨rfl,(List.range ps.length).map (F i),(List.range ps.length).map (G i),rfl,rfl,by rw[zza,zza],by rw[zza,zzJ];omega,hY'⟩))
def BQ:DSp:=fun ds Q=>∃b:Bk,ds=[aG b]/\BkOk b/\Q (rowD (sums (b.cells.map (·.2)) b.m))
theorem gj:bj BQ:=fun ds P P' f ⟨b,a,c,h⟩=>⟨b,a,c,f _ h⟩
theorem gk(T:Tx K mg):FnOk P w K mg base CX0 3 T.jP T.ic ["book"] (spD K 1 BQ):=by
 refine fnD (k:=2) T.aW.F tt (fun cdv A outer s H E hr=>(ai (aE (ag (bY T) bX (rm hr) rfl T.au.m T.au.F.kp T.au.b (aa (ar (ac 0 (pv 0)) ae (fun _ _=>rfl)) (aa (aF (PCD.pld (aA (N':=["cell"]) rfl rfl dk rfl (.own .nil) dk (ee (ar (ac 0 (pv 0)) ae (fun _ _=>rfl))) (fun B=>(ao (i:=0) ndB rfl oo)) (fun B=>aL) (fun B=>(ar (ac 0 (pv 0)) ae (fun _ _=>rfl)))))) ad)))))) (fun ds Q hl h=>?_)
 obtain⟨b,rfl,bo,h⟩:=h
 refine bd (fun d=>match d with|.tup [_,x]=>x|_=>.non) (fun ρ=>∃s,ρ=[s]) ?_ (fun d hd ρ Y Z hN hY=>?_) _ ⟨_,rfl⟩ ?_
 ·rw[zza]
  exact zzk bo.c60 (by decide)
 ·obtain⟨s,rfl⟩:=hN
  obtain⟨c,_,rfl⟩:=zzb.mp hd
  exact Br.t (hY _ ⟨_,rfl⟩)
 ·have e:(b.cells.map aX).map (fun d=>match d with|.tup [_,x]=>x|_=>.non)=(b.cells.map (·.2)).map rowD:=by
   rw[zzh,zzh]
   rfl
  have fin:gTbh [.int b.m,.lst ((b.cells.map aX).map (fun d=>match d with|.tup [_,x]=>x|_=>.non))] Q:=by
   rw[e]
   refine⟨b.m,_,rfl,rfl,⟨bo.m6,by rw[zza];exact zzk bo.c60 (by decide),fun r hr=>?_⟩,h⟩
   obtain⟨c,hc,rfl⟩:=zzb.mp hr
   exact(bo.it c hc).2.1.up
  exact⟨rfl,fin⟩
theorem zd{b:Bk}(bo:BkOk b){a:Int}(a0:0 <= a)(a1:a<b.m){s:Sl}{Q:List D->Prop}(q:Q ((b.cells.map fun c=>at_ c.2 a.toNat).map aI)) :
  cE (dg 0) bP (dOp gIx (dOp gIx (dVar 0) (dC (.int 1))) (dVar 1)) (b.cells.map aX) [] [s,.val (.int a)] Q:=by
 refine bd (fun d=>match d with|.tup [_,.tup r]=>r.getD a.toNat .non|_=>.non) (fun ρ=>∃s,ρ=[s,.val (.int a)]) (by rw[zza];exact zzk bo.c60 (by decide)) (fun d hd ρ Y Z hN hY=>?_) _ ⟨_,rfl⟩ ?_
 ·obtain⟨s,rfl⟩:=hN
  obtain⟨c,hc,rfl⟩:=zzb.mp hd
  have ro:=(bo.it c hc).2.1
  have e:(c.2.map aI).getD a.toNat .non=aI (at_ c.2 a.toNat):=by
   rw[zzg,zzn,(bI ro (h:=a.toNat) (by omega)).1]
   rfl
  refine Br.t (km ro a0 a1 ?_)
  have hY':=hY [.val (aX c),.val (.int a)] ⟨_,rfl⟩
  have hY':Y ((c.2.map aI).getD a.toNat .non) [.val (aX c),.val (.int a)]:=hY'
  rw[e]at hY'
  exact hY'
 ·have e:(b.cells.map aX).map (fun d=>match d with|.tup [_,.tup r]=>r.getD a.toNat .non|_=>.non)=(b.cells.map fun c=>at_ c.2 a.toNat).map aI:=by
   rw[zzh,zzh]
   apply zzp
   intro c hc
   show (c.2.map aI).getD a.toNat .non=aI (at_ c.2 a.toNat)
   rw[zzg,zzn,(bI (bo.it c hc).2.1 (h:=a.toNat) (by omega)).1]
   rfl
  rw[e]
  exact q
theorem DH{rows:List Prt}(hl:rows.length <= 100){s:Sl}{Q:List D->Prop}(q:Q ((rows.map (·.1)).map aI)):cE (dg 0) bP (dOp gIx (dVar 0) (dC (.int 0))) (rows.map tN) [] [s] Q:=by
 refine bd (fun d=>match d with|.tup [x,_]=>x|_=>.non) (fun ρ=>∃s,ρ=[s]) (by rw[zza];exact zzk hl (by decide)) (fun d hd ρ Y Z hN hY=>?_) _ ⟨_,rfl⟩ ?_
 ·obtain⟨s,rfl⟩:=hN
  obtain⟨c,_,rfl⟩:=zzb.mp hd
  exact Br.t (hY _ ⟨_,rfl⟩)
 ·rw[zzh]at q ⊢
  exact q
theorem DI{rows:List Prt}(hl:rows.length <= 100){s:Sl}{Q:List D->Prop}(q:Q ((rows.map (·.2)).map aI)):cE (dg 0) bP (dOp gIx (dVar 0) (dC (.int 1))) (rows.map tN) [] [s] Q:=by
 refine bd (fun d=>match d with|.tup [_,x]=>x|_=>.non) (fun ρ=>∃s,ρ=[s]) (by rw[zza];exact zzk hl (by decide)) (fun d hd ρ Y Z hN hY=>?_) _ ⟨_,rfl⟩ ?_
 ·obtain⟨s,rfl⟩:=hN
  obtain⟨c,_,rfl⟩:=zzb.mp hd
  exact Br.t (hY _ ⟨_,rfl⟩)
 ·rw[zzh]at q ⊢
  exact q
structure HOk(b:Bk)(x y m:Int):Prop where
 bo:BkOk b
 c9:b.cells.length <= 10
 x0:0 <= x
 x1:x<b.m
 y0:0 <= y
 y1:y<b.m
 xy:x≠y
 m2:2 <= m
 m6:m <= 6
 l4:b.marks.length<5
def ba(b:Bk)(i:Nat):List Int×Row:=b.cells.getD i ([],[])
def zR(m:Nat):Row:=List.replicate m (0,0)
def rowH(b:Bk)(x y:Nat)(S1 S2:Nat->Nat->Int×Int)(i k:Nat):Row:=((if k=0 then(ba b i).2 else zR b.m).set x (S1 i k)).set y (S2 i k)
def psI(b:Bk)(x y:Nat)(S1 S2:Nat->Nat->Int×Int)(i k:Nat):List Int×Row:=((ba b i).1++[(k:Int)],rowH b x y S1 S2 i k)
def psH(b:Bk)(x y m:Nat)(S1 S2:Nat->Nat->Int×Int)(n:Nat):List (List Int×Row):=(List.range n).flatMap fun i=>(List.range m).map (psI b x y S1 S2 i)
def whB(b:Bk)(h:Nat):Int×Int:=sumP (col (b.cells.map (·.2)) h)
structure HidF(b:Bk)(x y:Nat)(m:Int)(rows:List Prt)(F1 G1 F2 G2:Nat->Nat->Int):Prop where
 pt:Parts m (whB b x) (whB b y) rows
 s1:SplF (b.cells.map fun c=>at_ c.2 x) (rows.map (·.1)) F1 G1
 s2:SplF (b.cells.map fun c=>at_ c.2 y) (rows.map (·.2)) F2 G2
def hidB(b:Bk)(x y:Nat)(m:Int)(F1 G1 F2 G2:Nat->Nat->Int):Bk:=⟨b.m,b.marks++[m],gath b.m (psH b x y m.toNat (entS F1 G1) (entS F2 G2) b.cells.length)⟩
def gHid:DSp:=fun ds Q=>∃(b:Bk) (x y m:Int),ds=[aG b,.int x,.int y,.int m]/\HOk b x y m/\(((whB b x.toNat).1 - (whB b x.toNat).2<m∨(whB b y.toNat).2<m)->Q .non)/\(¬((whB b x.toNat).1 - (whB b x.toNat).2<m∨(whB b y.toNat).2<m)->∀rows F1 G1 F2 G2,HidF b x.toNat y.toNat m rows F1 G1 F2 G2->Q (aG (hidB b x.toNat y.toNat m F1 G1 F2 G2)))
theorem AM:bj gHid:=fun ds P P' f ⟨b,x,y,m,a,c,d,h⟩=>⟨b,x,y,m,a,c,fun z=>f _ (d z),fun z rows F1 G1 F2 G2 o=>f _ (h z rows F1 G1 F2 G2 o)⟩
theorem vz{b:Bk}(bo:BkOk b){h:Nat}(hh:h<b.m):0 <= (sumP (col (b.cells.map (·.2)) h)).2/\(sumP (col (b.cells.map (·.2)) h)).2 <= (sumP (col (b.cells.map (·.2)) h)).1:=by
 have it:=bo.it
 generalize b.cells=cs at it
 induction cs with
 |nil=>exact⟨zyn 0,zyn 0⟩
 |cons c cs ih =>
  have h1:=ih fun c hc=>it c (zzc _ hc)
  have h2:=(bI (it c zzd).2.1 hh).2
  have:=h2.lo
  have:=h2.hi
  unfold sumP col at h1 ⊢
  simp only[zze,zzB]at h1 ⊢
  omega
theorem mD:∀l:List (Int×Int),(l.map fun c=>c.1 - c.2).sum=(l.map (·.1)).sum - (l.map (·.2)).sum
 |[]=>rfl
 |a::l=>by
  rw[zze,zze,zze,zzB,zzB,zzB,mD l]
  omega
theorem wh_1(b:Bk)(h:Nat):((b.cells.map fun c=>at_ c.2 h).map (·.1)).sum=(whB b h).1:=by
 unfold whB sumP col
 simp only[zzh]
 rfl
theorem wh_2(b:Bk)(h:Nat):((b.cells.map fun c=>at_ c.2 h).map (·.2)).sum=(whB b h).2:=by
 unfold whB sumP col
 simp only[zzh]
 rfl
theorem pL(b:Bk)(x y m:Nat)(S1 S2:Nat->Nat->Int×Int):∀n,(psH b x y m S1 S2 n).length=n*m
 |0=>by simp[psH]
 |n+1=>by
  have:=pL b x y m S1 S2 n
  unfold psH at this ⊢
  rw[zyW,List.flatMap_append,zzl,this,List.flatMap_singleton,zza,zzJ,Nat.succ_mul]
theorem vA(b:Bk)(x y m:Nat)(S1 S2:Nat->Nat->Int×Int)(n:Nat):psH b x y m S1 S2 (n+1)=psH b x y m S1 S2 n++(List.range m).map (psI b x y S1 S2 n):=by
 unfold psH
 rw[zyW,List.flatMap_append,List.flatMap_singleton]
theorem BR{cs ps:List (Int×Int)}{F G:Nat->Nat->Int}(s:SplF cs ps F G){i k:Nat}(hi:i<cs.length)(hk:k<ps.length):0 <= (entS F G i k).2/\(entS F G i k).2 <= (entS F G i k).1/\(entS F G i k).1 <= (cs.getD i (0,0)).1:=by
 have a:=s.w.lo i hi k hk
 have c:=s.i.lo i hi k hk
 unfold entS
 dsimp only
 omega
theorem tO{b:Bk}(bo:BkOk b){x y m:Int}(x0:0 <= x)(x1:x<b.m)(y0:0 <= y)(y1:y<b.m){rows:List Prt}{F1 G1 F2 G2:Nat->Nat->Int}(h:HidF b x.toNat y.toNat m rows F1 G1 F2 G2){i k:Nat}(hi:i<b.cells.length)(hk:k<rows.length):RowN 110 b.m (rowH b x.toNat y.toNat (entS F1 G1) (entS F2 G2) i k):=by
 have hc:ba b i∈b.cells:=by
  unfold ba
  rw[zzg,zzm hi]
  exact zzU hi
 have co:=bo.it _ hc
 have e1:(b.cells.map fun c=>at_ c.2 x.toNat).getD i (0,0)=at_ (ba b i).2 x.toNat:=by
  unfold ba
  rw[zzg,zzg,zzn,zzm hi]
  rfl
 have e2:(b.cells.map fun c=>at_ c.2 y.toNat).getD i (0,0)=at_ (ba b i).2 y.toNat:=by
  unfold ba
  rw[zzg,zzg,zzn,zzm hi]
  rfl
 have q1:=BR h.s1 (i:=i) (k:=k) (by rw[zza];exact hi) (by rw[zza];exact hk)
 have q2:=BR h.s2 (i:=i) (k:=k) (by rw[zza];exact hi) (by rw[zza];exact hk)
 rw[e1]at q1
 rw[e2]at q2
 have bx:=(bI co.2.1 (h:=x.toNat) (by omega)).2.bt
 have by_:=(bI co.2.1 (h:=y.toNat) (by omega)).2.bt
 have c1:Cnt 110 (entS F1 G1 i k).1 (entS F1 G1 i k).2:=kj q1.1 q1.2.1 (bx.le (by omega))
 have c2:Cnt 110 (entS F2 G2 i k).1 (entS F2 G2 i k).2:=kj q2.1 q2.2.1 (by_.le (by omega))
 have r0:RowN 110 b.m (if k=0 then(ba b i).2 else zR b.m):=by
  split
  ·exact co.2.1
  ·refine⟨by unfold zR;simp,fun c hc=>?_⟩
   rw[zyk hc]
   exact kj (zyn 0) (zyn 0) (by unfold Bd;exact Nat.two_pow_pos _)
 unfold rowH
 refine⟨by rw[zyJ,zyJ];exact r0.1,fun z hz=>?_⟩
 rcases zyO hz with hz|rfl
 ·rcases zyO hz with hz|rfl
  ·exact r0.2 z hz
  ·exact c1
 ·exact c2
set_option maxHeartbeats 1000000 in
theorem AN(T:Tx K mg):FnOk P w K mg base CX0 5 T.pV T.mP ["book","a","b","many"] (spD K 4 gHid):=by
 refine fnD (k:=4) T.iV.F sc_hidden (fun cdv A outer s H E hr=>(aj (fj (ag (fF T) fE (rm hr) rfl T.aT.m T.aT.F.kp T.aT.b (aa (ar (ac 0 (pv 0)) ae (fun _ _=>rfl)) (aa (ac 1 (pv 1)) (aa (ac 2 (pv 2)) ad)))))
   (aj (cG (nE (lD (ag (dq T) dm (rm hr) rfl T.aD.m T.aD.F.kp T.aD.b (aa (ac 3 (pv 3)) (aa ae (aa (kO rfl T.iY) ad)))))) (ai cK) aQ)
   (aj (cG (aN Hd (aM ft rfl T.gv zyb (aa (ar (ac 0 (pv 0)) ae (fun _ _=>rfl)) ad)) (kO rfl T.iX) (aB _)) (ai cK) aQ)
   (aj (aC (i:=4) sc_hidden.nd rfl oo (ag (gk T) gj (rm hr) rfl T.aW.m T.aW.F.kp T.aW.b (aa (ac 0 (pv 0)) ad)))
   (aj (aC (i:=5) sc_hidden.nd rfl oo (ag (AJ T) AI (rm hr) rfl T.iZ.m T.iZ.F.kp T.iZ.b (aa (ar (ac 4 (pv 4)) (ac 1 (pv 1)) (fun _ _=>rfl)) (aa (ar (ac 4 (pv 4)) (ac 2 (pv 2)) (fun _ _=>rfl)) (aa (ac 3 (pv 3)) ad)))))
   (aj (cG (aN Bp (ac 5 (pv 5)) nD (aB _)) (ai (aE nD)) aQ)
   (aH (aC (i:=6) sc_hidden.nd rfl oo (ag (zc T) zb (rm hr) rfl T.fU.m T.fU.F.kp T.fU.b (aa (aF (PCD.pld (aA (N':=["cell","a"]) rfl rfl dk rfl (.own (.cap (j:=1) rfl oo rfl .nil)) dk (ee (ar (ac 0 (pv 0)) ae (fun _ _=>rfl))) (fun B=>(ao (i:=0) ndB rfl oo)) (fun B=>aL) (fun B=>(ar (ar (ac 0 (pv 0)) ae (fun _ _=>rfl)) (ac 1 (pv 1)) (fun _ _=>rfl)))))) (aa (aF (PCD.pld (aA (N':=["part"]) rfl rfl dk rfl (.own .nil) dk (bF (ac 5 (pv 5))) (fun B=>(ao (i:=0) ndB rfl oo)) (fun B=>aL) (fun B=>(ar (ac 0 (pv 0)) ae (fun _ _=>rfl)))))) ad))))
   (aH (aC (i:=7) sc_hidden.nd rfl oo (ag (zc T) zb (rm hr) rfl T.fU.m T.fU.F.kp T.fU.b (aa (aF (PCD.pld (aA (N':=["cell","b"]) rfl rfl dk rfl (.own (.cap (j:=2) rfl oo rfl .nil)) dk (ee (ar (ac 0 (pv 0)) ae (fun _ _=>rfl))) (fun B=>(ao (i:=0) ndB rfl oo)) (fun B=>aL) (fun B=>(ar (ar (ac 0 (pv 0)) ae (fun _ _=>rfl)) (ac 1 (pv 1)) (fun _ _=>rfl)))))) (aa (aF (PCD.pld (aA (N':=["part"]) rfl rfl dk rfl (.own .nil) dk (bF (ac 5 (pv 5))) (fun B=>(ao (i:=0) ndB rfl oo)) (fun B=>aL) (fun B=>(ar (ac 0 (pv 0)) ae (fun _ _=>rfl)))))) ad))))
   (aH (lF (i:=8) sc_hidden.nd rfl oo (dE ad))
   (aH (dZ PassesOwn.never rfl (Aq rfl T.hG (aa (ar (ac 0 (pv 0)) ae (fun _ _=>rfl)) ad)) (lG (n:=2) rfl (bG (ao (i:=9) sc_hidden.nd rfl oo) (bG (ao (i:=10) sc_hidden.nd rfl oo) gD))) (ai (dZ PassesOwn.never rfl (cg rfl T.cS (aa (ac 3 (pv 3)) ad)) (ao (i:=11) sc_hidden.nd rfl oo) (aH (lF (i:=12) sc_hidden.nd rfl oo (Ar (aN (eL hr) (ac 11 (pv 11)) ae (aB _)) (sJ rfl T.rZ rfl (ar (ac 10 (pv 10)) ae (fun _ _=>rfl))) (xO (aF (dE (aa (aS (aa ae (aa ae ad))) ad))) (ar (ac 0 (pv 0)) ae (fun _ _=>rfl)))))
   (aj (lL (ar (ar (ac 6 (pv 6)) (ac 9 (pv 9)) (fun _ _=>rfl)) (ac 11 (pv 11)) (fun _ _=>rfl)) (uC (pv 12) (ac 1 (pv 1))))
   (aj (lL (ar (ar (ac 7 (pv 7)) (ac 9 (pv 9)) (fun _ _=>rfl)) (ac 11 (pv 11)) (fun _ _=>rfl)) (uC (pv 12) (ac 2 (pv 2))))
   (ai (uw (pv 8) (aS (aa (bu lS (ar (ac 10 (pv 10)) ae (fun _ _=>rfl)) (aS (aa (ac 11 (pv 11)) ad))) (aa (aO bH rfl T.bS rfl (aa (ac 12 (pv 12)) ad)) ad)))))))))))
   (ai (aE (aS (aa (ar (ac 0 (pv 0)) ae (fun _ _=>rfl)) (aa (bu lS (ar (ac 0 (pv 0)) ae (fun _ _=>rfl)) (aS (aa (ac 3 (pv 3)) ad))) (aa (aO bH rfl T.bS rfl (aa (ag (nY T) nX (rm hr) rfl T.br.m T.br.F.kp T.br.b (aa (ar (ac 0 (pv 0)) ae (fun _ _=>rfl)) (aa (ac 8 (pv 8)) ad))) ad)) ad))))))))))))))))) (fun ds Q hl h=>?_)
 obtain⟨b,x,y,m,rfl,o,hno,h⟩:=h
 have bo:=o.bo
 have m2:=o.m2
 have m6:=o.m6
 have c9:=o.c9
 have x0:=o.x0
 have x1:=o.x1
 have y0:=o.y0
 have y1:=o.y1
 have l4:=o.l4
 have b6:=bo.m6
 have el:((b.marks.map D.int).length:Int)=b.marks.length:=by rw[zza]
 have sx:=vz bo (h:=x.toNat) (by omega)
 have sy:=vz bo (h:=y.toNat) (by omega)
 refine⟨rfl,⟨x0,x1,y0,y1,o.xy⟩,rfl,⟨m2,m6⟩,Br.f (Br.dn (by omega) ⟨rfl,b,rfl,bo,?_⟩)⟩
 refine fH x0 x1 (fH y0 y1 ⟨rfl,⟨m2,by omega⟩,⟨sx.1,sx.2,sy.1,sy.2⟩,fun z=>Br.t (hno z),fun hz rows ro=>Br.f ?_⟩)
 have ro:Parts m (whB b x.toNat) (whB b y.toNat) rows:=ro
 have rl:rows.length=m.toNat:=ro.len
 have cx:∀c∈b.cells.map (fun c=>at_ c.2 x.toNat),0 <= c.2/\c.2 <= c.1:=fun c hc=>by
  obtain⟨e,he,rfl⟩:=zzb.mp hc
  have:=(bI (bo.it e he).2.1 (h:=x.toNat) (by omega)).2
  exact⟨this.lo,this.hi⟩
 have cy:∀c∈b.cells.map (fun c=>at_ c.2 y.toNat),0 <= c.2/\c.2 <= c.1:=fun c hc=>by
  obtain⟨e,he,rfl⟩:=zzb.mp hc
  have:=(bI (bo.it e he).2.1 (h:=y.toNat) (by omega)).2
  exact⟨this.lo,this.hi⟩
 have r1:∀c∈rows.map (·.1),0 <= c.2/\c.2 <= c.1:=fun c hc=>by
  obtain⟨e,he,rfl⟩:=zzb.mp hc
  exact⟨(ro.good e he).a0,(ro.good e he).a1⟩
 have r2:∀c∈rows.map (·.2),0 <= c.2/\c.2 <= c.1:=fun c hc=>by
  obtain⟨e,he,rfl⟩:=zzb.mp hc
  exact⟨(ro.good e he).b0,(ro.good e he).b1⟩
 have p1:((rows.map (·.1)).map (·.1)).sum=(whB b x.toNat).1/\((rows.map (·.1)).map (·.2)).sum=(whB b x.toNat).2/\((rows.map (·.2)).map (·.1)).sum=(whB b y.toNat).1/\((rows.map (·.2)).map (·.2)).sum=(whB b y.toNat).2:=by
  simp only[zzh]
  exact⟨ro.s1,ro.s2,ro.s3,ro.s4⟩
 obtain⟨wd,hwd⟩:∃wd,wd=rowD (sums (b.cells.map (·.2)) b.m):=⟨_,rfl⟩
 obtain⟨tb,htb⟩:∃tb,tb=rows.map tN:=⟨_,rfl⟩
 refine⟨fun ρ=>∃F1 G1,SplF (b.cells.map fun c=>at_ c.2 x.toNat) (rows.map (·.1)) F1 G1/\ρ=[.val (aG b),.val (.int x),.val (.int y),.val (.int m),.val wd,.val (.lst tb),.val (splD b.cells.length m.toNat F1 G1),.nil,.nil,.nil,.nil,.nil,.nil],zd bo x0 x1 (DH (by omega) ⟨rfl,b.cells.map (fun c=>at_ c.2 x.toNat),rows.map (·.1),rfl,⟨cx,r1,by rw[zza];omega,by rw[zza];omega,by rw[wh_2,p1.2.1],by rw[mD,mD,wh_1,wh_2,p1.1,p1.2.1]⟩,fun F1 G1 s1=>⟨F1,G1,s1,by rw[hwd,htb,zza,zza,rl];rfl⟩⟩),?_⟩
 rintro _ ⟨F1,G1,s1,rfl⟩
 refine⟨fun ρ=>∃F2 G2,SplF (b.cells.map fun c=>at_ c.2 y.toNat) (rows.map (·.2)) F2 G2/\ρ=[.val (aG b),.val (.int x),.val (.int y),.val (.int m),.val wd,.val (.lst tb),.val (splD b.cells.length m.toNat F1 G1),.val (splD b.cells.length m.toNat F2 G2),.nil,.nil,.nil,.nil,.nil],zd bo y0 y1 ?_,?_⟩
 ·rw[htb]
  exact DI (by omega) ⟨rfl,b.cells.map (fun c=>at_ c.2 y.toNat),rows.map (·.2),rfl,⟨cy,r2,by rw[zza];omega,by rw[zza];omega,by rw[wh_2,p1.2.2.2],by rw[mD,mD,wh_1,wh_2,p1.2.2.1,p1.2.2.2]⟩,fun F2 G2 s2=>⟨F2,G2,s2,by rw[zza,zza,rl];rfl⟩⟩
 rintro _ ⟨F2,G2,s2,rfl⟩
 have hf:HidF b x.toNat y.toNat m rows F1 G1 F2 G2:=⟨ro,s1,s2⟩
 refine⟨fun ρ=>ρ=[.val (aG b),.val (.int x),.val (.int y),.val (.int m),.val wd,.val (.lst tb),.val (splD b.cells.length m.toNat F1 G1),.val (splD b.cells.length m.toNat F2 G2),.own [],.nil,.nil,.nil,.nil],⟨sz,rfl⟩,?_⟩
 rintro _ rfl
 have i60:∀i,i<b.cells.length->i*m.toNat+m.toNat <= 60:=fun i hi=>by
  have:i*m.toNat <= 9*6:=Nat.mul_le_mul (by omega) (by omega)
  omega
 refine⟨fun ρ=>∃p q r t:Sl,ρ=[.val (aG b),.val (.int x),.val (.int y),.val (.int m),.val wd,.val (.lst tb),.val (splD b.cells.length m.toNat F1 G1),.val (splD b.cells.length m.toNat F2 G2),.own ((psH b x.toNat y.toNat m.toNat (entS F1 G1) (entS F2 G2) b.cells.length).map aX),p,q,r,t],?_,?_⟩
 ·refine nK (fun i ρ=>∃p q r t:Sl,ρ=[.val (aG b),.val (.int x),.val (.int y),.val (.int m),.val wd,.val (.lst tb),.val (splD b.cells.length m.toNat F1 G1),.val (splD b.cells.length m.toNat F2 G2),.own ((psH b x.toNat y.toNat m.toNat (entS F1 G1) (entS F2 G2) i).map aX),p,q,r,t]) (fun ρ hN=>?_) (fun i d ρ X hd hN hX=>?_) _ ⟨_,_,_,_,rfl⟩
  ·obtain⟨p,q,r,t,rfl⟩:=hN
   rw[zza]
   exact⟨p,q,r,t,rfl⟩
  ·obtain⟨p,q,r,t,rfl⟩:=hN
   rw[zzn]at hd
   obtain⟨c,hc,rfl⟩:=zyB.mp hd
   have hi:i<b.cells.length:=(zzt.mp hc).1
   have cm:=bo.it c (zzH hc)
   have ec:ba b i=c:=by unfold ba;rw[zzg,hc];rfl
   have pl:=pL b x.toNat y.toNat m.toNat (entS F1 G1) (entS F2 G2) i
   have i6:=i60 i hi
   refine⟨rfl,⟨by omega,by omega⟩,?_⟩
   refine iE (fun k ρ=>∃r t:Sl,ρ=[.val (aG b),.val (.int x),.val (.int y),.val (.int m),.val wd,.val (.lst tb),.val (splD b.cells.length m.toNat F1 G1),.val (splD b.cells.length m.toNat F2 G2),.own ((psH b x.toNat y.toNat m.toNat (entS F1 G1) (entS F2 G2) i++(List.range k.toNat).map (psI b x.toNat y.toNat (entS F1 G1) (entS F2 G2) i)).map aX),.val (.int i),.val (aX c),r,t]) _ _ ?_ ?_ _ ⟨_,_,by rw[Int.toNat_zero,List.range_zero,zzS,zzM];rfl⟩
   ·rintro ρ ⟨r,t,rfl⟩
    refine hX _ ⟨.val (.int i),.val (aX c),r,t,?_⟩
    rw[vA,show (0+((m.toNat:Nat):Int)).toNat=m.toNat by omega]
   ·rintro k ρ X' k0 kk ⟨r,t,rfl⟩ hX'
    have kn:k.toNat<m.toNat:=by omega
    refine⟨fun ρ=>ρ=[.val (aG b),.val (.int x),.val (.int y),.val (.int m),.val wd,.val (.lst tb),.val (splD b.cells.length m.toNat F1 G1),.val (splD b.cells.length m.toNat F2 G2),.own ((psH b x.toNat y.toNat m.toNat (entS F1 G1) (entS F2 G2) i++(List.range k.toNat).map (psI b x.toNat y.toNat (entS F1 G1) (entS F2 G2) i)).map aX),.val (.int i),.val (aX c),.val (.int k),.own ((if k.toNat=0 then(ba b i).2 else zR b.m).map aI)],?_,?_⟩
    ·have e:∀k:Nat,(List.replicate k [D.tup [.int 0,.int 0]]).flatten=(List.replicate k ((0,0):Int×Int)).map aI:=fun k=>by
      induction k with
      |zero=>rfl
      |succ k ih=>rw[zzW,zzW,zyu,zze,ih];rfl
     refine⟨⟨rfl,rfl⟩,fun z=>?_,fun z=>⟨sz,sz,⟨⟨by omega,by omega⟩,?_⟩,?_⟩⟩
     ·have z:k=0:=by simpa[bB]using z
      rw[if_pos (by omega),ec]
      rfl
     ·rw[zzP]
      exact zzk (show 1*b.m <= 6 by omega) (by decide)
     ·have z:¬k=0:=by simpa[bB]using z
      rw[if_neg (by omega),zzP,e]
      rfl
    rintro _ rfl
    have hg:∀F G:Nat->Nat->Int,((List.range b.cells.length).map fun i=>csD ((List.range m.toNat).map (entS F G i)))[((i:Nat):Int).toNat]? = some (csD ((List.range m.toNat).map (entS F G i))):=fun F G=>by
     rw[zzP,zzn,zyy hi]
     rfl
    have hk:∀F G:Nat->Nat->Int,(((List.range m.toNat).map (entS F G i)).map aI)[k.toNat]? = some (aI (entS F G i k.toNat)):=fun F G=>by
     rw[zzn,zzn,zyy kn]
     rfl
    have rl0:(if k.toNat=0 then(ba b i).2 else zR b.m).length=b.m:=by
     split
     ·rw[ec];exact cm.2.1.1
     ·unfold zR;simp
    generalize hr0:(if k.toNat=0 then(ba b i).2 else zR b.m)=r0 at rl0
    refine eh (by omega) (hg F1 G1) (eh (by omega) (hk F1 G1) ⟨trivial,x.toNat,uD x0 (by rw[zza,rl0];exact x1),?_⟩)
    rw[←List.map_set]
    refine eh (by omega) (hg F2 G2) (eh (by omega) (hk F2 G2) ⟨trivial,y.toNat,uD y0 (by rw[zza,zyJ,rl0];exact y1),?_⟩)
    rw[←List.map_set]
    refine⟨trivial,sz,?_,sz,?_,hX' _ ⟨.val (.int k),.val (.lst (((r0.set x.toNat (entS F1 G1 i k.toNat)).set y.toNat (entS F2 G2 i k.toNat)).map aI)),?_⟩⟩
    ·rw[zza,cm.1]
     exact zzk (show b.marks.length+1 <= 10 by omega) (by decide)
    ·rw[zza,zzl,pl,zza,zzJ]
     exact zzD (show _ <= 100 by omega) (by decide)
    ·have ecd:aX (psI b x.toNat y.toNat (entS F1 G1) (entS F2 G2) i k.toNat)=.tup [.tup (c.1.map D.int++[.int k]),.tup (((r0.set x.toNat (entS F1 G1 i k.toNat)).set y.toNat (entS F2 G2 i k.toNat)).map aI)]:=by
      unfold psI rowH
      rw[hr0,ec]
      show D.tup [.tup ((c.1++[((k.toNat:Nat):Int)]).map D.int),_]=_
      rw[zzo,show ((k.toNat:Nat):Int)=k by omega]
      rfl
     have e9:psH b x.toNat y.toNat m.toNat (entS F1 G1) (entS F2 G2) i++(List.range (k+1).toNat).map (psI b x.toNat y.toNat (entS F1 G1) (entS F2 G2) i)=(psH b x.toNat y.toNat m.toNat (entS F1 G1) (entS F2 G2) i++(List.range k.toNat).map (psI b x.toNat y.toNat (entS F1 G1) (entS F2 G2) i))++[psI b x.toNat y.toNat (entS F1 G1) (entS F2 G2) i k.toNat]:=by
      rw[show (k+1).toNat=k.toNat+1 by omega,zyW,zzo,zyC]
      rfl
     rw[e9,zzo (l₂:=[_]),zyV,ecd]
     rfl
 ·rintro _ ⟨p,q,r,t,rfl⟩
  have fin:=h hz rows F1 G1 F2 G2 hf
  have el2:(psH b x.toNat y.toNat m.toNat (entS F1 G1) (entS F2 G2) b.cells.length).length <= 60:=by
   rw[pL]
   exact zzk (Nat.mul_le_mul c9 (show m.toNat <= 6 by omega)) (by decide)
  have ok:∀p∈psH b x.toNat y.toNat m.toNat (entS F1 G1) (entS F2 G2) b.cells.length,p.1.length=b.marks.length+1/\RowN 110 b.m p.2:=fun p hp=>by
   obtain⟨i,hi,hp⟩:=List.mem_flatMap.mp hp
   obtain⟨k,hk,rfl⟩:=zzb.mp hp
   have hi:=zzy.mp hi
   have hk:=zzy.mp hk
   refine⟨?_,tO bo x0 x1 y0 y1 hf hi (by omega)⟩
   have:ba b i∈b.cells:=by
    unfold ba
    rw[zzg,zzm hi]
    exact zzU hi
   show ((ba b i).1++[_]).length=_
   rw[zzl,zzL,(bo.it _ this).1]
  have em:aG (hidB b x.toNat y.toNat m F1 G1 F2 G2)=.tup [.int b.m,.tup (b.marks.map D.int++[.int m]),.tup ((gath b.m (psH b x.toNat y.toNat m.toNat (entS F1 G1) (entS F2 G2) b.cells.length)).map aX)]:=by
   unfold aG hidB aw
   dsimp only
   rw[zzo]
   rfl
  rw[em]at fin
  refine⟨sz,?_,rfl,b.m,_,b.marks.length+1,rfl,rfl,⟨b6,el2,ok⟩,sz,fin⟩
  rw[zza]
  exact zzk (show b.marks.length+1 <= 10 by omega) (by decide)
theorem DJ{cs:List (Int×Int)}(hl:cs.length <= 1000){x y:Sl}{Q:List D->Prop}(q:Q ((cs.map (·.1)).map D.int)):cE (CD 2 (qB (dg 0) (qB (dg 1) CC))) bP (dVar 0) (cs.map aI) [] [x,y] Q:=by
 refine bd (fun d=>match d with|.tup (x::_)=>x|_=>.non) (fun ρ=>∃x y,ρ=[x,y]) (by rw[zza];exact zzk hl (by decide)) (fun d hd ρ Y Z hN hY=>?_) _ ⟨_,_,rfl⟩ ?_
 ·obtain⟨x,y,rfl⟩:=hN
  obtain⟨c,_,rfl⟩:=zzb.mp hd
  exact⟨rfl,Br.t (hY _ ⟨_,_,rfl⟩)⟩
 ·rw[zzh]at q ⊢
  exact q
theorem HC(kds:List (List Key×D)):fzO (dvO kds)=.dT (kds.map (·.1)) (kds.map (·.2)):=by
 unfold dvO
 simp only[fzO]
 congr 1
 rw[oJ,zzh]
 apply zzp
 intro p _
 simp only[Function.comp,fzO]
def vB:DSp:=fun ds Q=>match ds with
 |[.pen]=>∀t w,Cnt 100 t w->Q (.tup [.int t,.int w])
 |_=>False
theorem rQ:bj vB:=fun ds P P' f h=>by
 unfold vB at h ⊢
 split at h
 ·exact fun x y l=>f _ (h x y l)
 ·exact h.elim
theorem rR(T:Tx K mg):FnOk P w K mg base CX0 2 T.fZ T.fc ["_law_pen_here"] (spD K 1 vB):=by
 refine fnD (k:=1) T.cO.F sc__law_count (fun cdv A outer s H E hr=>(aj (aC (i:=1) sc__law_count.nd rfl oo (ag (aJ T) aK (rm hr) rfl T.af.m T.af.F.kp T.af.b (aa (ac 0 (pv 0)) (aa ae ad))))
   (aj (aC (i:=2) sc__law_count.nd rfl oo (bu dh ae (ag (aJ T) aK (rm hr) rfl T.af.m T.af.F.kp T.af.b (aa (ac 0 (pv 0)) (aa ae ad)))))
   (aH (cG (aN (eL hr) (ac 1 (pv 1)) ae (aB _)) (ai (aC (i:=2) sc__law_count.nd rfl oo ae)) aQ)
   (aH (cG (aN (eL hr) (ac 1 (pv 1)) ae (aB _)) (ai (aC (i:=2) sc__law_count.nd rfl oo (bu dh (bu Bo ae ae) (ag (aJ T) aK (rm hr) rfl T.af.m T.af.F.kp T.af.b (aa (ac 0 (pv 0)) (aa (bu Bo ae ae) ad)))))) aQ)
   (ai (aE (aS (aa (ac 2 (pv 2)) (aa (ag (aJ T) aK (rm hr) rfl T.af.m T.af.F.kp T.af.b (aa (ac 0 (pv 0)) (aa (bu dh (ac 2 (pv 2)) ae) ad))) ad)))))))))) (fun ds Q hl h=>?_)
 unfold vB at h
 split at h
 case h_2=>exact h.elim
 refine⟨rfl,⟨by decide,by decide⟩,fun way w0 w1=>⟨rfl,⟨by decide,by decide⟩,fun r r0 r1=>?_⟩⟩
 refine⟨fun ρ=>∃t:Int,0 <= t/\t <= 10/\ρ=[.val .pen,.val (.int way),.val (.int t)],⟨⟨rfl,rfl⟩,fun _=>⟨0,by decide,by decide,rfl⟩,fun _=>⟨1+r,by omega,by omega,rfl⟩⟩,?_⟩
 rintro _ ⟨t,t0,t1,rfl⟩
 refine⟨fun ρ=>∃t:Int,0 <= t/\t <= 10^12/\ρ=[.val .pen,.val (.int way),.val (.int t)],⟨⟨rfl,rfl⟩,fun _=>?_,fun _=>⟨t,t0,by omega,rfl⟩⟩,?_⟩
 ·refine⟨cpow,cpow,rfl,⟨by decide,by decide⟩,fun p p0 p1=>⟨_,?_,?_,rfl⟩⟩
  all_goals simp only[Int.reduceToNat,Int.reducePow]at *
  ·omega
  ·omega
 rintro _ ⟨t,t0,t1,rfl⟩
 have bt:Bd 100 t:=by show t.natAbs<2^100;omega
 exact⟨rfl,⟨by omega,by omega⟩,fun w w0 w1=>⟨sz,h t w (kj w0 (by omega) bt)⟩⟩
def embB(f:List (List Int×Row)):List (List Key×D):=f.map fun p=>(kI p.1,rowD p.2)
def KsOk(ms ks:List Int):Prop:=ks.length=ms.length/\∀i,i<ks.length->0 <= ks.getD i 0/\ks.getD i 0<ms.getD i 0
theorem KsOk.snoc{ms ks:List Int}(h:KsOk ms ks){x r:Int}(r0:0 <= r)(r1:r<x):KsOk (ms++[x]) (ks++[r]):=by
 obtain⟨h1,h2⟩:=h
 refine⟨by simp[h1],fun i hi=>?_⟩
 rw[zzl,zzL]at hi
 rw[zzg,zzg]
 by_cases z:i<ks.length
 ·have:=h2 i z
  rw[zzg,zzg]at this
  rw[zzE z,zzE (by omega)]
  exact this
 ·have e:i=ks.length:=by omega
  subst e
  rw[zzF (zzj _),zzF (by omega),Nat.sub_self,←h1,Nat.sub_self]
  exact⟨r0,r1⟩
def BkK(b:Bk):Prop:=∀c∈b.cells,KsOk b.marks c.1
structure FOk(m:Nat)(ms:List Int)(f:List (List Int×Row)):Prop where
 nd:(f.map (·.1)).Nodup
 it:∀p∈f,KsOk ms p.1/\RowN 100 m p.2/\cF p.2
theorem FOk.put{m:Nat}{ms:List Int}{f:List (List Int×Row)}(h:FOk m ms f){k:List Int}{r:Row}(hk:KsOk ms k)(hr:RowN 100 m r/\cF r):∃f',putA (embB f) (kI k) (rowD r)=embB f'/\FOk m ms f'/\f'.length <= f.length+1:=by
 have ea:((embB f).any fun q=>decide (q.1=kI k))=f.any fun q=>decide (q.1=k):=by
  unfold embB
  rw[List.any_map]
  congr 1
  funext q
  simp[wB]
 unfold putA
 rw[ea]
 by_cases a:(f.any fun q=>decide (q.1=k))=true
 ·rw[if_pos a]
  refine⟨f.map fun p=>if p.1=k then(p.1,r) else p,?_,⟨?_,fun p hp=>?_⟩,by rw[zza];omega⟩
  ·unfold embB
   rw[zzh,zzh]
   apply zzp
   intro p _
   simp only[Function.comp,wB]
   split<;>rfl
  ·rw[zzh]
   have:f.map ((fun x=>x.1) ∘ fun p=>if p.1=k then(p.1,r) else p)=f.map (·.1):=by
    apply zzp
    intro p _
    simp only[Function.comp]
    split<;>rfl
   rw[this]
   exact h.nd
  ·obtain⟨q,hq,rfl⟩:=zzb.mp hp
   split
   ·rename_i e
    exact⟨by rw[e];exact hk,hr⟩
   ·exact h.it q hq
 ·rw[if_neg a]
  refine⟨f++[(k,r)],by unfold embB;rw[zzo];rfl,⟨?_,fun p hp=>?_⟩,by simp⟩
  ·rw[zzo]
   refine zyN.mpr ⟨h.nd,by simp,fun x hx y hy e=>?_⟩
   have hy:y=k:=by simpa using hy
   subst hy
   subst e
   obtain⟨q,hq,e⟩:=zzb.mp hx
   exact a (List.any_eq_true.mpr ⟨q,hq,by simpa using e⟩)
  ·rcases zzx.mp hp with hp|hp
   ·exact h.it p hp
   ·rw[zzw.mp hp]
    exact⟨hk,hr⟩
theorem BS{f:List (List Int×Row)}{k:List Int}(h:k∈f.map (·.1)):∃p∈f,p.1=k/\gt (embB f) (kI k)=some (rowD p.2):=by
 induction f with
 |nil=>simp at h
 |cons q t ih =>
  by_cases e:q.1=k
  ·refine⟨q,zzd,e,?_⟩
   unfold gt embB
   rw[zze,zzZ (by simpa[wB]using e)]
   rfl
  ·have h':k∈t.map (·.1):=by
    rw[zze]at h
    rcases zzi.mp h with h|h
    ·exact absurd h.symm e
    ·exact h
   obtain⟨p,h1,h2,h4⟩:=ih h'
   refine⟨p,zzc _ h1,h2,?_⟩
   unfold gt embB at h4 ⊢
   rw[zze,zya (by simpa[wB]using e)]
   exact h4
theorem rS{r:Row}(h:0<(r.map (·.1)).sum):cF r:=by
 induction r with
 |nil=>simp at h
 |cons c t ih =>
  rw[zze,zzB]at h
  by_cases e:0<c.1
  ·exact⟨c,zzd,e⟩
  ·obtain⟨d,hd,hp⟩:=ih (by omega)
   exact⟨d,zzc _ hd,hp⟩
theorem bl01(b:Bool){P:Int->Prop}(h0:P 0)(h1:P 1):P (if b=true then 1 else 0):=by cases b<;>assumption
theorem DK{ns:List Int}{k:Int}{Q:D->Prop}{lo hi:Int}(k0:0 <= k)(k1:k<ns.length)(hb:∀n∈ns,lo <= n/\n <= hi)(q:∀n,lo <= n->n <= hi->Q (.int n)):opt (atI (ns.map D.int) k) Q:=by
 refine CK k0 (by rw[zza];exact k1) fun d hd=>?_
 obtain⟨n,hn,rfl⟩:=zzb.mp hd
 exact q n (hb n hn).1 (hb n hn).2
structure BkS(b:Bk)(mo:Int):Prop where
 c9:b.cells.length <= 9
 mks:(b.marks.length:Int) <= mo
 m1:∀x∈b.marks,1 <= x/\x <= 6
 up:(b.cells.map (·.1)).Pairwise fun x y=>ltI x y=true
 sm:∀c∈b.cells,RowN 100 b.m c.2
def AO:DSp:=fun ds Q=>match ds with
 |[.pen,.int mo]=>(0 <= mo/\mo <= 5)/\∀b:Bk,BkOk b->BkK b->BkS b mo->Q (aG b)
 |_=>False
theorem tP:bj AO:=fun ds P P' f h=>by
 unfold AO at h ⊢
 split at h
 ·exact⟨h.1,fun b o q z=>f _ (h.2 b o q z)⟩
 ·exact h.elim
theorem tQ(T:Tx K mg):FnOk P w K mg base CX0 3 T.hW T.fS ["_law_pen_here","_law_most"] (spD K 2 AO):=by
 refine fnD (k:=2) T.dw.F sc__law_book (fun cdv A outer s H E hr=>(aH (aC (i:=2) sc__law_book.nd rfl oo (bu dh ae (bu qF (ag (aJ T) aK (rm hr) rfl T.af.m T.af.F.kp T.af.b (aa (ac 0 (pv 0)) (aa ae ad))) (aO ut rfl T.wL rfl (aa (iC (eL hr) (ag (aJ T) aK (rm hr) rfl T.af.m T.af.F.kp T.af.b (aa (ac 0 (pv 0)) (aa ae ad))) ae (aB _)) ad)))))
   (aH (aC (i:=3) sc__law_book.nd rfl oo (aO bH rfl T.bS rfl (aa (aF (PCD.pld (aA (N':=["_law_k","_law_pen_here"]) rfl rfl dk rfl (.own (.cap (j:=0) rfl oo rfl .nil)) dk (cg rfl T.cS (aa (ag (aJ T) aK (rm hr) rfl T.af.m T.af.F.kp T.af.b (aa (ac 0 (pv 0)) (aa (bu dh (ac 1 (pv 1)) ae) ad))) ad)) (fun B=>(ao (i:=0) ndB rfl oo)) (fun B=>aL) (fun B=>(bu dh ae (ag (aJ T) aK (rm hr) rfl T.af.m T.af.F.kp T.af.b (aa (ac 1 (pv 1)) (aa (ar (aF (dE (aa ae (aa ae ad)))) (aO ut rfl T.wL rfl (aa (iC (eL hr) (ag (aJ T) aK (rm hr) rfl T.af.m T.af.F.kp T.af.b (aa (ac 1 (pv 1)) (aa ae ad))) ae (aB _)) ad)) (fun _ _=>rfl)) ad)))))))) ad)))
   (aj (xZ (i:=4) sc__law_book.nd rfl oo)
   (aH (dZ PassesOwn.never rfl (cg rfl T.cS (aa (ag (aJ T) aK (rm hr) rfl T.af.m T.af.F.kp T.af.b (aa (ac 0 (pv 0)) (aa ae ad))) ad)) (ao (i:=5) sc__law_book.nd rfl oo) (aj (aC (i:=6) sc__law_book.nd rfl oo (aO bH rfl T.bS rfl (aa (aF (PCD.pld (aA (N':=["_law_kinds","_law_pen_here"]) rfl rfl dk rfl (.own (.cap (j:=0) rfl oo rfl .nil)) dk (ee (ac 3 (pv 3))) (fun B=>(ao (i:=0) ndB rfl oo)) (fun B=>aL) (fun B=>(ag (aJ T) aK (rm hr) rfl T.af.m T.af.F.kp T.af.b (aa (ac 1 (pv 1)) (aa (ac 0 (pv 0)) ad))))))) ad)))
   (aj (aC (i:=7) sc__law_book.nd rfl oo (aO bH rfl T.bS rfl (aa (aF (PCD.pld (aA (N':=["_law_house","_law_pen_here"]) rfl rfl dk rfl (.own (.cap (j:=0) rfl oo rfl .nil)) dk (cg rfl T.cS (aa (ac 2 (pv 2)) ad)) (fun B=>(ao (i:=0) ndB rfl oo)) (fun B=>aL) (fun B=>(ag (rR T) rQ (rm hr) rfl T.cO.m T.cO.F.kp T.cO.b (aa (ac 1 (pv 1)) ad)))))) ad)))
   (ai (cG (aN vZ (aM uy rfl T.zx PyProof.Rows.boot_sum (aa (aF (PCD.pld (aA (N':=["_law_tried","_law_well"]) rfl rfl dk rfl (.own (.own .nil)) dk (ee (ac 7 (pv 7))) (fun B=>(lG (n:=2) rfl (bG (ao (i:=0) ndB rfl oo) (bG (ao (i:=1) ndB rfl oo) gD)))) (fun B=>aL) (fun B=>(ac 0 (pv 0)))))) ad)) ae (aB _)) (ai (Dg hr (pv 4) (ac 6 (pv 6)) (ac 7 (pv 7)))) aQ)))))
   (ai (aE (aS (aa (ac 2 (pv 2)) (aa (ac 3 (pv 3)) (aa (aO bH rfl T.bS rfl (aa (aF (PCD.pld (aA (N':=["_law_kinds","_law_found"]) rfl rfl dk rfl (.own (.cap (j:=4) rfl oo rfl .nil)) dk (bF (aM uO rfl T.kX dk (aa (ac 4 (pv 4)) ad))) (fun B=>(ao (i:=0) ndB rfl oo)) (fun B=>aL) (fun B=>(aS (aa (ac 0 (pv 0)) (aa (Bw hr (ac 1 (pv 1)) (ac 0 (pv 0)) (fun _ _=>rfl)) ad))))))) ad)) ad))))))))))) (fun ds Q hl h=>?_)
 unfold AO at h
 split at h
 case h_2=>exact h.elim
 rename_i mo
 obtain⟨⟨mo0,mo1⟩,h⟩:=h
 refine⟨fun ρ=>∃m:Nat,2 <= m/\m <= 6/\ρ=[.val .pen,.val (.int mo),.val (.int m),.nil,.nil,.nil,.nil,.nil],⟨rfl,⟨by decide,by decide⟩,fun a a0 a1=>⟨rfl,⟨by decide,by decide⟩,fun c c0 c1=>⟨⟨rfl,rfl⟩,.inl ⟨by omega,by omega⟩,?_⟩⟩⟩,?_⟩
 ·have hm:∃m:Nat,2 <= m/\m <= 6/\2+a*(if eqD (.int c) (.int 1)=true then(1:Int) else 0)=(m:Int):=by
   refine bl01 (P:=fun x=>∃m:Nat,2 <= m/\m <= 6/\2+a*x=(m:Int)) _ ⟨2,by omega,by omega,by omega⟩ ⟨(2+a).toNat,by omega,by omega,by omega⟩
  obtain⟨m,m2,m6,em⟩:=hm
  exact⟨m,m2,m6,by rw[←em];rfl⟩
 rintro _ ⟨m,m2,m6,rfl⟩
 refine⟨fun ρ=>∃ms:List Int,(ms.length <= 5/\(ms.length:Int) <= mo)/\(∀x∈ms,1 <= x/\x <= 6)/\ρ=[.val .pen,.val (.int mo),.val (.int m),.val (aw ms),.nil,.nil,.nil,.nil],⟨rfl,⟨by omega,by omega⟩,fun n n0 n1=>⟨⟨by omega,by omega⟩,?_⟩⟩,?_⟩
 ·refine bb (fun pre acc ρ=>∃ms:List Int,acc=ms.map D.int/\ms.length=pre.length/\(∀x∈ms,1 <= x/\x <= 6)/\∃s,ρ=[s,.val .pen]) (fun acc ρ hN=>?_) (fun pre d post acc ρ Y e hN hY=>?_) _ ⟨[],rfl,rfl,fun x hx=>by simp at hx,_,rfl⟩
  ·obtain⟨ms,rfl,el,hv,_⟩:=hN
   rw[bf,zza,zzJ]at el
   exact⟨ms,⟨by omega,by omega⟩,hv,rfl⟩
  ·obtain⟨ms,rfl,el,hv,s,rfl⟩:=hN
   have hlen:(eJ 0 n.toNat).length=pre.length+(post.length+1):=by rw[e];simp
   rw[bf,zza,zzJ]at hlen
   refine Br.t ⟨sz,rfl,⟨by decide,by decide⟩,fun q q0 q1=>⟨⟨rfl,rfl⟩,DK (ns:=[3,6]) (lo:=1) (hi:=6) (bl01 (P:=fun x=>0 <= x) _ (by decide) (by decide)) (bl01 (P:=fun x=>x<([3,6]:List Int).length) _ (by decide) (by decide)) (by decide) fun v v1 v2=>⟨rfl,⟨by omega,by omega⟩,fun r r0 r1=>⟨?_,hY _ _ ⟨ms++[1+r],by simp,by simp[el],fun x hx=>?_,_,rfl⟩⟩⟩⟩⟩
   ·rw[zza]
    exact zzD (show ms.length <= 10 by omega) (by decide)
   ·rcases zzx.mp hx with hx|hx
    ·exact hv x hx
    ·rw[zzw.mp hx]
     omega
 rintro _ ⟨ms,⟨ml,mlo⟩,mv,rfl⟩
 refine⟨fun ρ=>∃f:List (List Int×Row),FOk m ms f/\f.length <= 9/\∃a b c:Sl,ρ=[.val .pen,.val (.int mo),.val (.int m),.val (aw ms),.obj (dvO (embB f)),a,b,c],⟨rfl,⟨by decide,by decide⟩,fun n n0 n1=>⟨⟨by omega,by omega⟩,?_⟩⟩,?_⟩
 ·refine iE (fun k ρ=>∃f:List (List Int×Row),FOk m ms f/\(f.length:Int) <= k/\∃a b c:Sl,ρ=[.val .pen,.val (.int mo),.val (.int m),.val (aw ms),.obj (dvO (embB f)),a,b,c]) _ _ ?_ ?_ _ ⟨[],⟨zyP,fun p hp=>by simp at hp⟩,by simp,_,_,_,rfl⟩
  ·rintro ρ ⟨f,fo,fl,a,b,c,rfl⟩
   exact⟨f,fo,by omega,a,b,c,rfl⟩
  ·rintro k ρ X k0 k1 ⟨f,fo,fl,a,b,c,rfl⟩ hX
   refine bb (fun pre acc ρ=>∃m0 m1 ks:List Int,ms=m0++m1/\pre=m0.map D.int/\acc=ks.map D.int/\KsOk m0 ks/\∃s,ρ=[s,.val .pen]) (fun acc ρ hN=>?_) (fun pre d post acc ρ Y e hN hY=>?_) _ ⟨[],ms,[],rfl,rfl,rfl,⟨rfl,fun i hi=>absurd hi (zyf i)⟩,_,rfl⟩
   ·obtain⟨m0,m1,ks,e1,e2,rfl,kl,s,rfl⟩:=hN
    have:m1=[]:=by
     have:=congrArg List.length e2
     rw[e1]at this
     simp at this
     exact this
    subst this
    rw[zzM]at e1
    rw[←e1]at kl
    refine⟨⟨by omega,by omega⟩,?_⟩
    refine bb (fun pre acc ρ=>∃r:Row,acc=r.map aI/\r.length=pre.length/\(∀c∈r,Cnt 100 c.1 c.2)/\∃s,ρ=[s,.val .pen]) (fun acc ρ hN=>?_) (fun pre d post acc ρ Y e hN hY=>?_) _ ⟨[],rfl,rfl,fun c hc=>by simp at hc,_,rfl⟩
    ·obtain⟨r,rfl,hl,hc,_⟩:=hN
     rw[bf,zza,zzJ]at hl
     have hl':r.length=m:=by omega
     refine DJ (by omega) (lK (Br.di (fun z=>?_) (fun z=>hX _ ⟨f,fo,by omega,_,_,_,rfl⟩)))
     obtain⟨f',e,fo',fl'⟩:=fo.put (k:=ks) (r:=r) kl ⟨⟨hl',hc⟩,rS z⟩
     refine⟨trivial,embB f,kI ks,rfl,dS ks,?_,?_⟩
     ·unfold embB
      rw[zza]
      exact zzD (show f.length <= 100 by omega) (by decide)
     ·have e':putA (embB f) (kI ks) (.tup (r.map aI))=embB f':=e
      rw[e']
      exact hX _ ⟨f',fo',by omega,_,_,_,rfl⟩
    ·obtain⟨r,rfl,hl,hc,s,rfl⟩:=hN
     refine Br.t ⟨rfl,fun t w cw=>⟨?_,hY _ _ ⟨r++[(t,w)],by simp[aI],by simp[hl],fun c hc'=>?_,_,rfl⟩⟩⟩
     ·have hlen:(eJ 0 ((m:Int)).toNat).length=pre.length+(post.length+1):=by rw[e];simp
      rw[bf,zza,zzJ]at hlen
      rw[zza]
      exact zzD (show r.length <= 100 by omega) (by decide)
     ·rcases zzx.mp hc' with hc'|hc'
      ·exact hc c hc'
      ·rw[zzw.mp hc'];exact cw
   ·obtain⟨m0,m1,ks,e1,rfl,rfl,kl,s,rfl⟩:=hN
    rw[e1,zzo]at e
    have e:=zzO e
    cases m1 with
    |nil=>simp at e
    |cons x m1 =>
     rw[zze]at e
     injection e with e3 e4
     subst e3
     have hx:=mv x (by rw[e1];simp)
     rw[e1,zzl]at ml
     refine Br.t ⟨rfl,⟨by omega,by omega⟩,fun r r0 r1=>⟨?_,hY _ _ ⟨m0++[x],m1,ks++[r],by rw[e1];simp,by simp,by simp,kl.snoc r0 r1,_,rfl⟩⟩⟩
     rw[zza,kl.1]
     exact zzD (show m0.length <= 10 by omega) (by decide)
 rintro _ ⟨f,fo,fl,a,b,c,rfl⟩
 have hk:(embB f).map (·.1)=(f.map (·.1)).map kI:=by unfold embB;rw[zzh,zzh];rfl
 have kl:(f.map (·.1)).length <= 9:=by rw[zza];exact fl
 have kln:∀k∈f.map (·.1),k.length=ms.length:=fun k hk=>by
  obtain⟨p,hp,rfl⟩:=zzb.mp hk
  exact(fo.it p hp).1.1
 have sl:(dU (f.map (·.1))).length <= 9:=by rw[(aV _).length_eq];exact kl
 have cA:∀k∈(embB f).map (·.1),oR k:=fun k hk'=>by
  rw[hk]at hk'
  obtain⟨k',_,rfl⟩:=zzb.mp hk'
  exact pC k'
 have cB:2 <= ((embB f).map (·.1)).length->∀k∈(embB f).map (·.1),k≠[]:=fun h2 k hk'=>by
  rw[hk]at h2 hk'
  rw[zza]at h2
  obtain⟨k',hk2,rfl⟩:=zzb.mp hk'
  intro z
  exact yM fo.nd kln h2 k' hk2 (ko (b:=[]) z)
 have cC:((embB f).map (·.1)).length<64:=by rw[hk,zza];omega
 have e1:(srtK ((embB f).map (·.1))).map keyD=(dU (f.map (·.1))).map aw:=by
  rw[hk,tF,zzh]
  apply zzp
  intro k _
  exact(dS k).symm
 refine⟨⟨cA,cB,cC⟩,?_⟩
 show cE _ _ _ ((srtK ((embB f).map (·.1))).map keyD) _ _ _
 rw[e1]
 refine bb (fun pre acc ρ=>∃k0 k1:List (List Int),∃cs:List (List Int×Row),dU (f.map (·.1))=k0++k1/\pre=k0.map aw/\acc=cs.map aX/\cs.map (·.1)=k0/\(∀p∈cs,p∈f)/\∃s:Sl,ρ=[s,.val (fzO (dvO (embB f)))]) (fun acc ρ hN=>?_) (fun pre d post acc ρ Y e hN hY=>?_) _ ⟨[],_,[],rfl,rfl,rfl,rfl,fun p hp=>by simp at hp,_,rfl⟩
 ·obtain⟨k0,k1,cs,e3,e4,rfl,cl,hc,s,rfl⟩:=hN
  have:k1=[]:=by
   have:=congrArg List.length e4
   rw[e3]at this
   simp at this
   exact this
  subst this
  rw[zzM]at e3
  have up:=iO fo.nd
  rw[e3]at sl up
  have cl9:cs.length <= 9:=by rw[←zza (·.1) (as:=cs),cl];exact sl
  exact⟨sz,h ⟨m,ms,cs⟩ ⟨m2,m6,ml,by show cs.length <= 60;omega,fun c hc'=>⟨(fo.it c (hc c hc')).1.1,⟨(fo.it c (hc c hc')).2.1.1,fun x hx=>((fo.it c (hc c hc')).2.1.2 x hx).mono (by decide)⟩,(fo.it c (hc c hc')).2.2⟩⟩ (fun c hc'=>(fo.it c (hc c hc')).1) ⟨cl9,mlo,mv,by show (cs.map (·.1)).Pairwise _;rw[cl];exact up,fun c hc'=>(fo.it c (hc c hc')).2.1⟩⟩
 ·obtain⟨k0,k1,cs,e3,rfl,rfl,cl,hc,s,rfl⟩:=hN
  rw[e3,zzo]at e
  have e:=zzO e
  cases k1 with
  |nil=>simp at e
  |cons k k1 =>
   rw[zze]at e
   injection e with e4 e5
   subst e4
   have hk':k∈dU (f.map (·.1)):=by rw[e3];simp
   obtain⟨p,hp,hpk,h4⟩:=BS ((aV _).mem_iff.mp hk')
   rw[e3,zzl]at sl
   refine Br.t ⟨embB f,kI k,rowD p.2,HC _,dS k,h4,sz,?_,hY _ _ ⟨k0++[k],k1,cs++[p],by rw[e3];simp,by simp,by rw[zzo,←hpk];rfl,by rw[zzo,cl];show k0++[p.1]=_;rw[hpk],fun q hq=>?_,_,rfl⟩⟩
   ·have cl9:cs.length <= 9:=by rw[←zza (·.1) (as:=cs),cl];omega
    rw[zza]
    exact zzD cl9 (by decide)
   ·rcases zzx.mp hq with hq|hq
    ·exact hc q hq
    ·rw[zzw.mp hq];exact hp
theorem sum1{r:Row}{m:Nat}(h:r.length=m):sums [r] m=r:=by
 subst h
 unfold sums
 have:(List.range r.length).map (fun h=>sumP (col [r] h))=(List.range r.length).map fun h=>r.getD h (0,0):=by
  apply zzp
  intro h _
  unfold sumP col at_
  simp
 rw[this]
 exact iS (0,0) r
theorem og{ps:List (List Int×Row)}(nd:(ps.map (·.1)).Nodup){p:List Int×Row}(hp:p∈ps):ps.filter (fun q=>decide (q.1=p.1))=[p]:=by
 induction ps with
 |nil=>simp at hp
 |cons q ps ih =>
  obtain⟨n1,n2⟩:=zzY.mp (by simpa using nd:(q.1::ps.map (·.1)).Nodup)
  rcases zzi.mp hp with rfl|hp
  ·rw[zyq (by simp),zyZ.mpr]
   intro q' hq' z
   exact n1 (zzb.mpr ⟨q',hq',by simpa using z⟩)
  ·rw[zyr,ih n2 hp]
   intro z
   have z:q.1=p.1:=by simpa using z
   exact n1 (zzb.mpr ⟨p,hp,z.symm⟩)
theorem AQ{l:List (List Int)}(h:l.Pairwise fun a b=>ltI a b=true):l.Nodup:=h.imp fun {a b} hab z=>by
 rw[z,jH]at hab
 cases hab
theorem jN{m:Nat}{ps:List (List Int×Row)}(up:(ps.map (·.1)).Pairwise fun a b=>ltI a b=true)(hl:∀p∈ps,p.2.length=m):az m ps=ps:=by
 rw[iQ]
 have ek:(az m ps).map (·.1)=ps.map (·.1):=yO (iP m ps) up fun k=>parts_mem
 rw[ek,zzh]
 conv=>rhs;rw[←List.map_id ps]
 apply zzp
 intro p hp
 show (p.1,sums ((ps.filter fun q=>decide (q.1=p.1)).map (·.2)) m)=p
 rw[og (AQ up) hp,zyV,sum1 (hl p hp)]
theorem DM{n m:Nat}{r:Row}(o:RowN n m r)(h:dr r=false){k:Nat}(hk:k<m):at_ r k=(0,0):=by
 have c:=(bI o hk)
 have nt:¬cF r:=fun z=>by rw[triedB_iff.mpr z]at h;cases h
 have:¬ 0<(at_ r k).1:=fun z=>nt ⟨_,zzH c.1,z⟩
 have l:=c.2.lo
 have u:=c.2.hi
 exact Prod.ext (by show _=(0:Int);omega) (by show _=(0:Int);omega)
theorem oh{n m:Nat}{rows:List Row}(ho:∀r∈rows,RowN n m r):sums (rows.filter dr) m=sums rows m:=by
 unfold sums
 apply zzp
 intro h hh
 have hh:=zzy.mp hh
 induction rows with
 |nil=>rfl
 |cons r rows ih =>
  have ih:=ih fun r hr=>ho r (zzc _ hr)
  cases z:dr r with
  |true =>
   rw[zyq z]
   unfold sumP col at ih ⊢
   simp only[zze,zzB]
   injection ih with i1 i2
   rw[i1,i2]
  |false =>
   rw[zyr (by rw[z];exact zzu),ih]
   have:=DM (ho r zzd) z hh
   unfold sumP col
   simp only[zze,zzB,this]
   simp
theorem ze:∀{a b:List Int} (x y:List Int),a.length=b.length->ltI a b=true->ltI (a++x) (b++y)=true
 |[],[],_,_,_,h=>by cases h
 |[],_::_,_,_,h,_=>by simp at h
 |_::_,[],_,_,h,_=>by simp at h
 |a::r,b::s,x,y,h,e=>by
  have e:(if a=b then ltI r s else decide (a<b))=true:=e
  show (if a=b then ltI (r++x) (s++y) else decide (a<b))=true
  by_cases z:a=b
  ·rw[if_pos z]at e ⊢
   exact ze x y (by simpa using h) e
  ·rw[if_neg z]at e ⊢
   exact e
theorem pM:∀(c:List Int) {a b:Int},a<b->ltI (c++[a]) (c++[b])=true
 |[],a,b,h=>by
  show (if a=b then false else decide (a<b))=true
  rw[if_neg (by omega)]
  exact decide_eq_true h
 |d::c,a,b,h=>by
  show (if d=d then ltI (c++[a]) (c++[b]) else _)=true
  rw[if_pos rfl]
  exact pM c h
theorem psH_mem{b:Bk}{x y m n:Nat}{S1 S2:Nat->Nat->Int×Int}{p:List Int×Row}:p∈psH b x y m S1 S2 n↔∃i,i<n/\∃k,k<m/\p=psI b x y S1 S2 i k:=by
 unfold psH
 rw[List.mem_flatMap]
 constructor
 ·rintro⟨i,hi,hp⟩
  obtain⟨k,hk,rfl⟩:=zzb.mp hp
  exact⟨i,zzy.mp hi,k,zzy.mp hk,rfl⟩
 ·rintro⟨i,hi,k,hk,rfl⟩
  exact⟨i,zzy.mpr hi,zzb.mpr ⟨k,zzy.mpr hk,rfl⟩⟩
theorem dF{b:Bk}{i:Nat}(hi:i<b.cells.length):ba b i∈b.cells:=by
 unfold ba
 rw[zzg,zzm hi]
 exact zzU hi
theorem pN{b:Bk}{i:Nat}(hi:i<b.cells.length):ba b i=b.cells[i]:=by
 unfold ba
 rw[zzg,zzm hi]
 rfl
theorem tR{b:Bk}(up:(b.cells.map (·.1)).Pairwise fun x y=>ltI x y=true){i j:Nat}(hij:i<j)(hj:j<b.cells.length):ltI (ba b i).1 (ba b j).1=true:=by
 rw[List.pairwise_iff_getElem]at up
 have:=up i j (by rw[zza];omega) (by rw[zza];omega) hij
 rw[List.getElem_map,List.getElem_map]at this
 rw[pN (by omega),pN hj]
 exact this
theorem BT{b:Bk}(bo:BkOk b)(up:(b.cells.map (·.1)).Pairwise fun x y=>ltI x y=true){x y m:Nat}{S1 S2:Nat->Nat->Int×Int}:∀n,n <= b.cells.length->((psH b x y m S1 S2 n).map (·.1)).Pairwise fun x y=>ltI x y=true
 |0,_=>by simp[psH]
 |n+1,h=>by
  rw[vA,zzo,zzh,List.pairwise_append]
  refine⟨BT bo up n (by omega),?_,fun p hp q hq=>?_⟩
  ·rw[List.pairwise_map]
   exact List.pairwise_lt_range.imp fun {i j} hij=>pM _ (by omega)
  ·obtain⟨p',hp',rfl⟩:=zzb.mp hp
   obtain⟨i,hi,k,_,rfl⟩:=psH_mem.mp hp'
   obtain⟨k',_,rfl⟩:=zzb.mp hq
   exact ze _ _ (by rw[(bo.it _ (dF (show i<b.cells.length by omega))).1,(bo.it _ (dF (show n<b.cells.length by omega))).1]) (tR up hi (by omega))
theorem tS{b:Bk}(bo:BkOk b){x y:Nat}(hxy:x≠y)(hx:x<b.m)(hy:y<b.m)(S1 S2:Nat->Nat->Int×Int){i:Nat}(hi:i<b.cells.length)(k:Nat){h:Nat}(hh:h<b.m) :
  at_ (rowH b x y S1 S2 i k) h=if h=y then S2 i k else if h=x then S1 i k else if k=0 then at_ (ba b i).2 h else(0,0):=by
 have l0:(if k=0 then(ba b i).2 else zR b.m).length=b.m:=by
  split
  ·exact(bo.it _ (dF hi)).2.1.1
  ·unfold zR;simp
 have e0:at_ (if k=0 then(ba b i).2 else zR b.m) h=if k=0 then at_ (ba b i).2 h else(0,0):=by
  split
  ·rfl
  ·unfold at_ zR
   rw[zzg,List.getElem?_replicate,if_pos hh]
   rfl
 unfold rowH
 generalize (if k=0 then(ba b i).2 else zR b.m)=r0 at l0 e0
 show ((r0.set x (S1 i k)).set y (S2 i k)).getD h (0,0)=_
 by_cases z1:h=y
 ·subst z1
  rw[if_pos rfl,zzg,zyH (by rw[zyJ,l0];exact hy)]
  rfl
 ·rw[if_neg z1,zzg,zzC (fun e=>z1 e.symm)]
  by_cases z2:h=x
  ·subst z2
   rw[if_pos rfl,zyH (by rw[l0];exact hx)]
   rfl
  ·rw[if_neg z2,zzC (fun e=>z2 e.symm),←zzg]
   exact e0
theorem mE{α:Type}(f g:α->Int):∀l:List α,(l.map fun a=>f a+g a).sum=(l.map f).sum+(l.map g).sum
 |[]=>rfl
 |a::l=>by
  rw[zze,zze,zze,zzB,zzB,zzB,mE f g l]
  omega
theorem pO(F G:Nat->Nat->Int){α:Type}(l:List α)(u v:α->Nat):sumP (l.map fun a=>entS F G (u a) (v a))=((l.map fun a=>F (u a) (v a)).sum+(l.map fun a=>G (u a) (v a)).sum,(l.map fun a=>F (u a) (v a)).sum):=by
 unfold sumP
 rw[zzh,zzh]
 exact Prod.ext (mE (fun a=>F (u a) (v a)) (fun a=>G (u a) (v a)) l) rfl
theorem zf(c:Int×Int)(m:Nat):sumP ((List.range (m+1)).map fun k=>if k=0 then c else(0,0))=c:=by
 have:∀m:Nat,(List.range (m+1)).map (fun k=>if k=0 then c else((0,0):Int×Int))=c::List.replicate m (0,0):=fun m=>by
  rw[zyX,zze,zzh,if_pos rfl]
  congr 1
  apply List.ext_getElem
  ·simp
  ·intro i h1 h2
   simp
 rw[this]
 unfold sumP
 simp
section
variable{b:Bk}{x y m:Int}{rows:List Prt}{F1 G1 F2 G2:Nat->Nat->Int}
theorem Gj(b:Bk)(x:Nat){i:Nat}(hi:i<b.cells.length):(b.cells.map fun c=>at_ c.2 x).getD i (0,0)=at_ (ba b i).2 x:=by
 unfold ba
 rw[zzg,zzg,zzn,zzm hi]
 rfl
theorem AR(o:HOk b x y m)(h:HidF b x.toNat y.toNat m rows F1 G1 F2 G2){i:Nat}(hi:i<b.cells.length):sums ((List.range m.toNat).map (rowH b x.toNat y.toNat (entS F1 G1) (entS F2 G2) i)) b.m=(ba b i).2:=by
 have bo:=o.bo
 have x0:=o.x0
 have x1:=o.x1
 have y0:=o.y0
 have y1:=o.y1
 have xy:x.toNat≠y.toNat:=fun z=>o.xy (by omega)
 have m2:=o.m2
 have rl:=h.pt.len
 have cl:=(bo.it _ (dF hi)).2.1.1
 have hi1:i<(b.cells.map fun c=>at_ c.2 x.toNat).length:=by rw[zza];exact hi
 have hi2:i<(b.cells.map fun c=>at_ c.2 y.toNat).length:=by rw[zza];exact hi
 have e:∀h',h'<b.m->sumP (col ((List.range m.toNat).map (rowH b x.toNat y.toNat (entS F1 G1) (entS F2 G2) i)) h')=at_ (ba b i).2 h':=fun h' hh=>by
  have ec:col ((List.range m.toNat).map (rowH b x.toNat y.toNat (entS F1 G1) (entS F2 G2) i)) h'=(List.range m.toNat).map fun k=>if h'=y.toNat then entS F2 G2 i k else if h'=x.toNat then entS F1 G1 i k else if k=0 then at_ (ba b i).2 h' else(0,0):=by
   unfold col
   rw[zzh]
   apply zzp
   intro k _
   exact tS bo xy (by omega) (by omega) _ _ hi k hh
  rw[ec]
  by_cases z1:h'=y.toNat
  ·simp only[if_pos z1]
   have w:=h.s2.w.row i hi2
   have j:=h.s2.i.row i hi2
   rw[zza,rl,Gj b y.toNat hi]at w j
   rw[pO F2 G2 (List.range m.toNat) (fun _=>i) (fun k=>k),z1]
   show (((List.range m.toNat).map (F2 i)).sum+((List.range m.toNat).map (G2 i)).sum,((List.range m.toNat).map (F2 i)).sum)=_
   rw[w,j]
   exact Prod.ext (by show _+_=_;omega) rfl
  ·simp only[if_neg z1]
   by_cases z2:h'=x.toNat
   ·simp only[if_pos z2]
    have w:=h.s1.w.row i hi1
    have j:=h.s1.i.row i hi1
    rw[zza,rl,Gj b x.toNat hi]at w j
    rw[pO F1 G1 (List.range m.toNat) (fun _=>i) (fun k=>k),z2]
    show (((List.range m.toNat).map (F1 i)).sum+((List.range m.toNat).map (G1 i)).sum,((List.range m.toNat).map (F1 i)).sum)=_
    rw[w,j]
    exact Prod.ext (by show _+_=_;omega) rfl
   ·simp only[if_neg z2]
    obtain⟨m',em⟩:∃m',m.toNat=m'+1:=⟨m.toNat - 1,by omega⟩
    rw[em]
    exact zf _ _
 unfold sums
 have e2:(List.range b.m).map (fun h'=>sumP (col ((List.range m.toNat).map (rowH b x.toNat y.toNat (entS F1 G1) (entS F2 G2) i)) h'))=(List.range b.m).map fun h'=>(ba b i).2.getD h' (0,0):=by
  apply zzp
  intro h' hh
  exact e h' (zzy.mp hh)
 rw[e2]
 have:=iS (0,0) (ba b i).2
 rw[cl]at this
 exact this
theorem AS(o:HOk b x y m)(h:HidF b x.toNat y.toNat m rows F1 G1 F2 G2){k:Nat}{r:Prt}(hk:rows[k]? = some r) :
  sumP (col ((List.range b.cells.length).map fun i=>rowH b x.toNat y.toNat (entS F1 G1) (entS F2 G2) i k) x.toNat)=r.1/\sumP (col ((List.range b.cells.length).map fun i=>rowH b x.toNat y.toNat (entS F1 G1) (entS F2 G2) i k) y.toNat)=r.2:=by
 have bo:=o.bo
 have x0:=o.x0
 have x1:=o.x1
 have y0:=o.y0
 have y1:=o.y1
 have xy:x.toNat≠y.toNat:=fun z=>o.xy (by omega)
 have kl:k<rows.length:=(zzt.mp hk).1
 have e1:(rows.map (·.1)).getD k (0,0)=r.1:=by rw[zzg,zzn,hk];rfl
 have e2:(rows.map (·.2)).getD k (0,0)=r.2:=by rw[zzg,zzn,hk];rfl
 have c1:col ((List.range b.cells.length).map fun i=>rowH b x.toNat y.toNat (entS F1 G1) (entS F2 G2) i k) x.toNat=(List.range b.cells.length).map fun i=>entS F1 G1 i k:=by
  unfold col
  rw[zzh]
  apply zzp
  intro i hi
  show at_ (rowH b x.toNat y.toNat (entS F1 G1) (entS F2 G2) i k) x.toNat=_
  rw[tS bo xy (by omega) (by omega) _ _ (zzy.mp hi) k (by omega),if_neg xy,if_pos rfl]
 have c2:col ((List.range b.cells.length).map fun i=>rowH b x.toNat y.toNat (entS F1 G1) (entS F2 G2) i k) y.toNat=(List.range b.cells.length).map fun i=>entS F2 G2 i k:=by
  unfold col
  rw[zzh]
  apply zzp
  intro i hi
  show at_ (rowH b x.toNat y.toNat (entS F1 G1) (entS F2 G2) i k) y.toNat=_
  rw[tS bo xy (by omega) (by omega) _ _ (zzy.mp hi) k (by omega),if_pos rfl]
 have w1:=h.s1.w.col k (by rw[zza];exact kl)
 have j1:=h.s1.i.col k (by rw[zza];exact kl)
 have w2:=h.s2.w.col k (by rw[zza];exact kl)
 have j2:=h.s2.i.col k (by rw[zza];exact kl)
 rw[zza,e1]at w1 j1
 rw[zza,e2]at w2 j2
 rw[c1,c2,pO F1 G1 _ (fun i=>i) (fun _=>k),pO F2 G2 _ (fun i=>i) (fun _=>k),w1,j1,w2,j2]
 exact⟨Prod.ext (by show _+_=_;omega) rfl,Prod.ext (by show _+_=_;omega) rfl⟩
end
def bp(ks:List Int):Int:=ks.getLast?.getD 0
theorem iU(ks:List Int)(k:Int):bp (ks++[k])=k:=by unfold bp;simp
theorem AT{α:Type}{l:List Nat}(nd:l.Nodup){i:Nat}(hi:i∈l){f:Nat->List α}(h:∀j∈l,j≠i->f j=[]):l.flatMap f=f i:=by
 induction l with
 |nil=>simp at hi
 |cons a l ih =>
  obtain⟨n1,n2⟩:=zzY.mp nd
  rw[List.flatMap_cons]
  by_cases z:a=i
  ·subst z
   have:l.flatMap f=[]:=by
    rw[List.flatMap_eq_nil_iff]
    intro j hj
    exact h j (zzc _ hj) fun e=>n1 (e ▸ hj)
   rw[this,zzM]
  ·rw[h a zzd z,List.nil_append]
   rcases zzi.mp hi with e|hi
   ·exact absurd e.symm z
   ·exact ih n2 hi fun j hj=>h j (zzc _ hj)
section
variable{b:Bk}{x y m:Int}{rows:List Prt}{F1 G1 F2 G2:Nat->Nat->Int}
abbrev hps(b:Bk)(x y m:Int)(F1 G1 F2 G2:Nat->Nat->Int):List (List Int×Row):=psH b x.toNat y.toNat m.toNat (entS F1 G1) (entS F2 G2) b.cells.length
abbrev fnd(b:Bk)(x y m:Int)(F1 G1 F2 G2:Nat->Nat->Int):List (List Int×Row):=(hps b x y m F1 G1 F2 G2).filter fun c=>dr c.2
theorem zg(o:HOk b x y m)(h:HidF b x.toNat y.toNat m rows F1 G1 F2 G2):∀p∈hps b x y m F1 G1 F2 G2,p.1.length=b.marks.length+1/\RowN 110 b.m p.2:=fun p hp=>by
 obtain⟨i,hi,k,hk,rfl⟩:=psH_mem.mp hp
 have rl:=h.pt.len
 refine⟨?_,tO o.bo o.x0 o.x1 o.y0 o.y1 h hi (by omega)⟩
 show ((ba b i).1++[_]).length=_
 rw[zzl,zzL,(o.bo.it _ (dF hi)).1]
theorem AU(o:HOk b x y m)(up:(b.cells.map (·.1)).Pairwise fun x y=>ltI x y=true)(h:HidF b x.toNat y.toNat m rows F1 G1 F2 G2):(hidB b x.toNat y.toNat m F1 G1 F2 G2).cells=fnd b x y m F1 G1 F2 G2:=by
 show gath b.m (hps b x y m F1 G1 F2 G2)=_
 unfold gath
 rw[jN (BT o.bo up _ (zzj _)) fun p hp=>(zg o h p hp).2.1]
theorem zh(o:HOk b x y m):(fnd b x y m F1 G1 F2 G2).length <= 60:=by
 refine zzk (zyc _ _) ?_
 rw[pL]
 exact zzk (Nat.mul_le_mul o.c9 (show m.toNat <= 6 by have:=o.m6;omega)) (by decide)
theorem oi{n mm:Nat}(ps:List (List Int×Row))(ho:∀p∈ps,RowN n mm p.2){h:Nat}(hh:h<mm):sumP (col ((ps.filter fun c=>dr c.2).map (·.2)) h)=sumP (col (ps.map (·.2)) h):=by
 have e:(ps.filter fun c=>dr c.2).map (·.2)=(ps.map (·.2)).filter dr:=by rw[zyL];rfl
 rw[e,←cI (n:=mm) hh,←cI (n:=mm) hh,oh fun r hr=>by obtain⟨p,hp,rfl⟩:=zzb.mp hr;exact ho p hp]
theorem zi(b:Bk)(x y mm:Nat)(S1 S2:Nat->Nat->Int×Int)(n:Nat){k:Nat}(hk:k<mm):(psH b x y mm S1 S2 n).filter (fun c=>decide (bp c.1=(k:Int)))=(List.range n).map fun i=>psI b x y S1 S2 i k:=by
 unfold psH
 rw[List.filter_flatMap]
 have:∀i,((List.range mm).map (psI b x y S1 S2 i)).filter (fun c=>decide (bp c.1=(k:Int)))=[psI b x y S1 S2 i k]:=fun i=>by
  rw[zyL]
  have e:((List.range mm).filter ((fun c=>decide (bp c.1=(k:Int))) ∘ psI b x y S1 S2 i))=(List.range mm).filter fun j=>decide (j=k):=by
   apply zyh
   intro j _
   show decide (bp ((ba b i).1++[(j:Int)])=(k:Int))=_
   rw[iU]
   by_cases z:j=k
   ·simp[z]
   ·rw[decide_eq_false (by omega),decide_eq_false z]
  rw[e]
  have:(List.range mm).filter (fun j=>decide (j=k))=[k]:=by
   have nd:=List.nodup_range (n:=mm)
   have hm:k∈List.range mm:=zzy.mpr hk
   generalize List.range mm=l at nd hm
   induction l with
   |nil=>simp at hm
   |cons a l ih =>
    obtain⟨n1,n2⟩:=zzY.mp nd
    rcases zzi.mp hm with rfl|hm
    ·rw[zyq (by simp),zyZ.mpr]
     intro j hj z
     have z:j=k:=by simpa using z
     exact n1 (z ▸ hj)
    ·rw[zyr,ih n2 hm]
     intro z
     have z:a=k:=by simpa using z
     exact n1 (z ▸ hm)
  rw[this]
  rfl
 rw[show (fun a=>((List.range mm).map (psI b x y S1 S2 a)).filter (fun c=>decide (bp c.1=(k:Int))))=fun a=>[psI b x y S1 S2 a k] from funext this,←List.map_eq_flatMap]
theorem vC(o:HOk b x y m)(h:HidF b x.toNat y.toNat m rows F1 G1 F2 G2){k:Nat}{r:Prt}(hk:rows[k]? = some r) :
  sumP (col (((fnd b x y m F1 G1 F2 G2).filter fun c=>decide (bp c.1=(k:Int))).map (·.2)) x.toNat)=r.1/\sumP (col (((fnd b x y m F1 G1 F2 G2).filter fun c=>decide (bp c.1=(k:Int))).map (·.2)) y.toNat)=r.2:=by
 have rl:=h.pt.len
 have kl:k<m.toNat:=by rw[←rl];exact(zzt.mp hk).1
 have e:(fnd b x y m F1 G1 F2 G2).filter (fun c=>decide (bp c.1=(k:Int)))=((hps b x y m F1 G1 F2 G2).filter fun c=>decide (bp c.1=(k:Int))).filter fun c=>dr c.2:=by
  unfold fnd
  rw[zyp,zyp]
  apply zyh
  intro c _
  exact Bool.and_comm _ _
 have ok:∀p∈(hps b x y m F1 G1 F2 G2).filter (fun c=>decide (bp c.1=(k:Int))),RowN 110 b.m p.2:=fun p hp=>(zg o h p (zzv.mp hp).1).2
 have x0:=o.x0
 have x1:=o.x1
 have y0:=o.y0
 have y1:=o.y1
 rw[e,oi _ ok (h:=x.toNat) (by omega),oi _ ok (h:=y.toNat) (by omega),zi _ _ _ _ _ _ _ kl,zzh]
 exact AS o h hk
theorem eR(o:HOk b x y m)(up:(b.cells.map (·.1)).Pairwise fun x y=>ltI x y=true)(h:HidF b x.toNat y.toNat m rows F1 G1 F2 G2):az b.m ((fnd b x y m F1 G1 F2 G2).map fun c=>(c.1.dropLast,c.2))=b.cells:=by
 have bo:=o.bo
 have rl:=h.pt.len
 have dl:∀i k,(psI b x.toNat y.toNat (entS F1 G1) (entS F2 G2) i k).1.dropLast=(ba b i).1:=fun i k=>by
  show ((ba b i).1++[_]).dropLast=_
  simp
 have inj:∀i j,i<b.cells.length->j<b.cells.length->(ba b i).1=(ba b j).1->i=j:=fun i j hi hj e=>by
  rcases Nat.lt_trichotomy i j with z|z|z
  ·have:=tR up z hj
   rw[e,jH]at this
   cases this
  ·exact z
  ·have:=tR up z hi
   rw[e,jH]at this
   cases this
 have fl:∀i,i<b.cells.length->(hps b x y m F1 G1 F2 G2).filter (fun c=>decide (c.1.dropLast=(ba b i).1))=(List.range m.toNat).map (psI b x.toNat y.toNat (entS F1 G1) (entS F2 G2) i):=fun i hi=>by
  unfold hps psH
  rw[List.filter_flatMap,AT (i:=i) List.nodup_range (zzy.mpr hi)]
  ·rw[List.filter_eq_self]
   intro c hc
   obtain⟨k,_,rfl⟩:=zzb.mp hc
   exact decide_eq_true (dl i k)
  ·intro j hj hne
   rw[zyZ]
   intro c hc z
   obtain⟨k,_,rfl⟩:=zzb.mp hc
   have z:(psI b x.toNat y.toNat (entS F1 G1) (entS F2 G2) j k).1.dropLast=(ba b i).1:=by simpa using z
   rw[dl]at z
   exact hne (inj j i (zzy.mp hj) hi z)
 have sm:∀i,i<b.cells.length->sums ((((fnd b x y m F1 G1 F2 G2).map fun c=>(c.1.dropLast,c.2)).filter fun p=>decide (p.1=(ba b i).1)).map (·.2)) b.m=(ba b i).2:=fun i hi=>by
  have e:(((fnd b x y m F1 G1 F2 G2).map fun c=>(c.1.dropLast,c.2)).filter fun p=>decide (p.1=(ba b i).1)).map (·.2)=(((hps b x y m F1 G1 F2 G2).filter fun c=>decide (c.1.dropLast=(ba b i).1)).map (·.2)).filter dr:=by
   rw[zyL,zzh,zyL]
   unfold fnd
   rw[zyp,zyp]
   congr 1
   apply zyh
   intro c _
   exact Bool.and_comm _ _
  rw[e,fl i hi,zzh]
  rw[oh (n:=110) fun r hr=>?_]
  ·exact AR o h hi
  ·obtain⟨k,hk,rfl⟩:=zzb.mp hr
   exact tO bo o.x0 o.x1 o.y0 o.y1 h hi (by have:=zzy.mp hk;omega)
 have ps:az b.m b.cells=b.cells:=jN up fun c hc=>(bo.it c hc).2.1.1
 conv=>rhs;rw[←ps]
 apply gi
 ·intro k
  constructor
  ·intro hk
   obtain⟨p,hp,rfl⟩:=zzb.mp hk
   obtain⟨c,hc,rfl⟩:=zzb.mp hp
   obtain⟨i,hi,k,hk,rfl⟩:=psH_mem.mp (zzv.mp hc).1
   exact zzb.mpr ⟨ba b i,dF hi,(dl i k).symm⟩
  ·intro hk
   obtain⟨c,hc,rfl⟩:=zzb.mp hk
   obtain⟨i,hi,ei⟩:=List.getElem_of_mem hc
   have ec:ba b i=c:=by rw[pN hi,ei]
   by_cases z:c.1∈((fnd b x y m F1 G1 F2 G2).map fun c=>(c.1.dropLast,c.2)).map (·.1)
   ·exact z
   ·exfalso
    have s:=sm i hi
    rw[ec]at s
    have e0:((fnd b x y m F1 G1 F2 G2).map fun c=>(c.1.dropLast,c.2)).filter (fun p=>decide (p.1=c.1))=[]:=by
     rw[zyZ]
     intro p hp w
     exact z (zzb.mpr ⟨p,hp,by simpa using w⟩)
    rw[e0]at s
    obtain⟨c',hc',pos⟩:=(bo.it c hc).2.2
    rw[←s]at hc'
    obtain⟨h',_,rfl⟩:=zzb.mp hc'
    exact absurd (show (0:Int)<0 from pos) (by decide)
 ·intro k hk
  obtain⟨p,hp,rfl⟩:=zzb.mp hk
  obtain⟨c,hc,rfl⟩:=zzb.mp hp
  obtain⟨i,hi,k,_,rfl⟩:=psH_mem.mp (zzv.mp hc).1
  show sums ((((fnd b x y m F1 G1 F2 G2).map fun c=>(c.1.dropLast,c.2)).filter fun p=>decide (p.1=(psI b x.toNat y.toNat (entS F1 G1) (entS F2 G2) i k).1.dropLast)).map (·.2)) b.m=sums ((b.cells.filter fun p=>decide (p.1=(psI b x.toNat y.toNat (entS F1 G1) (entS F2 G2) i k).1.dropLast)).map (·.2)) b.m
  rw[dl,sm i hi,og (AQ up) (dF hi),zyV,sum1 (bo.it _ (dF hi)).2.1.1]
end
theorem cutL(xs:List D)(h:Nat)(hh:h <= xs.length):cutD xs none (some (h:Int))=xs.take h:=by
 have e1:HT.sIx xs.length 0 none=0:=rfl
 have e2:HT.sIx xs.length xs.length (some (h:Int))=h:=by
  rw[HT.sIx_nat]
  omega
 unfold cutD
 rw[e1,e2,List.drop_zero,Nat.sub_zero]
theorem cutR(xs:List D)(h:Nat)(hh:h <= xs.length):cutD xs (some (h:Int)) none=xs.drop h:=by
 have e1:HT.sIx xs.length 0 (some (h:Int))=h:=by
  rw[HT.sIx_nat]
  omega
 have e2:HT.sIx xs.length xs.length none=xs.length:=rfl
 unfold cutD
 rw[e1,e2]
 apply zyY
 rw[List.length_drop]
 exact zzj _
theorem rT(xs:List D){i:Nat}(hi:i<xs.length):cutD xs none (some (i:Int))++cutD xs (some ((i:Int)+1)) none=xs.eraseIdx i:=by
 rw[cutL xs i (by omega),show (some ((i:Int)+1))=some (((i+1:Nat)):Int) from rfl,cutR xs (i+1) (by omega),List.eraseIdx_eq_take_drop_succ]
theorem rV{α β:Type}(f:α->β):∀(xs:List α) (i:Nat),(xs.map f).eraseIdx i=(xs.eraseIdx i).map f
 |[],_=>rfl
 |x::xs,0=>rfl
 |x::xs,i+1=>by
  rw[zze,List.eraseIdx_cons_succ,List.eraseIdx_cons_succ,zze,rV f xs i]
def gWo:DSp:=fun ds Q=>∃(ks:List Int) (i:Nat),ds=[aw ks,.int i]/\i<ks.length/\ks.length <= 100/\Q (aw (ks.eraseIdx i))
theorem rW:bj gWo:=fun ds P P' f ⟨ks,i,a,b,c,h⟩=>⟨ks,i,a,b,c,f _ h⟩
theorem zj{xs:List D}{i:Nat}(hi:i<xs.length)(hl:xs.length <= 100):(cutD xs none (some (i:Int))).length+(cutD xs (some ((i:Int)+1)) none).length <= sizeLine:=by
 have:=congrArg List.length (rT xs hi)
 rw[zzl,List.length_eraseIdx]at this
 rw[this]
 exact zzk (show (if i<xs.length then xs.length - 1 else xs.length) <= 100 by split<;>omega) (by decide)
theorem rX(T:Tx K mg):FnOk P w K mg base CX0 1 T.mU T.jO ["things","place"] (spD K 2 gWo):=by
 refine fnD (k:=0) T.cN.F wu (fun cdv A outer s H E hr=>(ai (aE (bu lS (Bt (ac 0 (pv 0)) sL (oM (ac 1 (pv 1)))) (Bt (ac 0 (pv 0)) (oM (bu dh (ac 1 (pv 1)) ae)) sL))))) (fun ds Q hl h=>?_)
 obtain⟨ks,i,rfl,hi,hl,h⟩:=h
 have hi':i<(ks.map D.int).length:=by rw[zza];exact hi
 refine⟨zj hi' (by rw[zza];exact hl),?_⟩
 rw[rT _ hi',rV]
 exact h
def gy(i:Nat)(k:Int)(cs:List (List Int×Row)):List (List Int×Row):=(cs.filter fun c=>decide (c.1.getD i 0=k)).map fun c=>(c.1.eraseIdx i,c.2)
structure BkW(b:Bk):Prop where
 mk5:b.marks.length <= 5
 c60:b.cells.length <= 60
 it:∀c∈b.cells,c.1.length=b.marks.length
def gWi:DSp:=fun ds Q=>∃(b:Bk) (i:Nat) (m k:Int),ds=[aG b,.int i,.int k]/\BkW b/\b.marks[i]? = some m/\(0 <= k/\k<m)/\Q (aG ⟨b.m,b.marks.eraseIdx i,gy i k b.cells⟩)
theorem vD:bj gWi:=fun ds P P' f ⟨b,i,m,k,a,c,d,e,h⟩=>⟨b,i,m,k,a,c,d,e,f _ h⟩
theorem vE(T:Tx K mg):FnOk P w K mg base CX0 4 T.pX T.mL ["book","mark","kind"] (spD K 3 gWi):=by
 refine fnD (k:=3) T.dL.F sc_within (fun cdv A outer s H E hr=>(aj (fj (ag (kr T) kq (rm hr) rfl T.bv.m T.bv.F.kp T.bv.b (aa (ac 0 (pv 0)) (aa (ac 1 (pv 1)) ad))))
   (aj (cG (nE (lD (ag (dq T) dm (rm hr) rfl T.aD.m T.aD.F.kp T.aD.b (aa (ac 2 (pv 2)) (aa ae (aa (bu fq (ar (ar (ac 0 (pv 0)) ae (fun _ _=>rfl)) (ac 1 (pv 1)) (fun _ _=>rfl)) ae) ad)))))) (ai cK) aQ)
   (aj (sN (i:=3) sc_within.nd rfl rfl (aA (N':=["cell","mark","kind"]) rfl rfl dk rfl (.own (.cap (j:=1) rfl oo rfl (.cap (j:=2) rfl oo rfl .nil))) dk (ee (ar (ac 0 (pv 0)) ae (fun _ _=>rfl))) (fun B=>(ao (i:=0) ndB rfl oo)) (fun B=>(jm (aN (eL hr) (ar (ar (ac 0 (pv 0)) ae (fun _ _=>rfl)) (ac 1 (pv 1)) (fun _ _=>rfl)) (ac 2 (pv 2)) (aB _)))) (fun B=>(aS (aa (ag (rX T) rW (rm hr) rfl T.cN.m T.cN.F.kp T.cN.b (aa (ar (ac 0 (pv 0)) ae (fun _ _=>rfl)) (aa (ac 1 (pv 1)) ad))) (aa (ar (ac 0 (pv 0)) ae (fun _ _=>rfl)) ad))))))
   (ai (aE (aS (aa (ar (ac 0 (pv 0)) ae (fun _ _=>rfl)) (aa (ag (rX T) rW (rm hr) rfl T.cN.m T.cN.F.kp T.cN.b (aa (ar (ac 0 (pv 0)) ae (fun _ _=>rfl)) (aa (ac 1 (pv 1)) ad))) (aa (aO bH rfl T.bS rfl (aa (ac 3 (pv 3)) ad)) ad)))))))))) (fun ds Q hl h=>?_)
 obtain⟨b,i,m,k,rfl,bo,hm,⟨k0,k1⟩,h⟩:=h
 have hi:i<b.marks.length:=(zzt.mp hm).1
 have mk5:=bo.mk5
 have c60:=bo.c60
 refine⟨rfl,b,i,rfl,⟨by omega,by omega⟩,mk5,?_⟩
 refine eh (d:=.int m) (by omega) (by rw[zzP,zzn,hm];rfl) ⟨rfl,⟨k0,by omega⟩,Br.f ?_⟩
 refine bb (fun pre acc ρ=>∃c0 c1,b.cells=c0++c1/\pre=c0.map aX/\acc=(gy i k c0).map aX/\∃s,ρ=[s,.val (.int i),.val (.int k)]) (fun acc ρ hN=>?_) (fun pre d post acc ρ Y e hN hY=>?_) _ ⟨[],b.cells,rfl,rfl,rfl,_,rfl⟩
 ·obtain⟨c0,c1,e1,e2,rfl,s,rfl⟩:=hN
  have:c1=[]:=by
   have:=congrArg List.length e2
   rw[e1]at this
   simp at this
   exact this
  subst this
  rw[zzM]at e1
  subst e1
  exact⟨rfl,b.marks,i,rfl,hi,by omega,sz,h⟩
 ·obtain⟨c0,c1,e1,rfl,rfl,s,rfl⟩:=hN
  rw[e1,zzo]at e
  have e:=zzO e
  cases c1 with
  |nil=>simp at e
  |cons c c1 =>
   rw[zze]at e
   injection e with e3 e4
   subst e3
   have cl:=bo.it c (by rw[e1];simp)
   have ci:c.1[i]? = some (c.1.getD i 0):=by
    rw[zzg,zzm (by omega)]
    rfl
   have snoc:gy i k (c0++[c])=gy i k c0++(if c.1.getD i 0=k then[(c.1.eraseIdx i,c.2)] else[]):=by
    unfold gy
    rw[zyo,zzo,List.filter_cons]
    by_cases z:c.1.getD i 0=k
    ·rw[if_pos (decide_eq_true z),if_pos z];rfl
    ·rw[if_neg (by rw[decide_eq_true_eq];exact z),if_neg z];rfl
   have wl:(gy i k c0).length <= 60:=by
    unfold gy
    rw[zza]
    have:=zyc (fun c:List Int×Row=>decide (c.1.getD i 0=k)) c0
    rw[e1,zzl]at c60
    omega
   refine eh (d:=.int (c.1.getD i 0)) (by omega) (by rw[zzP,zzn,ci];rfl) ⟨⟨rfl,rfl⟩,fun z=>?_,fun z=>?_⟩
   ·have z:c.1.getD i 0=k:=by simpa[bB]using z
    rw[if_pos z]at snoc
    refine⟨rfl,c.1,i,rfl,by omega,by omega,sz,?_,hY _ _ ⟨c0++[c],c1,by rw[e1];simp,by simp,by rw[snoc,zzo];rfl,_,rfl⟩⟩
    rw[zza]
    exact zzD wl (by decide)
   ·have z:c.1.getD i 0≠k:=by simpa[bB]using z
    rw[if_neg z,zzM]at snoc
    exact hY _ _ ⟨c0++[c],c1,by rw[e1];simp,by simp,by rw[snoc],_,rfl⟩
structure BkG(n:Nat)(ms:List Int)(l:Nat)(cs:List (List Int×Row)):Prop where
 m6:n <= 6
 mk5:ms.length <= 5
 len:cs.length <= l
 it:∀c∈cs,c.1.length=ms.length/\RowN 110 n c.2
theorem mF(ls:List Int):shp (aw ls)=true:=Shp.shp (n:=2) (.tup fun d hd=>by
 obtain⟨k,_,rfl⟩:=zzb.mp hd
 exact .int)
def gBes:DSp:=fun ds Q=>∃(n:Nat) (ms:List Int) (c1 c2:List (List Int×Row)),ds=[aG ⟨n,ms,c1⟩,aG ⟨n,ms,c2⟩]/\BkG n ms 60 (c1++c2)/\Q (aG ⟨n,ms,gath n (c1++c2)⟩)
theorem AV:bj gBes:=fun ds P P' f ⟨n,ms,c1,c2,a,b,h⟩=>⟨n,ms,c1,c2,a,b,f _ h⟩
theorem AW(T:Tx K mg):FnOk P w K mg base CX0 4 T.pZ T.mQ ["one","other"] (spD K 2 gBes):=by
 refine fnD (k:=3) T.jc.F yC (fun cdv A outer s H E hr=>(aj (cG (PWD.pt (sE (aN (kB hr) (ar (ac 0 (pv 0)) ae (fun _ _=>rfl)) (ar (ac 1 (pv 1)) ae (fun _ _=>rfl)) (aB _)) (lE (aN (kB hr) (ar (ac 0 (pv 0)) ae (fun _ _=>rfl)) (ar (ac 1 (pv 1)) ae (fun _ _=>rfl)) (aB _))))) (ai cK) aQ)
   (ai (aE (aS (aa (ar (ac 0 (pv 0)) ae (fun _ _=>rfl)) (aa (ar (ac 0 (pv 0)) ae (fun _ _=>rfl)) (aa (aO bH rfl T.bS rfl (aa (ag (nY T) nX (rm hr) rfl T.br.m T.br.F.kp T.br.b (aa (ar (ac 0 (pv 0)) ae (fun _ _=>rfl)) (aa (bu lS (ar (ac 0 (pv 0)) ae (fun _ _=>rfl)) (ar (ac 1 (pv 1)) ae (fun _ _=>rfl))) ad))) ad)) ad)))))))) (fun ds Q hl h=>?_)
 obtain⟨n,ms,c1,c2,rfl,g,h⟩:=h
 refine⟨⟨rfl,rfl⟩,pE (d:=.int n) rfl ⟨⟨mF ms,mF ms⟩,pE (mF ms) ?_⟩⟩
 have gl:=g.len
 have e:c1.map aX++c2.map aX=(c1++c2).map aX:=by rw[zzo]
 have fin:Dx [.int n,.tup (c1.map aX++c2.map aX)] (fun d=>qH [d] fun d=>([D.int n,aw ms,d].length <= sizeLine/\Q (.tup [.int n,aw ms,d]))):=by
  rw[e]
  exact⟨n,c1++c2,ms.length,rfl,rfl,⟨g.m6,gl,g.it⟩,sz,h⟩
 refine⟨?_,rfl,fin⟩
 rw[zzl]at gl
 show (c1.map aX).length+(c2.map aX).length <= sizeLine
 rw[zza,zza]
 exact zzk gl (by decide)
theorem pP(ms:List Int):Shp 2 (aw ms):=.tup fun d hd=>by
 obtain⟨k,_,rfl⟩:=zzb.mp hd
 exact .int
abbrev embQ(c:List Int×Row):List Key×List D:=(kI c.1,c.2.map aI)
theorem vF{al:List (List Int×Row)}:∀(kds:List (List Key×List D)),(∀p∈kds,p∈al.map embQ)->∃cl:List (List Int×Row),(∀c∈cl,c∈al)/\kds=cl.map embQ
 |[],_=>⟨[],fun c hc=>by simp at hc,rfl⟩
 |p::kds,h=>by
  obtain⟨cl,h1,h2⟩:=vF kds fun q hq=>h q (zzc _ hq)
  obtain⟨c,hc,e⟩:=zzb.mp (h p zzd)
  refine⟨c::cl,fun d hd=>?_,by rw[zze,e,h2]⟩
  rcases zzi.mp hd with rfl|hd
  ·exact hc
  ·exact h1 d hd
theorem vG{n m:Nat}{rows:List Row}(ho:∀r∈rows,RowN n m r){h:Nat}(hh:h<m){r:Row}(hr:r∈rows):(at_ r h).1 - (at_ r h).2 <= (sumP (col rows h)).1 - (sumP (col rows h)).2/\(at_ r h).2 <= (sumP (col rows h)).2:=by
 have key:∀l:List Row,(∀r∈l,RowN n m r)->0 <= ((col l h).map (·.2)).sum/\0 <= ((col l h).map (·.1)).sum - ((col l h).map (·.2)).sum/\(r∈l->(at_ r h).1 - (at_ r h).2 <= ((col l h).map (·.1)).sum - ((col l h).map (·.2)).sum/\(at_ r h).2 <= ((col l h).map (·.2)).sum):=by
  intro l
  induction l with
  |nil=>intro _;exact⟨zyn _,zyn _,fun h=>by simp at h⟩
  |cons d l ih =>
   intro hl
   have i:=ih fun x hx=>hl x (zzc _ hx)
   have dc:=(bI (hl d zzd) hh).2
   have d0:=dc.lo
   have d1:=dc.hi
   show 0 <= ((at_ d h::col l h).map (·.2)).sum/\0 <= ((at_ d h::col l h).map (·.1)).sum - ((at_ d h::col l h).map (·.2)).sum/\(r∈d::l->(at_ r h).1 - (at_ r h).2 <= ((at_ d h::col l h).map (·.1)).sum - ((at_ d h::col l h).map (·.2)).sum/\(at_ r h).2 <= ((at_ d h::col l h).map (·.2)).sum)
   rw[zze,zzB,zze,zzB]
   obtain⟨i1,i2,i3⟩:=i
   refine⟨by omega,by omega,fun hm=>?_⟩
   rcases zzi.mp hm with rfl|hm
   ·omega
   ·have:=i3 hm
    omega
 exact(key rows ho).2.2 hr
theorem mG{r:Row}{i:Nat}(h:i<r.length)(c:Int×Int):at_ (r.set i c) i=c:=by
 unfold at_
 rw[zzg,zyH h]
 rfl
theorem zk{r:Row}{i j:Nat}(h:i≠j)(c:Int×Int):at_ (r.set i c) j=at_ r j:=by
 unfold at_
 rw[zzg,zzg,zzC h]
def Gk:DSp:=fun ds Q=>∃(b:Bk) (x y:Int),ds=[aG b,.int x,.int y]/\BkOk b/\BkK b/\BkS b 4/\AbOk b.m x y/\∀b':Bk,BkOk b'->BkK b'->b'.m=b.m->b'.marks=b.marks->b'.cells.length <= 10->((b'.cells.map (·.1)).Pairwise fun x y=>ltI x y=true)->7 <= (whB b' x.toNat).1 - (whB b' x.toNat).2->7 <= (whB b' y.toNat).2->Q (aG b')
theorem tT:bj Gk:=fun ds P P' f ⟨b,x,y,a,o,k,s,ab,h⟩=>⟨b,x,y,a,o,k,s,ab,fun b' h1 h2 h3 h4 h5 h6 h7 h8=>f _ (h b' h1 h2 h3 h4 h5 h6 h7 h8)⟩
theorem tU(T:Tx K mg):FnOk P w K mg base CX0 1 T.ie T.gb ["_law_book_here","_law_a","_law_b"] (spD K 3 Gk):=by
 refine fnD (k:=0) T.dv.F sc__law_more (fun cdv A outer s H E hr=>(aj (aC (i:=3) sc__law_more.nd rfl oo (aO bH rfl T.bS rfl (aa (aF (PCD.pld (aA (N':=["_law_mark"]) rfl rfl dk rfl (.own .nil) dk (ee (ar (ac 0 (pv 0)) ae (fun _ _=>rfl))) (fun B=>(ao (i:=0) ndB rfl oo)) (fun B=>aL) (fun B=>ae)))) ad)))
   (aH (aC (i:=4) sc__law_more.nd rfl oo (Di hr (Au hr rfl rfl T.BW (ar (ac 0 (pv 0)) ae (fun _ _=>rfl))) (ac 3 (pv 3)) (bu CT (aS (aa (aS (aa ae (aa ae ad))) ad)) (ar (ac 0 (pv 0)) ae (fun _ _=>rfl)))))
   (aj (lF (i:=5) sc__law_more.nd rfl oo (sJ rfl T.rZ rfl (ac 4 (pv 4))))
   (aH (lL (aS (aa (bu dh (ar (uE (pv 5) (ac 1 (pv 1)) (fun _ _=>rfl)) ae (fun _ _=>rfl)) ae) (aa (ar (uE (pv 5) (ac 1 (pv 1)) (fun _ _=>rfl)) ae (fun _ _=>rfl)) ad))) (uC (pv 5) (ac 1 (pv 1))))
   (aH (lL (aS (aa (bu dh (ar (uE (pv 5) (ac 2 (pv 2)) (fun _ _=>rfl)) ae (fun _ _=>rfl)) ae) (aa (bu dh (ar (uE (pv 5) (ac 2 (pv 2)) (fun _ _=>rfl)) ae (fun _ _=>rfl)) ae) ad))) (uC (pv 5) (ac 2 (pv 2))))
   (aH (aC (i:=6) sc__law_more.nd rfl oo (aF (xN (aF (PCD.pld (aA (N':=["_law_cell","_law_kinds"]) rfl rfl dk rfl (.own (.cap (j:=3) rfl oo rfl .nil)) dk (ee (ar (ac 0 (pv 0)) ae (fun _ _=>rfl))) (fun B=>(ao (i:=0) ndB rfl oo)) (fun B=>(jm (aN (kB hr) (ar (ac 0 (pv 0)) ae (fun _ _=>rfl)) (ac 1 (pv 1)) (aB _)))) (fun B=>(ac 0 (pv 0)))))) (aF (dE (aa (aS (aa (ac 3 (pv 3)) (aa (aO bH rfl T.bS rfl (aa (ac 5 (pv 5)) ad)) ad))) ad))))))
   (ai (aE (aS (aa (ar (ac 0 (pv 0)) ae (fun _ _=>rfl)) (aa (ar (ac 0 (pv 0)) ae (fun _ _=>rfl)) (aa (aO bH rfl T.bS rfl (aa (aM (Av hr) rfl T.kX dk (aa (ac 6 (pv 6)) ad)) ad)) ad))))))))))))) (fun ds Q hl h=>?_)
 obtain⟨b,x,y,rfl,bo,bk,bs,ab,h⟩:=h
 have mk5:=bo.mk5
 refine pK (l:=b.marks) D.int (fun _=>.int 0) (fun ρ=>∃s,ρ=[s]) (by omega) (fun k hk ρ Y Z hN hY=>?_) _ ⟨_,rfl⟩ ?_
 ·obtain⟨s,rfl⟩:=hN
  exact Br.t (hY _ ⟨_,rfl⟩)
 obtain⟨zs,hzs⟩:∃zs:List Int,zs=b.marks.map fun _=>0:=⟨_,rfl⟩
 have ez:b.marks.map (fun _=>D.int 0)=zs.map D.int:=by rw[hzs,zzh];rfl
 rw[ez]
 have et:b.cells.map aX=(embB b.cells).map fun p=>.tup [keyD p.1,p.2]:=by
  unfold embB
  rw[zzh]
  apply zzp
  intro c _
  show D.tup [aw c.1,rowD c.2]=D.tup [keyD (kI c.1),rowD c.2]
  rw[dS]
 have ek:(embB b.cells).map (·.1)=(b.cells.map (·.1)).map kI:=by unfold embB;rw[zzh,zzh];rfl
 have ndk:((embB b.cells).map (·.1)).Nodup:=by
  rw[ek]
  exact List.Pairwise.map _ (fun a b h z=>h (ko z)) (AQ bs.up)
 have c9:=bs.c9
 have m2:=bo.m2
 have m6:=bo.m6
 refine⟨fun ρ=>∃r:Row,RowN 100 b.m r/\(((zs,r)∈b.cells)∨(zs∉b.cells.map (·.1)/\r=zR b.m))/\ρ=[.val (aG b),.val (.int x),.val (.int y),.val (aw zs),.val (rowD r),.nil,.nil],?_,?_⟩
 ·refine⟨embB b.cells,by rw[←et],ndk,by unfold embB;rw[zza];omega,trivial,?_⟩
  refine⟨sz,sz,⟨by simp,by omega,by omega,by show 1*b.m <= 1000000;omega⟩,embB b.cells,kI zs,rfl,dS zs,?_⟩
  by_cases hz:zs∈b.cells.map (·.1)
  ·obtain⟨p,hp,e,hf⟩:=BS hz
   refine⟨p.2,bs.sm p hp,.inl (by rw[←e];exact hp),?_⟩
   rw[hf]
   rfl
  ·have hn:gt (embB b.cells) (kI zs)=none:=by
    unfold gt
    have:(embB b.cells).find? (fun p=>decide (p.1=kI zs))=none:=by
     rw[List.find?_eq_none]
     intro q hq z
     have z:q.1=kI zs:=by simpa using z
     have:kI zs∈(embB b.cells).map (·.1):=zzb.mpr ⟨q,hq,z⟩
     rw[ek]at this
     obtain⟨k,hk,e⟩:=zzb.mp this
     exact hz (by rw[←ko e];exact hk)
    rw[this]
    rfl
   refine⟨zR b.m,⟨by unfold zR;simp,fun c hc=>?_⟩,.inr ⟨hz,rfl⟩,?_⟩
   ·unfold zR at hc
    rw[(List.mem_replicate.mp hc).2]
    exact kj (by decide) (by decide) (by show (0:Int).natAbs<2^100;decide)
   ·rw[hn]
    have e:(List.replicate b.m [D.tup [.int 0,.int 0]]).flatten=(zR b.m).map aI:=by
     unfold zR
     rw[List.map_replicate,List.flatten_replicate_singleton]
     rfl
    show _=[Sl.val (aG b),.val (.int x),.val (.int y),.val (aw zs),.val (.tup ((zR b.m).map aI)),.nil,.nil]
    rw[←e]
    rfl
 ·rintro _ ⟨r,ro,rc,rfl⟩
  obtain⟨r1,hr1⟩:∃r1,r1=r.set x.toNat ((at_ r x.toNat).1+7,(at_ r x.toNat).2):=⟨_,rfl⟩
  have a0:=ab.a0
  have a1:=ab.a1
  have b0:=ab.b0
  have b1:=ab.b1
  refine⟨fun ρ=>ρ=[.val (aG b),.val (.int x),.val (.int y),.val (aw zs),.val (rowD r),.own (r1.map aI),.nil],?_,?_⟩
  ·refine⟨trivial,km ro a0 a1 ⟨trivial,km ro a0 a1 ⟨sz,trivial,x.toNat,uD a0 (by rw[zza,ro.1];omega),?_⟩⟩⟩
   rw[hr1,List.map_set]
   rfl
  ·rintro _ rfl
   have c0:=(bI ro (h:=x.toNat) (by omega)).2
   have ro1:RowN 105 b.m r1:=by
    refine⟨by rw[hr1,zyJ];exact ro.1,fun c hc=>?_⟩
    rw[hr1]at hc
    rcases zyO hc with hc|rfl
    ·exact(ro.2 c hc).mono (by decide)
    ·have c1:=c0.lo
     have c2:=c0.hi
     have c3:(at_ r x.toNat).1.natAbs<2^100:=c0.bt
     exact kj c1 (by show (at_ r x.toNat).2 <= (at_ r x.toNat).1+7;omega) (by show ((at_ r x.toNat).1+7).natAbs<2^105;omega)
   obtain⟨r2,hr2⟩:∃r2,r2=r1.set y.toNat ((at_ r1 y.toNat).1+7,(at_ r1 y.toNat).2+7):=⟨_,rfl⟩
   refine⟨fun ρ=>ρ=[.val (aG b),.val (.int x),.val (.int y),.val (aw zs),.val (rowD r),.own (r2.map aI),.nil],?_,?_⟩
   ·refine⟨trivial,km ro1 b0 b1 ⟨trivial,km ro1 b0 b1 ⟨sz,trivial,y.toNat,uD b0 (by rw[zza,ro1.1];omega),?_⟩⟩⟩
    rw[hr2,List.map_set]
    rfl
   ·rintro _ rfl
    obtain⟨cs,hcs⟩:∃cs,cs=b.cells.filter fun c=>!decide (c.1=zs):=⟨_,rfl⟩
    refine⟨fun ρ=>ρ=[.val (aG b),.val (.int x),.val (.int y),.val (aw zs),.val (rowD r),.val (.lst (r2.map aI)),.val (.lst ((cs++[(zs,r2)]).map aX))],?_,?_⟩
    ·have cl:cs.length <= 9:=by rw[hcs];exact zzk (zyc _ _) c9
     refine vm (l:=b.cells) aX aX (fun c=>!decide (c.1=zs)) (fun ρ=>∃s,ρ=[s,.val (aw zs)]) (by omega) (fun c hc ρ Y Z hN hY hZ=>?_) _ ⟨_,rfl⟩ ?_
     ·obtain⟨s,rfl⟩:=hN
      refine⟨⟨(pP _).shp,(pP _).shp⟩,?_⟩
      show Br (!eqD (aw c.1) (aw zs)) _ _
      rw[pI]
      exact⟨fun z=>hY z _ ⟨_,rfl⟩,fun z=>hZ z _ ⟨_,rfl⟩⟩
     ·rw[←hcs]
      refine⟨sz,sz,zzk (show _ <= 10 by rw[zza];simp;omega) (by decide),?_⟩
      rw[zzo]
      rfl
    ·rintro _ rfl
     obtain⟨al,hal⟩:∃al,al=cs++[(zs,r2)]:=⟨_,rfl⟩
     rw[←hal]
     have cl9:cs.length <= 9:=by rw[hcs];exact zzk (zyc _ _) c9
     have ea:al.map aX=(al.map embQ).map celD:=by
      rw[zzh]
      apply zzp
      intro c _
      show D.tup [aw c.1,rowD c.2]=D.tup [keyD (kI c.1),rowD c.2]
      rw[dS]
     have hcm:∀c∈cs,c∈b.cells/\c.1≠zs:=fun c hc=>by
      rw[hcs]at hc
      exact⟨(zzv.mp hc).1,by simpa using(zzv.mp hc).2⟩
     have nda:(al.map (·.1)).Nodup:=by
      rw[hal,zzo]
      refine zyN.mpr ⟨?_,by simp,fun a ha b' hb e=>?_⟩
      ·rw[hcs]
       exact(AQ bs.up).sublist (List.filter_sublist.map _)
      ·obtain⟨c,hc,rfl⟩:=zzb.mp ha
       have hb:b'=zs:=by simpa using hb
       exact(hcm c hc).2 (e.trans hb)
     have ek1:(al.map embQ).map (·.1)=(al.map (·.1)).map kI:=by rw[zzh,zzh];rfl
     refine⟨al.map embQ,by rw[ea],fun p hp=>?_,by rw[ek1];exact List.Pairwise.map _ (fun a b h z=>h (ko z)) nda,by rw[zza,hal];simp;omega,fun kds' sub ek2=>?_⟩
     ·obtain⟨c,_,rfl⟩:=zzb.mp hp
      exact pC c.1
     obtain⟨cl,c1,rfl⟩:=vF kds' sub
     have ekl:cl.map (·.1)=dU (al.map (·.1)):=by
      rw[ek1,tF,zzh]at ek2
      have e3:(cl.map (·.1)).map kI=(dU (al.map (·.1))).map kI:=by rw[←ek2,zzh];rfl
      exact(List.map_inj_right (fun a b h=>ko h)).mp e3
     have ecl:(cl.map embQ).map celD=cl.map aX:=by
      rw[zzh]
      apply zzp
      intro c _
      show D.tup [keyD (kI c.1),rowD c.2]=D.tup [aw c.1,rowD c.2]
      rw[dS]
     have cll:cl.length <= 10:=by
      have e:=congrArg List.length ekl
      rw[zza,(aV _).length_eq,zza,hal]at e
      simp at e
      omega
     have d1:=(bI ro1 (h:=y.toNat) (by omega)).2
     have ro2:RowN 110 b.m r2:=by
      refine⟨by rw[hr2,zyJ];exact ro1.1,fun c hc=>?_⟩
      rw[hr2]at hc
      rcases zyO hc with hc|rfl
      ·exact(ro1.2 c hc).mono (by decide)
      ·have c1:=d1.lo
       have c2:=d1.hi
       have c3:(at_ r1 y.toNat).1.natAbs<2^105:=d1.bt
       exact kj (by show 0 <= (at_ r1 y.toNat).2+7;omega) (by show (at_ r1 y.toNat).2+7 <= (at_ r1 y.toNat).1+7;omega) (by show ((at_ r1 y.toNat).1+7).natAbs<2^110;omega)
     have xy:x.toNat≠y.toNat:=by have:=ab.ne;omega
     have ay:at_ r2 y.toNat=((at_ r1 y.toNat).1+7,(at_ r1 y.toNat).2+7):=by rw[hr2];exact mG (by rw[ro1.1];omega) _
     have ax:at_ r2 x.toNat=((at_ r x.toNat).1+7,(at_ r x.toNat).2):=by
      rw[hr2,zk (Ne.symm xy),hr1]
      exact mG (by rw[ro.1];omega) _
     have zl:zs.length=b.marks.length:=by rw[hzs,zza]
     have it:∀c∈cl,KsOk b.marks c.1/\RowN 110 b.m c.2/\cF c.2:=fun c hc=>by
      have hc:=c1 c hc
      rw[hal]at hc
      rcases zzx.mp hc with hc|hc
      ·exact⟨bk c (hcm c hc).1,(bo.it c (hcm c hc).1).2⟩
      ·rw[zzw.mp hc]
       refine⟨⟨zl,fun i hi=>?_⟩,ro2,at_ r2 y.toNat,?_,?_⟩
       ·have e0:zs.getD i 0=0:=by
         rw[hzs,zzg,zzn]
         cases b.marks[i]?<;>rfl
        have il:i<b.marks.length:=by rw[←zl];exact hi
        have m1:=bs.m1 (b.marks.getD i 0) (by rw[zzg,zzm il];exact zzU il)
        show 0 <= zs.getD i 0/\zs.getD i 0<b.marks.getD i 0
        rw[e0]
        exact⟨zyn _,by omega⟩
       ·exact zzH (bI ro2 (h:=y.toNat) (by omega)).1
       ·rw[ay]
        have:=d1.lo
        have:=d1.hi
        show 0<(at_ r1 y.toNat).1+7
        omega
     have hin:r2∈cl.map (·.2):=by
      have hz:zs∈cl.map (·.1):=by
       rw[ekl,(aV _).mem_iff,hal]
       simp
      obtain⟨c,hc,e⟩:=zzb.mp hz
      have hc':=c1 c hc
      rw[hal]at hc'
      rcases zzx.mp hc' with h'|h'
      ·exact absurd e (hcm c h').2
      ·exact zzb.mpr ⟨c,hc,by rw[zzw.mp h']⟩
     have rws:∀r∈cl.map (·.2),RowN 110 b.m r:=fun r hr=>by
      obtain⟨c,hc,rfl⟩:=zzb.mp hr
      exact(it c hc).2.1
     have g1:=(vG rws (h:=x.toNat) (by omega) hin).1
     have g2:=(vG rws (h:=y.toNat) (by omega) hin).2
     rw[ax]at g1
     rw[ay]at g2
     have e1:=c0.hi
     have e2:=d1.lo
     rw[ecl]
     refine⟨sz,h ⟨b.m,b.marks,cl⟩ ⟨m2,m6,mk5,zzk cll (by decide),fun c hc=>⟨(it c hc).1.1,(it c hc).2⟩⟩ (fun c hc=>(it c hc).1) rfl rfl cll (by show (cl.map (·.1)).Pairwise _;rw[ekl];exact iO nda) ?_ ?_⟩
     ·show 7 <= (sumP (col (cl.map (·.2)) x.toNat)).1 - (sumP (col (cl.map (·.2)) x.toNat)).2
      have g1:(at_ r x.toNat).1+7 - (at_ r x.toNat).2 <= _:=g1
      omega
     ·show 7 <= (sumP (col (cl.map (·.2)) y.toNat)).2
      have g2:(at_ r1 y.toNat).2+7 <= _:=g2
      omega
def gTwo:DSp:=fun ds Q=>∃m:Nat,ds=[.pen,.int m]/\(2 <= m/\m <= 6)/\∀a b,AbOk m a b->Q (.tup [.int a,.int b])
theorem wI:bj gTwo:=fun ds P P' f ⟨m,x,y,h⟩=>⟨m,x,y,fun a b o=>f _ (h a b o)⟩
theorem Gm{m:Nat}(m2:2 <= m)(m6:m <= 6){a r:Int}(a0:0 <= a)(a1:a<m)(r0:0 <= r)(r1:r<(m:Int) - 1):AbOk m a ((a+1+r) % m):=by
 have:m=2∨m=3∨m=4∨m=5∨m=6:=by omega
 rcases this with rfl|rfl|rfl|rfl|rfl<;>exact⟨a0,a1,by omega,by omega,by omega⟩
theorem wJ(T:Tx K mg):FnOk P w K mg base CX0 2 T.jT T.ij ["_law_pen_here","_law_many"] (spD K 2 gTwo):=by
 refine fnD (k:=1) T.eB.F sc__law_two (fun cdv A outer s H E hr=>(aj (aC (i:=2) sc__law_two.nd rfl oo (ag (aJ T) aK (rm hr) rfl T.af.m T.af.F.kp T.af.b (aa (ac 0 (pv 0)) (aa (ac 1 (pv 1)) ad))))
   (ai (aE (aS (aa (ac 2 (pv 2)) (aa (bu Fh (bu dh (bu dh (ac 2 (pv 2)) ae) (ag (aJ T) aK (rm hr) rfl T.af.m T.af.F.kp T.af.b (aa (ac 0 (pv 0)) (aa (bu fq (ac 1 (pv 1)) ae) ad)))) (ac 1 (pv 1))) ad))))))) (fun ds Q hl h=>?_)
 obtain⟨m,rfl,⟨m2,m6⟩,h⟩:=h
 refine⟨rfl,⟨by omega,by omega⟩,fun a a0 a1=>⟨rfl,⟨by omega,by omega⟩,fun r r0 r1=>⟨by omega,sz,h _ _ (Gm m2 m6 a0 a1 r0 r1)⟩⟩⟩
def gDue:DSp:=fun ds Q=>match ds with
 |[.tup [.int t,.int w],.tup [.int t',.int w']]=>(Bd 7000 t/\Bd 7000 w/\Bd 7000 t'/\Bd 7000 w')/\Q (fC t w t' w')
 |_=>False
theorem tV:bj gDue:=yG
theorem tW(T:Tx K mg):FnOk P w K mg base CX0 1 T.io T.fP ["_law_one","_law_other"] (spD K 2 gDue):=by
 refine fnD (k:=0) T.dz.F sc__law_said (fun cdv A outer s H E hr=>(aj (cG (PWD.pt (sE (aN (eL hr) (ar (ac 0 (pv 0)) ae (fun _ _=>rfl)) ae (aB _)) (lE (aN (eL hr) (ar (ac 1 (pv 1)) ae (fun _ _=>rfl)) ae (aB _))))) (ai (aE nD)) aQ)
   (aj (aC (i:=2) sc__law_said.nd rfl oo (bu qF (ar (ac 0 (pv 0)) ae (fun _ _=>rfl)) (ar (ac 1 (pv 1)) ae (fun _ _=>rfl))))
   (aj (aC (i:=3) sc__law_said.nd rfl oo (bu qF (ar (ac 1 (pv 1)) ae (fun _ _=>rfl)) (ar (ac 0 (pv 0)) ae (fun _ _=>rfl))))
   (ai (aE (bu fq (aO ut rfl T.wL rfl (aa (iC vZ (ac 2 (pv 2)) (ac 3 (pv 3)) (aB _)) ad)) (aO ut rfl T.wL rfl (aa (iC zT (ac 2 (pv 2)) (ac 3 (pv 3)) (aB _)) ad))))))))) (fun ds Q hl h=>?_)
 unfold gDue at h
 split at h
 case h_2=>exact h.elim
 rename_i t w t' w'
 obtain⟨⟨b1,b2,b3,b4⟩,h⟩:=h
 unfold fC at h
 refine⟨⟨rfl,rfl⟩,fun e=>Br.t ?_,fun e=>⟨⟨rfl,rfl⟩,fun e'=>?_,fun e'=>?_⟩⟩
 ·have e:t=0:=by simpa[bB]using e
  rw[if_pos (.inl e)]at h
  exact h
 ·have e':t'=0:=by simpa[bB]using e'
  rw[if_pos (.inr e')]at h
  exact h
 ·have e:t≠0:=by simpa[bB]using e
  have e':t'≠0:=by simpa[bB]using e'
  rw[if_neg (by simp[e,e'])]at h
  refine⟨b2.cmul b3,b4.cmul b1,?_⟩
  show Q (.int ((if decide (w'*t<w*t')=true then 1 else 0) - (if decide (w*t'<w'*t)=true then 1 else 0)))
  rw[zyR t w']at h
  by_cases c:w'*t<w*t'
  ·have c':¬w*t'<w'*t:=by omega
   simpa[c,c']using h
  ·by_cases c':w*t'<w'*t
   ·simpa[c,c']using h
   ·simpa[c,c']using h
theorem zm(r:Row):Shp 2 (rowD r):=.tup fun d hd=>by
 obtain⟨c,_,rfl⟩:=zzb.mp hd
 exact .pair
theorem rY(cs:List (List Int×Row)):∀d∈cs.map aX,Shp 3 d:=fun d hd=>by
 obtain⟨c,_,rfl⟩:=zzb.mp hd
 exact .tup fun d hd=>by
  simp only[zzi,zzR,or_false]at hd
  rcases hd with rfl|rfl
  ·exact .tup fun d hd=>by
    obtain⟨k,_,rfl⟩:=zzb.mp hd
    exact .int
  ·exact zm _
theorem pQ(b:Bk):shp (aG b)=true:=Shp.shp (n:=5) (.tup fun d hd=>by
 simp only[zzi,zzR,or_false]at hd
 rcases hd with rfl|rfl|rfl
 ·exact .int
 ·exact .tup fun d hd=>by
   obtain⟨k,_,rfl⟩:=zzb.mp hd
   exact .int
 ·exact .tup (rY _))
theorem vH{xs ys:List Int}(h:xs.Perm ys):xs.sum=ys.sum:=by
 induction h with
 |nil=>rfl
 |cons a _ ih=>rw[zzB,zzB,ih]
 |swap a b l=>simp only[zzB];omega
 |trans _ _ h1 h2=>exact h1.trans h2
theorem zn{m:Nat}{xs ys:List Row}(h:xs.Perm ys):sums xs m=sums ys m:=by
 unfold sums
 apply zzp
 intro i _
 unfold sumP col
 rw[vH ((h.map _).map _),vH ((h.map _).map fun x:Int×Int=>x.2)]
theorem wK{m:Nat}{ps qs:List (List Int×Row)}(h:ps.Perm qs):az m ps=az m qs:=gi (fun k=>(h.map _).mem_iff) fun k _=>zn ((h.filter _).map _)
theorem vI(a b:List (Int×Int)):sumP (a++b)=((sumP a).1+(sumP b).1,(sumP a).2+(sumP b).2):=by
 unfold sumP
 rw[zzo,zzo,zyx,zyx]
theorem AX{n:Nat}{xs xs' ys:List Row}(h1:sums xs n=sums xs' n):sums (xs++ys) n=sums (xs'++ys) n:=by
 unfold sums
 apply zzp
 intro h hh
 have hh:=zzy.mp hh
 have a:sumP (col xs h)=sumP (col xs' h):=by rw[←cI hh,←cI hh,h1]
 unfold col at a ⊢
 rw[zzo,zzo,vI,vI,a]
theorem zo{m:Nat}{ps ps':List (List Int×Row)}(qs:List (List Int×Row))(h:az m ps=az m ps'):az m (ps++qs)=az m (ps'++qs):=by
 apply gi
 ·intro k
  rw[zzo,zzo,zzx,zzx,←parts_mem (m:=m) (ps:=ps),h,parts_mem]
 ·intro k _
  rw[zyo,zyo,zzo,zzo]
  refine AX ?_
  have f1:=fK m (fun x=>decide (x=k)) ps
  have f2:=fK m (fun x=>decide (x=k)) ps'
  rw[h,←f2]at f1
  rw[←eA m (ps.filter fun p=>decide (p.1=k)),←eA m (ps'.filter fun p=>decide (p.1=k)),f1]
theorem tX(m:Nat)(f:List Int->List Int)(ps:List (List Int×Row)):az m ((az m ps).map fun c=>(f c.1,c.2))=az m (ps.map fun p=>(f p.1,p.2)):=by
 apply gi
 ·intro k
  rw[zzh,zzh]
  constructor
  ·intro h
   obtain⟨c,hc,rfl⟩:=zzb.mp h
   have:c.1∈(az m ps).map (·.1):=zzb.mpr ⟨c,hc,rfl⟩
   rw[parts_mem]at this
   obtain⟨p,hp,e⟩:=zzb.mp this
   exact zzb.mpr ⟨p,hp,by show f p.1=f c.1;rw[e]⟩
  ·intro h
   obtain⟨p,hp,rfl⟩:=zzb.mp h
   have:p.1∈ps.map (·.1):=zzb.mpr ⟨p,hp,rfl⟩
   rw[←parts_mem (m:=m)]at this
   obtain⟨c,hc,e⟩:=zzb.mp this
   exact zzb.mpr ⟨c,hc,by show f c.1=f p.1;rw[e]⟩
 ·intro k _
  have e:∀qs:List (List Int×Row),(((qs.map fun c=>(f c.1,c.2)).filter fun p=>decide (p.1=k)).map (·.2))=(qs.filter fun p=>decide (f p.1=k)).map (·.2):=fun qs=>by
   rw[zyL,zzh]
   rfl
  rw[e,e]
  have pf:=fK m (fun x=>decide (f x=k)) ps
  rw[←pf,eA]
theorem DN{n m h:Nat}(hh:h<m){R' R:List Row}(s:R'.Sublist R):(∀r∈R,RowN n m r)->0 <= (sumP (col R' h)).2/\(sumP (col R' h)).2 <= (sumP (col R' h)).1/\(sumP (col R' h)).1 <= (sumP (col R h)).1:=by
 induction s with
 |slnil=>intro _;exact⟨zyn _,zyn _,zyn _⟩
 |cons a s ih =>
  intro ho
  have i:=ih fun r hr=>ho r (zzc _ hr)
  have c:=(bI (ho a zzd) hh).2
  have:=c.lo
  have:=c.hi
  unfold sumP col at i ⊢
  simp only[zze,zzB]at i ⊢
  omega
 |cons_cons a s ih =>
  intro ho
  have i:=ih fun r hr=>ho r (zzc _ hr)
  have c:=(bI (ho a zzd) hh).2
  have:=c.lo
  have:=c.hi
  unfold sumP col at i ⊢
  simp only[zze,zzB]at i ⊢
  omega
theorem AY{n m:Nat}{R' R:List Row}(s:R'.Sublist R)(ho:∀r∈R,RowN n m r)(ht:RowN 110 m (sums R m)):RowN 110 m (sums R' m):=by
 refine⟨by unfold sums;simp,fun c hc=>?_⟩
 obtain⟨h,hh,rfl⟩:=zzb.mp hc
 have hh:=zzy.mp hh
 have ht:=(bI ht hh).2
 rw[cI hh]at ht
 have k:=DN hh s ho
 have h1:=ht.bt
 exact kj k.1 k.2.1 (h1.le (by omega))
abbrev dl(c:List Int×Row):List Int×Row:=(c.1.dropLast,c.2)
def FK(fs:List (List Int×Row))(k:Int):List (List Int×Row):=(fs.filter fun c=>decide (bp c.1 <= k)).map dl
def WK(fs:List (List Int×Row))(k:Int):List (List Int×Row):=(fs.filter fun c=>decide (bp c.1=k)).map dl
theorem DP(fs:List (List Int×Row))(k:Int):(FK fs k++WK fs (k+1)).Perm (FK fs (k+1)):=by
 unfold FK WK
 rw[←zzo]
 refine List.Perm.map _ ?_
 have h:=List.filter_append_perm (fun c:List Int×Row=>decide (bp c.1 <= k)) (fs.filter fun c=>decide (bp c.1 <= k+1))
 rw[zyp,zyp]at h
 have e1:fs.filter (fun c=>decide (bp c.1 <= k) && decide (bp c.1 <= k+1))=fs.filter fun c=>decide (bp c.1 <= k):=by
  apply zyh
  intro c _
  rw[zyw,zzK,decide_eq_true_eq,decide_eq_true_eq]
  omega
 have e2:fs.filter (fun c=>(!decide (bp c.1 <= k)) && decide (bp c.1 <= k+1))=fs.filter fun c=>decide (bp c.1=k+1):=by
  apply zyh
  intro c _
  rw[zyw,zzK,Bool.not_eq_true',decide_eq_false_iff_not,decide_eq_true_eq,decide_eq_true_eq]
  omega
 rw[e1,e2]at h
 exact h
structure FsOk(n L:Nat)(kd:Int)(fs bc:List (List Int×Row)):Prop where
 len:fs.length <= 60
 it:∀c∈fs,c.1.length=L+1/\RowN 110 n c.2/\cF c.2
 lo:∀c∈fs,0 <= bp c.1/\bp c.1<kd
 ps:az n (fs.map dl)=bc
 rw:∀c∈bc,RowN 110 n c.2
structure CkOk(n L:Nat)(fs:List (List Int×Row))(k:Int)(C:List (List Int×Row)):Prop where
 it:∀c∈C,c.1.length=L/\RowN 110 n c.2/\cF c.2
 ps:az n C=az n (FK fs k)
 len:C.length <= (FK fs k).length
theorem Gn(fs:List (List Int×Row))(k:Int):(FK fs k).length <= fs.length:=by
 unfold FK
 rw[zza]
 exact zyc _ _
theorem AZ(m:Nat)(ps:List (List Int×Row)):(az m ps).length <= ps.length:=by
 unfold az
 rw[zza,(aV _).length_eq,zza]
 exact(rE (C:=fun _=>True) (R:=fun _=>True) ps fun _ _=>⟨trivial,trivial⟩).len
theorem zp{L:Nat}{c:List Int×Row}(h:c.1.length=L+1):(dl c).1.length=L:=by
 show c.1.dropLast.length=L
 rw[List.length_dropLast,h]
 rfl
theorem Ba{n L:Nat}{kd:Int}{fs bc:List (List Int×Row)}(o:FsOk n L kd fs bc):CkOk n L fs 0 (WK fs 0):=by
 have e:WK fs 0=FK fs 0:=by
  unfold WK FK
  congr 1
  apply zyh
  intro c hc
  have:=o.lo c hc
  rw[zyw,decide_eq_true_eq,decide_eq_true_eq]
  omega
 refine⟨fun c hc=>?_,by rw[e],by rw[e];exact zzj _⟩
 obtain⟨d,hd,rfl⟩:=zzb.mp hc
 have:=o.it d (zzv.mp hd).1
 exact⟨zp this.1,this.2⟩
theorem DQ{n L:Nat}{kd:Int}{fs bc:List (List Int×Row)}(o:FsOk n L kd fs bc){k:Int}{C:List (List Int×Row)}(c:CkOk n L fs k C):gath n (C++WK fs (k+1))=az n (FK fs (k+1))/\CkOk n L fs (k+1) (gath n (C++WK fs (k+1)))/\(C++WK fs (k+1)).length <= 60/\∀c∈C++WK fs (k+1),c.1.length=L/\RowN 110 n c.2:=by
 have it:∀c∈C++WK fs (k+1),c.1.length=L/\RowN 110 n c.2/\cF c.2:=fun p hp=>by
  rcases zzx.mp hp with hp|hp
  ·exact c.it p hp
  ·obtain⟨d,hd,rfl⟩:=zzb.mp hp
   have:=o.it d (zzv.mp hd).1
   exact⟨zp this.1,this.2⟩
 have pe:=DP fs k
 have e:gath n (C++WK fs (k+1))=az n (FK fs (k+1)):=by
  rw[vc it,zo _ c.ps,wK pe]
 refine⟨e,?_,?_,fun p hp=>⟨(it p hp).1,(it p hp).2.1⟩⟩
 ·rw[e]
  have fit:∀p∈FK fs (k+1),p.1.length=L/\RowN 110 n p.2/\cF p.2:=fun p hp=>by
   obtain⟨d,hd,rfl⟩:=zzb.mp hp
   have:=o.it d (zzv.mp hd).1
   exact⟨zp this.1,this.2⟩
  refine⟨fun p hp=>?_,jN (iP _ _) fun p hp=>?_,AZ _ _⟩
  ·have hk:p.1∈(FK fs (k+1)).map (·.1):=(parts_mem (m:=n)).mp (zzb.mpr ⟨p,hp,rfl⟩)
   obtain⟨q,hq,eq⟩:=zzb.mp hk
   have er:=fJ hp
   have sub:((FK fs (k+1)).filter fun q=>decide (q.1=p.1)).Sublist ((fs.map dl).filter fun q=>decide (q.1=p.1)):=(List.filter_sublist.map dl).filter _
   have hall:p.1∈(az n (fs.map dl)).map (·.1):=by
    rw[parts_mem,←eq]
    exact zzb.mpr ⟨q,(List.filter_sublist.map dl).mem hq,rfl⟩
   obtain⟨z,hz,ez⟩:=zzb.mp hall
   have rz:=fJ hz
   have oz:=o.rw z (by rw[←o.ps];exact hz)
   rw[rz,ez]at oz
   refine⟨by rw[←eq];exact(fit q hq).1,?_,?_⟩
   ·rw[er]
    refine AY (n:=110) (sub.map _) (fun r hr=>?_) oz
    obtain⟨d,hd,rfl⟩:=zzb.mp hr
    obtain⟨d',hd',rfl⟩:=zzb.mp (zzv.mp hd).1
    exact(o.it d' hd').2.1
   ·rw[er]
    refine nV (n:=110) (fun r hr=>?_) ?_ fun r hr=>?_
    ·obtain⟨d,hd,rfl⟩:=zzb.mp hr
     exact(fit d (zzv.mp hd).1).2.1
    ·intro z
     have:q∈(FK fs (k+1)).filter fun q=>decide (q.1=p.1):=zzv.mpr ⟨hq,decide_eq_true eq⟩
     rw[List.map_eq_nil_iff.mp z]at this
     simp at this
    ·obtain⟨d,hd,rfl⟩:=zzb.mp hr
     exact(fit d (zzv.mp hd).1).2.2
  ·rw[fJ hp]
   unfold sums
   simp
 ·have h1:=pe.length_eq
  have h2:=Gn fs (k+1)
  have h3:=c.len
  have h4:=o.len
  rw[zzl]at h1 ⊢
  omega
theorem DR{n L:Nat}{kd:Int}{fs bc:List (List Int×Row)}(o:FsOk n L kd fs bc):az n (FK fs (kd - 1))=bc:=by
 rw[←o.ps]
 unfold FK
 rw[List.filter_eq_self.mpr]
 intro c hc
 have:=o.lo c hc
 exact decide_eq_true (by omega)
theorem pR{L:Nat}{c:List Int}(h:c.length=L+1):∃a v,c=a++[v]/\a.length=L:=by
 have hn:c≠[]:=by intro z;rw[z]at h;simp at h
 exact⟨c.dropLast,c.getLast hn,(List.dropLast_concat_getLast hn).symm,by rw[List.length_dropLast,h];rfl⟩
theorem DU{L:Nat}{k:Int}{fs:List (List Int×Row)}(h:∀c∈fs,c.1.length=L+1):gy L k fs=WK fs k:=by
 unfold gy WK
 have e1:fs.filter (fun c=>decide (c.1.getD L 0=k))=fs.filter fun c=>decide (bp c.1=k):=by
  apply zyh
  intro c hc
  obtain⟨a,v,e,el⟩:=pR (h c hc)
  rw[e,iU,←el]
  simp
 rw[e1]
 apply zzp
 intro c hc
 obtain⟨a,v,e,el⟩:=pR (h c (zzv.mp hc).1)
 show (c.1.eraseIdx L,c.2)=(c.1.dropLast,c.2)
 rw[e,←el]
 congr 1
 simp[List.eraseIdx_append_of_length_le]
def gPT:DSp:=fun ds Q=>∃(n:Nat) (ms:List Int) (kd:Int) (fs bc:List (List Int×Row)),ds=[aG ⟨n,ms++[kd],fs⟩,.int ms.length,.int kd]/\n <= 6/\ms.length <= 4/\(2 <= kd/\kd <= 6)/\FsOk n ms.length kd fs bc/\Q (aG ⟨n,ms,bc⟩)
theorem gU:bj gPT:=fun ds P P' f ⟨n,ms,kd,fs,bc,a,b,c,d,e,h⟩=>⟨n,ms,kd,fs,bc,a,b,c,d,e,f _ h⟩
theorem gX(T:Tx K mg):FnOk P w K mg base CX0 5 T.ca T.bQ ["_law_found","_law_last","_law_kinds"] (spD K 3 gPT):=by
 refine fnD (k:=4) T.bi.F sc__law_put_together (fun cdv A outer s H E hr=>(aj (aC (i:=3) sc__law_put_together.nd rfl oo (ag (vE T) vD (rm hr) rfl T.dL.m T.dL.F.kp T.dL.b (aa (ac 0 (pv 0)) (aa (ac 1 (pv 1)) (aa ae ad)))))
   (aH (dZ PassesOwn.never rfl (qC rfl T.cS (aa ae (aa (ac 2 (pv 2)) ad))) (ao (i:=4) sc__law_put_together.nd rfl oo) (ai (aC (i:=3) sc__law_put_together.nd rfl oo (ag (AW T) AV (rm hr) rfl T.jc.m T.jc.F.kp T.jc.b (aa (ac 3 (pv 3)) (aa (ag (vE T) vD (rm hr) rfl T.dL.m T.dL.F.kp T.dL.b (aa (ac 0 (pv 0)) (aa (ac 1 (pv 1)) (aa (ac 4 (pv 4)) ad)))) ad))))))
   (ai (aE (ac 3 (pv 3))))))) (fun ds Q hl h=>?_)
 obtain⟨n,ms,kd,fs,bc,rfl,n6,m4,⟨k2,k6⟩,fo,h⟩:=h
 have wi:∀(k:Int) (Q:D->Prop),0 <= k->k<kd->Q (aG ⟨n,ms,WK fs k⟩)->gWi [aG ⟨n,ms++[kd],fs⟩,.int ms.length,.int k] Q:=fun k Q k0 k1 q=>by
  refine⟨⟨n,ms++[kd],fs⟩,ms.length,kd,k,rfl,⟨by show (ms++[kd]).length <= 5;rw[zzl,zzL];omega,fo.len,fun c hc=>by rw[(fo.it c hc).1];simp⟩,by simp,⟨k0,k1⟩,?_⟩
  have e:(ms++[kd]).eraseIdx ms.length=ms:=by simp[List.eraseIdx_append_of_length_le]
  show Q (aG ⟨n,(ms++[kd]).eraseIdx ms.length,gy ms.length k fs⟩)
  rw[e,DU fun c hc=>(fo.it c hc).1]
  exact q
 refine⟨rfl,wi 0 _ (by decide) (by omega) ?_⟩
 refine⟨fun ρ=>∃s:Sl,ρ=[.val (aG ⟨n,ms++[kd],fs⟩),.val (.int ms.length),.val (.int kd),.val (aG ⟨n,ms,bc⟩),s],⟨⟨by omega,by omega,by omega,by omega⟩,?_⟩,?_⟩
 ·refine iE (fun k ρ=>∃C,CkOk n ms.length fs (k - 1) C/\(2 <= k->C=az n (FK fs (k - 1)))/\∃s:Sl,ρ=[.val (aG ⟨n,ms++[kd],fs⟩),.val (.int ms.length),.val (.int kd),.val (aG ⟨n,ms,C⟩),s]) _ _ ?_ ?_ _ ⟨WK fs 0,by rw[show (1:Int) - 1=0 from rfl];exact Ba fo,fun z=>absurd z (by decide),_,rfl⟩
  ·rintro ρ ⟨C,_,hC,s,rfl⟩
   have e:(1+((kd - 1).toNat:Nat):Int)=kd:=by omega
   rw[e]at hC
   have:=hC k2
   rw[DR fo]at this
   exact⟨s,by rw[this]⟩
  ·rintro k ρ X k0 kk ⟨C,ck,_,s,rfl⟩ hX
   have st:=DQ fo ck
   rw[show k - 1+1=k by omega]at st
   refine⟨rfl,wi k _ (by omega) (by omega) ⟨rfl,n,ms,C,WK fs k,rfl,⟨n6,by omega,st.2.2.1,st.2.2.2⟩,hX _ ⟨_,by rw[show k+1 - 1=k by omega];exact st.2.1,fun _=>by rw[show k+1 - 1=k by omega];exact st.1,_,rfl⟩⟩⟩
 ·rintro _ ⟨s,rfl⟩
  exact h
section
variable{b:Bk}{x y m:Int}{rows:List Prt}{F1 G1 F2 G2:Nat->Nat->Int}
abbrev hB(b:Bk)(x y m:Int)(F1 G1 F2 G2:Nat->Nat->Int):Bk:=⟨b.m,b.marks++[m],fnd b x y m F1 G1 F2 G2⟩
theorem HD(o:HOk b x y m)(up:(b.cells.map (·.1)).Pairwise fun x y=>ltI x y=true)(h:HidF b x.toNat y.toNat m rows F1 G1 F2 G2):hidB b x.toNat y.toNat m F1 G1 F2 G2=hB b x y m F1 G1 F2 G2:=by
 have:=AU o up h
 show Bk.mk b.m (b.marks++[m]) (hidB b x.toNat y.toNat m F1 G1 F2 G2).cells=_
 rw[this]
theorem vJ(o:HOk b x y m)(h:HidF b x.toNat y.toNat m rows F1 G1 F2 G2):∀c∈fnd b x y m F1 G1 F2 G2,c.1.length=b.marks.length+1/\RowN 110 b.m c.2/\cF c.2:=fun c hc=>by
 obtain⟨h1,h2⟩:=zzv.mp hc
 have:=zg o h c h1
 exact⟨this.1,this.2,triedB_iff.mp h2⟩
theorem BU(o:HOk b x y m):∀c∈fnd b x y m F1 G1 F2 G2,0 <= bp c.1/\bp c.1<m:=fun c hc=>by
 obtain⟨i,hi,k,hk,rfl⟩:=psH_mem.mp (zzv.mp hc).1
 have e:bp (psI b x.toNat y.toNat (entS F1 G1) (entS F2 G2) i k).1=(k:Int):=iU _ _
 rw[e]
 have:=o.m2
 omega
theorem Go(o:HOk b x y m)(up:(b.cells.map (·.1)).Pairwise fun x y=>ltI x y=true)(h:HidF b x.toNat y.toNat m rows F1 G1 F2 G2):FsOk b.m b.marks.length m (fnd b x y m F1 G1 F2 G2) b.cells :=
 ⟨zh o,vJ o h,BU o,eR o up h,fun c hc=>(o.bo.it c hc).2.1⟩
theorem HE(o:HOk b x y m)(h:HidF b x.toNat y.toNat m rows F1 G1 F2 G2):BkOk (hB b x y m F1 G1 F2 G2):=by
 have l4:=o.l4
 refine⟨o.bo.m2,o.bo.m6,?_,zh o,fun c hc=>?_⟩
 ·show (b.marks++[m]).length <= 5
  rw[zzl,zzL]
  omega
 ·show c.1.length=(b.marks++[m]).length/\_
  rw[zzl,zzL]
  exact vJ o h c hc
theorem vK(o:HOk b x y m)(up:(b.cells.map (·.1)).Pairwise fun x y=>ltI x y=true)(h:HidF b x.toNat y.toNat m rows F1 G1 F2 G2){so:List Int}(hs:∀z∈so,0 <= z/\z<b.marks.length):cc (hB b x y m F1 G1 F2 G2) so=cc b so:=by
 unfold cc
 show az b.m ((fnd b x y m F1 G1 F2 G2).map fun c=>(vals c.1 so,c.2))=_
 have e:(fnd b x y m F1 G1 F2 G2).map (fun c=>(vals c.1 so,c.2))=((fnd b x y m F1 G1 F2 G2).map fun c=>(c.1.dropLast,c.2)).map fun c=>(vals c.1 so,c.2):=by
  rw[zzh]
  apply zzp
  intro c hc
  show (vals c.1 so,c.2)=(vals c.1.dropLast so,c.2)
  obtain⟨a,v,e,el⟩:=pR (vJ o h c hc).1
  have:vals c.1 so=vals c.1.dropLast so:=by
   unfold vals
   apply zzp
   intro z hz
   have hz:=hs z hz
   rw[e,List.dropLast_concat,zzg,zzg,zzE (by omega)]
  rw[this]
 rw[e,←tX b.m (fun k=>vals k so),eR o up h]
theorem Bb(bk:Bk)(so:List Int):sums (tblB bk so) bk.m=sums (bk.cells.map (·.2)) bk.m:=by
 have:=eA bk.m (bk.cells.map fun c=>(vals c.1 so,c.2))
 rw[zzh (f:=fun c:List Int×Row=>(vals c.1 so,c.2))]at this
 exact this
theorem vL(o:HOk b x y m)(up:(b.cells.map (·.1)).Pairwise fun x y=>ltI x y=true)(h:HidF b x.toNat y.toNat m rows F1 G1 F2 G2):sums ((hB b x y m F1 G1 F2 G2).cells.map (·.2)) b.m=sums (b.cells.map (·.2)) b.m:=by
 have:=eA b.m ((fnd b x y m F1 G1 F2 G2).map fun c=>(c.1.dropLast,c.2))
 rw[eR o up h,zzh]at this
 exact this.symm
theorem DV(o:HOk b x y m)(up:(b.cells.map (·.1)).Pairwise fun x y=>ltI x y=true)(h:HidF b x.toNat y.toNat m rows F1 G1 F2 G2)(ne:b.cells≠[]):fnd b x y m F1 G1 F2 G2≠[]:=fun z=>by
 have:=eR o up h
 rw[z]at this
 exact ne this.symm
theorem DW(o:HOk b x y m)(h:HidF b x.toNat y.toNat m rows F1 G1 F2 G2):tblB (hB b x y m F1 G1 F2 G2) [(b.marks.length:Int)]=(List.range m.toNat).map fun(k:Nat)=>sums (((fnd b x y m F1 G1 F2 G2).filter fun c=>decide (bp c.1=(k:Int))).map (·.2)) b.m:=by
 have rl:=h.pt.len
 have ev:(fnd b x y m F1 G1 F2 G2).map (fun c=>(vals c.1 [(b.marks.length:Int)],c.2))=(fnd b x y m F1 G1 F2 G2).map fun c=>([bp c.1],c.2):=by
  apply zzp
  intro c hc
  obtain⟨a,v,e,el⟩:=pR (vJ o h c hc).1
  have:vals c.1 [(b.marks.length:Int)]=[bp c.1]:=by
   rw[e,iU]
   unfold vals
   rw[zyV,zzP,←el]
   simp
  rw[this]
 have mem:∀k:Nat,k<m.toNat->∃c∈fnd b x y m F1 G1 F2 G2,bp c.1=(k:Int):=fun k hk=>by
  have kl:k<rows.length:=by omega
  have fk:=(vC o h (zzm kl)).1
  have g:=(h.pt.good _ (zzU kl)).a2
  rw[←fk]at g
  cases q:(fnd b x y m F1 G1 F2 G2).filter (fun c=>decide (bp c.1=(k:Int))) with
  |nil =>
   rw[q]at g
   exact absurd (show (1:Int) <= 0 from g) (by decide)
  |cons c r =>
   have:c∈(fnd b x y m F1 G1 F2 G2).filter (fun c=>decide (bp c.1=(k:Int))):=by rw[q];exact zzd
   obtain⟨h1,h2⟩:=zzv.mp this
   exact⟨c,h1,of_decide_eq_true h2⟩
 unfold tblB cc
 show (az b.m ((fnd b x y m F1 G1 F2 G2).map fun c=>(vals c.1 [(b.marks.length:Int)],c.2))).map (·.2)=_
 rw[ev]
 have ek:(az b.m ((fnd b x y m F1 G1 F2 G2).map fun c=>([bp c.1],c.2))).map (·.1)=(List.range m.toNat).map fun(k:Nat)=>[(k:Int)]:=by
  refine yO (iP _ _) ?_ fun k=>?_
  ·rw[List.pairwise_map]
   exact List.pairwise_lt_range.imp fun {i j} hij=>pM [] (by omega)
  ·rw[parts_mem,zzh]
   constructor
   ·intro hk
    obtain⟨c,hc,rfl⟩:=zzb.mp hk
    have:=BU o c hc
    exact zzb.mpr ⟨(bp c.1).toNat,zzy.mpr (by omega),by show [((bp c.1).toNat:Int)]=[bp c.1];rw[Int.toNat_of_nonneg this.1]⟩
   ·intro hk
    obtain⟨i,hi,rfl⟩:=zzb.mp hk
    obtain⟨c,hc,e⟩:=mem i (zzy.mp hi)
    exact zzb.mpr ⟨c,hc,by show [bp c.1]=_;rw[e]⟩
 rw[iQ,ek,zzh,zzh]
 apply zzp
 intro k _
 show sums ((((fnd b x y m F1 G1 F2 G2).map fun c=>([bp c.1],c.2)).filter fun p=>decide (p.1=[(k:Int)])).map (·.2)) b.m=_
 rw[zyL,zzh]
 congr 1
 show ((fnd b x y m F1 G1 F2 G2).filter fun c=>decide ([bp c.1]=[(k:Int)])).map (·.2)=_
 congr 1
 apply zyh
 intro c _
 simp
theorem zq{r:Prt}(g:Good r):fC r.1.1 r.1.2 r.2.1 r.2.2=.int (-1):=by
 have a:=g.a2
 have c:=g.b2
 have l:=g.less
 have e:=zyR r.2.2 r.1.1
 unfold fC
 rw[if_neg (by omega),if_neg (by omega),if_pos (by omega)]
theorem zr(o:HOk b x y m)(h:HidF b x.toNat y.toNat m rows F1 G1 F2 G2):told (tblB (hB b x y m F1 G1 F2 G2) [(b.marks.length:Int)]) x.toNat y.toNat=List.replicate m.toNat (.int (-1)):=by
 have rl:=h.pt.len
 have x0:=o.x0
 have x1:=o.x1
 have y0:=o.y0
 have y1:=o.y1
 unfold told
 rw[DW o h,zzh,List.eq_replicate_iff]
 refine⟨by simp,fun d hd=>?_⟩
 obtain⟨k,hk,rfl⟩:=zzb.mp hd
 have kl:k<rows.length:=by rw[rl];exact zzy.mp hk
 have fk:=vC o h (zzm kl)
 show fC (at_ (sums _ b.m) x.toNat).1 (at_ (sums _ b.m) x.toNat).2 (at_ (sums _ b.m) y.toNat).1 (at_ (sums _ b.m) y.toNat).2=_
 rw[cI (by omega),cI (by omega),fk.1,fk.2]
 exact zq (h.pt.good _ (zzU kl))
def wS(b:Bk)(x y:Nat):D:=fC (whB b x).1 (whB b x).2 (whB b y).1 (whB b y).2
theorem HF(o:HOk b x y m)(up:(b.cells.map (·.1)).Pairwise fun x y=>ltI x y=true)(h:HidF b x.toNat y.toNat m rows F1 G1 F2 G2)(so:List Int):fG (tblB (hB b x y m F1 G1 F2 G2) so) x.toNat y.toNat=wS b x.toNat y.toNat:=by
 have x0:=o.x0
 have x1:=o.x1
 have y0:=o.y0
 have y1:=o.y1
 have e:=(Bb (hB b x y m F1 G1 F2 G2) so).trans (vL o up h)
 have e:sums (tblB (hB b x y m F1 G1 F2 G2) so) b.m=sums (b.cells.map (·.2)) b.m:=e
 have ex:sumP (col (tblB (hB b x y m F1 G1 F2 G2) so) x.toNat)=whB b x.toNat:=by
  rw[←cI (n:=b.m) (by omega),e,cI (by omega)]
  rfl
 have ey:sumP (col (tblB (hB b x y m F1 G1 F2 G2) so) y.toNat)=whB b y.toNat:=by
  rw[←cI (n:=b.m) (by omega),e,cI (by omega)]
  rfl
 unfold fG wS
 rw[ex,ey]
theorem zt(o:HOk b x y m)(up:(b.cells.map (·.1)).Pairwise fun x y=>ltI x y=true)(h:HidF b x.toNat y.toNat m rows F1 G1 F2 G2):trnB (hB b x y m F1 G1 F2 G2) x.toNat y.toNat [(b.marks.length:Int)]=tkT (-1) (wS b x.toNat y.toNat):=by
 have m2:=o.m2
 unfold trnB
 rw[zr o h,HF o up h]
 obtain⟨k,hk⟩:∃k,m.toNat=k+1:=⟨m.toNat - 1,by omega⟩
 rw[hk]
 unfold kE
 have a1:(List.replicate (k+1) (D.int (-1))).all (isS 1)=false:=by
  rw[zzW,List.all_cons]
  rfl
 have a2:(List.replicate (k+1) (D.int (-1))).all (isS (-1))=true:=by
  rw[zyt]
  intro d hd
  rw[zyk hd]
  rfl
 rw[a1,a2]
 rfl
theorem zu(b:Bk)(x y:Nat):four (wS b x y):=by
 unfold four wS fC
 split
 ·exact .inl rfl
 ·split
  ·exact .inr (.inl rfl)
  ·split
   ·exact .inr (.inr (.inl rfl))
   ·exact .inr (.inr (.inr rfl))
theorem Gp(o:HOk b x y m)(up:(b.cells.map (·.1)).Pairwise fun x y=>ltI x y=true)(h:HidF b x.toNat y.toNat m rows F1 G1 F2 G2):isT (hB b x y m F1 G1 F2 G2) x.toNat y.toNat [(b.marks.length:Int)]=!eqD (wS b x.toNat y.toNat) (.int (-1)):=by
 unfold isT
 rw[zt o up h]
 have f:=zu b x.toNat y.toNat
 generalize wS b x.toNat y.toNat=d at f
 rcases f with rfl|rfl|rfl|rfl<;>decide +kernel
theorem Gq(o:HOk b x y m)(up:(b.cells.map (·.1)).Pairwise fun x y=>ltI x y=true)(h:HidF b x.toNat y.toNat m rows F1 G1 F2 G2){so:List Int}(hs:∀z∈so,0 <= z/\z<b.marks.length):isT (hB b x y m F1 G1 F2 G2) x.toNat y.toNat so=isT b x.toNat y.toNat so:=by
 unfold isT trnB tblB
 rw[vK o up h hs]
theorem DX:∀L,L <= 4->[(L:Int)]∈chs (L+1) (L+2):=by decide +kernel
theorem DY:∀L,L <= 4->(chs (L+1) (L+2)).filter (fun s=>!(s.any fun v=>decide (v=(L:Int))))=chs L (L+1):=by decide +kernel
theorem Gr(o:HOk b x y m)(up:(b.cells.map (·.1)).Pairwise fun x y=>ltI x y=true)(h:HidF b x.toNat y.toNat m rows F1 G1 F2 G2)(ne:b.cells≠[]):(tby (hB b x y m F1 G1 F2 G2) x.toNat y.toNat).filter (fun s=>!(s.any fun v=>decide (v=(b.marks.length:Int))))=tby b x.toNat y.toNat:=by
 have l4:=o.l4
 unfold tby
 rw[if_neg (DV o up h ne),if_neg ne]
 have el:(hB b x y m F1 G1 F2 G2).marks.length=b.marks.length+1:=by
  show (b.marks++[m]).length=_
  rw[zzl,zzL]
 rw[el,zyp]
 have ec:∀l:List (List Int),l.filter (fun s=>(!(s.any fun v=>decide (v=(b.marks.length:Int)))) && isT (hB b x y m F1 G1 F2 G2) x.toNat y.toNat s)=(l.filter fun s=>!(s.any fun v=>decide (v=(b.marks.length:Int)))).filter (isT (hB b x y m F1 G1 F2 G2) x.toNat y.toNat):=fun l=>by
  rw[zyp]
  apply zyh
  intro s _
  exact Bool.and_comm _ _
 rw[ec,DY _ (by omega)]
 apply zyh
 intro s hs
 exact Gq o up h (BO (by omega) (by omega) hs).2.1
theorem Gs(o:HOk b x y m)(up:(b.cells.map (·.1)).Pairwise fun x y=>ltI x y=true)(h:HidF b x.toNat y.toNat m rows F1 G1 F2 G2)(ne:b.cells≠[]):((tby (hB b x y m F1 G1 F2 G2) x.toNat y.toNat).any fun s=>decide (s=[(b.marks.length:Int)]))=!eqD (wS b x.toNat y.toNat) (.int (-1)):=by
 have l4:=o.l4
 rw[←Gp o up h]
 unfold tby
 rw[if_neg (DV o up h ne)]
 have el:(hB b x y m F1 G1 F2 G2).marks.length=b.marks.length+1:=by
  show (b.marks++[m]).length=_
  rw[zzl,zzL]
 rw[el,zyw,List.any_eq_true]
 constructor
 ·rintro⟨s,hs,e⟩
  have e:s=[(b.marks.length:Int)]:=of_decide_eq_true e
  subst e
  exact(zzv.mp hs).2
 ·intro hT
  exact⟨_,zzv.mpr ⟨DX _ (by omega),hT⟩,decide_eq_true rfl⟩
end
theorem kU(ts:List (List Int)):shp (eQ ts)=true:=Shp.shp (n:=4) (.lst fun d hd=>by
 obtain⟨c,_,rfl⟩:=zzb.mp hd
 exact .tup fun d hd=>by
  obtain⟨k,_,rfl⟩:=zzb.mp hd
  exact .int)
theorem Bc(ts:List (List Int))(k:List Int):((ts.map aw).any fun z=>eqD z (aw k))=ts.any fun s=>decide (s=k):=by
 rw[List.any_map]
 congr 1
 funext s
 exact pI s k
theorem DZ(s:List Int)(k:Int):((s.map D.int).any fun z=>eqF z (.int k))=s.any fun v=>decide (v=k):=by
 rw[List.any_map]
 congr 1
theorem zv(s:List Int):(s.map D.int).all iF=true:=by
 rw[List.all_map,zyt]
 intro v _
 rfl
structure HbOk(b:Bk)(x y m:Int)(fb:Bk):Prop where
 ok:BkOk fb
 em:fb.m=b.m
 mks:fb.marks=b.marks++[m]
 wh:sums (fb.cells.map (·.2)) b.m=sums (b.cells.map (·.2)) b.m
 fs:FsOk b.m b.marks.length m fb.cells b.cells
 pa:∀so:List Int,(∀z∈so,0 <= z/\z<b.marks.length)->cc fb so=cc b so
 tl:told (tblB fb [(b.marks.length:Int)]) x.toNat y.toNat=List.replicate m.toNat (.int (-1))
 tr:trnB fb x.toNat y.toNat [(b.marks.length:Int)]=tkT (-1) (wS b x.toNat y.toNat)
 ne:fb.cells≠[]
 t1:((tby fb x.toNat y.toNat).any fun s=>decide (s=[(b.marks.length:Int)]))=!eqD (wS b x.toNat y.toNat) (.int (-1))
 t2:(tby fb x.toNat y.toNat).filter (fun s=>!(s.any fun v=>decide (v=(b.marks.length:Int))))=tby b x.toNat y.toNat
theorem HG{b:Bk}{x y m:Int}{rows:List Prt}{F1 G1 F2 G2:Nat->Nat->Int}(o:HOk b x y m)(up:(b.cells.map (·.1)).Pairwise fun x y=>ltI x y=true)(ne:b.cells≠[])(h:HidF b x.toNat y.toNat m rows F1 G1 F2 G2):HbOk b x y m (hidB b x.toNat y.toNat m F1 G1 F2 G2):=by
 rw[HD o up h]
 exact⟨HE o h,rfl,rfl,vL o up h,Go o up h,fun so hs=>vK o up h hs,zr o h,zt o up h,DV o up h ne,Gs o up h ne,Gr o up h ne⟩
theorem cut2(xs:List D):cutD xs none (some 2)=xs.take 2:=by
 have e1:HT.sIx xs.length 0 none=0:=rfl
 have e2:HT.sIx xs.length xs.length (some (2:Int))=min 2 xs.length:=HT.sIx_nat _ _ 2
 unfold cutD
 rw[e1,e2,List.drop_zero,Nat.sub_zero]
 by_cases h:2 <= xs.length
 ·rw[Nat.min_eq_left h]
 ·rw[Nat.min_eq_right (by omega),List.take_length,zyY (by omega)]
theorem mH(cs:List (List Int×Row)):shp (.lst (cs.map aX))=true:=Shp.shp (n:=4) (.lst (rY cs))
theorem vM(k:Nat)(d:D):(List.replicate k [d]).flatten=List.replicate k d:=by
 rw[List.flatten_replicate_singleton]
theorem Ea(k:Nat):shp (.lst (List.replicate k (.int (-1))))=true:=Shp.shp (n:=1) (.lst fun d hd=>by
 rw[zyk hd]
 exact .int)
theorem zw{d:D}(h:four d):shp (tkT (-1) d)=true:=by
 have k:Shp 1 (tkT (-1) d):=by
  unfold tkT
  split
  ·exact .tup fun e he=>by
    simp only[zzi,zzR,or_false]at he
    rcases he with rfl|rfl
    ·exact⟨rfl,by decide +kernel,zzG _⟩
    ·exact .int
  ·exact .tup fun e he=>by
    simp only[zzi,zzR,or_false]at he
    rcases he with rfl|rfl|rfl
    ·exact⟨rfl,by decide +kernel,zzG _⟩
    ·exact .int
    ·rcases h with rfl|rfl|rfl|rfl
     ·exact .non
     ·exact .int
     ·exact .int
     ·exact .int
 exact k.shp
set_option maxHeartbeats 2000000 in
theorem HH(T:Tx K mg):FnOk P w K mg base CX0 12 T.Eb T.zz ["_law_script"] (DL.spLaw K):=by
 refine lawD (k:=11) T.Gu.F sc_law rfl (by decide) (fun cdv A outer s H E hr=>ip (i:=1) sc_law.nd rfl oo (sg (tE T) (rm hr) rfl T.eF.m T.eF.F.kp T.eF.b .nil Cp (bD (pv 0) cT))) (fun cdv A outer s H E hr=>(aj (aC (i:=2) sc_law.nd rfl oo (ag (tQ T) tP (rm hr) rfl T.dw.m T.dw.F.kp T.dw.b (aa (ac 1 (pv 1)) (aa ae ad))))
   (aj (lL (ag (wJ T) wI (rm hr) rfl T.eB.m T.eB.F.kp T.eB.b (aa (ac 1 (pv 1)) (aa (ar (ac 2 (pv 2)) ae (fun _ _=>rfl)) ad))) (lG (n:=2) rfl (bG (ao (i:=3) sc_law.nd rfl oo) (bG (ao (i:=4) sc_law.nd rfl oo) gD))))
   (aH (aC (i:=2) sc_law.nd rfl oo (ag (tU T) tT (rm hr) rfl T.dv.m T.dv.F.kp T.dv.b (aa (ac 2 (pv 2)) (aa (ac 3 (pv 3)) (aa (ac 4 (pv 4)) ad)))))
   (aH (aC (i:=5) sc_law.nd rfl oo (bu dh ae (ag (aJ T) aK (rm hr) rfl T.af.m T.af.F.kp T.af.b (aa (ac 1 (pv 1)) (aa ae ad)))))
   (aH (aC (i:=6) sc_law.nd rfl oo (ag (AN T) AM (rm hr) rfl T.iV.m T.iV.F.kp T.iV.b (aa (ac 2 (pv 2)) (aa (ac 3 (pv 3)) (aa (ac 4 (pv 4)) (aa (ac 5 (pv 5)) ad))))))
   (aH (aC (i:=7) sc_law.nd rfl oo (aM ft rfl T.gv zyb (aa (ar (ac 2 (pv 2)) ae (fun _ _=>rfl)) ad)))
   (aj (cG (PWD.pt (sE (aN (kB hr) (ag (gk T) gj (rm hr) rfl T.aW.m T.aW.F.kp T.aW.b (aa (ac 6 (pv 6)) ad)) (ag (gk T) gj (rm hr) rfl T.aW.m T.aW.F.kp T.aW.b (aa (ac 2 (pv 2)) ad)) (aB _)) (lE (aN (kB hr) (ag (gX T) gU (rm hr) rfl T.bi.m T.bi.F.kp T.bi.b (aa (ac 6 (pv 6)) (aa (ac 7 (pv 7)) (aa (ac 5 (pv 5)) ad)))) (ac 2 (pv 2)) (aB _))))) (ai (aE zP)) aQ)
   (aH (aC (i:=8) sc_law.nd rfl oo (aO bH rfl T.bS rfl (aa (aF (FC (aF (PCD.pld (aA (N':=["_law_mark","_law_pen_here"]) rfl rfl dk rfl (.own (.cap (j:=1) rfl oo rfl .nil)) dk (cg rfl T.cS (aa (ac 7 (pv 7)) ad)) (fun B=>(ao (i:=0) ndB rfl oo)) (fun B=>(jm (aN (eL hr) (ag (aJ T) aK (rm hr) rfl T.af.m T.af.F.kp T.af.b (aa (ac 1 (pv 1)) (aa ae ad))) ae (aB _)))) (fun B=>(ac 0 (pv 0)))))) sL (oM ae))) ad)))
   (aH (dZ PassesOwn.never rfl (bF (aF (xN (aF (dE (aa (aS ad) (aa (ac 8 (pv 8)) (aa (Fw (ac 8 (pv 8)) (mY gx ae)) ad))))) (aF (PCD.pld (aA (N':=["_law_mark"]) rfl rfl dk rfl (.own .nil) dk (cg rfl T.cS (aa (ac 7 (pv 7)) ad)) (fun B=>(ao (i:=0) ndB rfl oo)) (fun B=>aL) (fun B=>(aS (aa (ac 0 (pv 0)) ad))))))))) (ao (i:=9) sc_law.nd rfl oo) (ai (cG (aN (kB hr) (ag (jK T) jJ (rm hr) rfl T.bq.m T.bq.F.kp T.bq.b (aa (ac 6 (pv 6)) (aa (ac 9 (pv 9)) ad))) (ag (jK T) jJ (rm hr) rfl T.bq.m T.bq.F.kp T.bq.b (aa (ac 2 (pv 2)) (aa (ac 9 (pv 9)) ad))) (aB _)) (ai (aE zP)) aQ)))
   (aH (aC (i:=10) sc_law.nd rfl oo (ag (oa T) nZ (rm hr) rfl T.ce.m T.ce.F.kp T.ce.b (aa (ac 6 (pv 6)) (aa (aS (aa (ac 7 (pv 7)) ad)) ad))))
   (aj (aC (i:=11) sc_law.nd rfl oo (ag (gk T) gj (rm hr) rfl T.aW.m T.aW.F.kp T.aW.b (aa (ac 2 (pv 2)) ad)))
   (aH (aC (i:=12) sc_law.nd rfl oo (ag (tW T) tV (rm hr) rfl T.dz.m T.dz.F.kp T.dz.b (aa (ar (ac 11 (pv 11)) (ac 3 (pv 3)) (fun _ _=>rfl)) (aa (ar (ac 11 (pv 11)) (ac 4 (pv 4)) (fun _ _=>rfl)) ad))))
   (aj (aC (i:=13) sc_law.nd rfl oo (aS (aa lB (aa (mY gx ae) ad))))
   (aH (cG (aN (kB hr) (ac 12 (pv 12)) (mY gx ae) (aB _)) (ai (aC (i:=13) sc_law.nd rfl oo (aS (aa lB (aa (mY gx ae) (aa (ac 12 (pv 12)) ad)))))) aQ)
   (aj (cG (PWD.pt (sE (aN (kB hr) (ag (BJ T) BI (rm hr) rfl T.ku.m T.ku.F.kp T.ku.b (aa (ac 10 (pv 10)) (aa (ac 3 (pv 3)) (aa (ac 4 (pv 4)) ad)))) (aF (xO (aF (dE (aa (mY gx ae) ad))) (ac 5 (pv 5)))) (aB _)) (lE (aN (kB hr) (ag (rK T) rJ (rm hr) rfl T.cP.m T.cP.F.kp T.cP.b (aa (ac 10 (pv 10)) (aa (ac 3 (pv 3)) (aa (ac 4 (pv 4)) ad)))) (ac 13 (pv 13)) (aB _))))) (ai (aE zP)) aQ)
   (aH (aC (i:=14) sc_law.nd rfl oo (ag (mz T) my (rm hr) rfl T.bK.m T.bK.F.kp T.bK.b (aa (ac 6 (pv 6)) (aa (ac 3 (pv 3)) (aa (ac 4 (pv 4)) ad)))))
   (aj (cG (aN (kB hr) (iC (FX hr) (aS (aa (ac 7 (pv 7)) ad)) (ac 14 (pv 14)) rfl) (iC (kB hr) (ac 12 (pv 12)) (mY gx ae) (aB _)) (aB _)) (ai (aE zP)) aQ)
   (ai (aE (iC (eL hr) (aF (PCD.pld (aA (N':=["_law_marks","_law_last"]) rfl rfl dk rfl (.own (.cap (j:=7) rfl oo rfl .nil)) dk (bF (ac 14 (pv 14))) (fun B=>(ao (i:=0) ndB rfl oo)) (fun B=>(jm (aN At (ac 1 (pv 1)) (ac 0 (pv 0)) rfl))) (fun B=>(ac 0 (pv 0)))))) (ag (mz T) my (rm hr) rfl T.bK.m T.bK.F.kp T.bK.b (aa (ac 2 (pv 2)) (aa (ac 3 (pv 3)) (aa (ac 4 (pv 4)) ad)))) (aB _)))))))))))))))))))))) ?_
 refine⟨rfl,⟨by decide,by decide⟩,fun b0 bo0 bk0 bs0=>⟨rfl,b0.m,rfl,⟨bo0.m2,bo0.m6⟩,fun x y ab=>⟨rfl,?_⟩⟩⟩
 refine⟨fun ρ=>∃b:Bk,BkOk b/\b.marks.length <= 4/\b.cells.length <= 10/\((b.cells.map (·.1)).Pairwise fun x y=>ltI x y=true)/\7 <= (whB b x.toNat).1 - (whB b x.toNat).2/\7 <= (whB b y.toNat).2/\AbOk b.m x y/\ρ=[.nil,.val .pen,.val (aG b),.val (.int x),.val (.int y),.nil,.nil,.nil,.nil,.nil,.nil,.nil,.nil,.nil,.nil],⟨rfl,b0,x,y,rfl,bo0,bk0,bs0,ab,fun b h1 h2 h3 h4 h5 h6 h7 h8=>⟨b,h1,by have:=bs0.mks;rw[h4];omega,h5,h6,h7,h8,by rw[h3];exact ab,rfl⟩⟩,?_⟩
 rintro _ ⟨b,bo,m4,c10,up,w1,w2,ab,rfl⟩
 clear bo0 bk0 bs0
 have ne:b.cells≠[]:=fun z=>by
  unfold whB at w2
  rw[z]at w2
  exact absurd (show (7:Int) <= 0 from w2) (by decide)
 refine⟨fun ρ=>∃m:Int,(2 <= m/\m <= 6)/\ρ=[.nil,.val .pen,.val (aG b),.val (.int x),.val (.int y),.val (.int m),.nil,.nil,.nil,.nil,.nil,.nil,.nil,.nil,.nil],⟨rfl,⟨by decide,by decide⟩,fun r r0 r1=>⟨2+r,⟨by omega,by omega⟩,rfl⟩⟩,?_⟩
 rintro _ ⟨m,⟨m2,m6⟩,rfl⟩
 have ho:HOk b x y m:=⟨bo,c10,ab.a0,ab.a1,ab.b0,ab.b1,ab.ne,m2,m6,by omega⟩
 refine⟨fun ρ=>∃fb:Bk,HbOk b x y m fb/\ρ=[.nil,.val .pen,.val (aG b),.val (.int x),.val (.int y),.val (.int m),.val (aG fb),.nil,.nil,.nil,.nil,.nil,.nil,.nil,.nil],⟨rfl,b,x,y,m,rfl,ho,fun z=>by omega,fun hz rows F1 G1 F2 G2 hf=>⟨_,HG ho up ne hf,rfl⟩⟩,?_⟩
 rintro _ ⟨fb,hb,rfl⟩
 refine⟨fun ρ=>ρ=[.nil,.val .pen,.val (aG b),.val (.int x),.val (.int y),.val (.int m),.val (aG fb),.val (.int b.marks.length),.nil,.nil,.nil,.nil,.nil,.nil,.nil],?_,?_⟩
 ·show _=_
  have e:((b.marks.map D.int).length:Int)=b.marks.length:=by rw[zza]
  rw[←e]
  rfl
 rintro _ rfl
 have x0:=ab.a0
 have x1:=ab.a1
 have y0:=ab.b0
 have y1:=ab.b1
 have efb:fb=⟨b.m,b.marks++[m],fb.cells⟩:=by
  have h1:=hb.em
  have h2:=hb.mks
  cases fb
  simp only at h1 h2
  rw[h1,h2]
 have sums_row:∀bk:Bk,BkOk bk->shp (rowD (sums (bk.cells.map (·.2)) bk.m))=true:=fun bk o=>(zm _).shp
 have ewh:rowD (sums (fb.cells.map (·.2)) fb.m)=rowD (sums (b.cells.map (·.2)) b.m):=by rw[hb.em,hb.wh]
 have hpt:∀Q:D->Prop,Q (aG b)->gPT [aG fb,.int b.marks.length,.int m] Q:=fun Q q=>⟨b.m,b.marks,m,fb.cells,b.cells,by rw[←efb],bo.m6,m4,⟨m2,m6⟩,hb.fs,q⟩
 refine⟨rfl,fb,rfl,hb.ok,rfl,b,rfl,bo,⟨vd ewh (sums_row b bo),sums_row b bo⟩,wE ewh (sums_row b bo) ⟨rfl,hpt _ ⟨⟨pQ b,pQ b⟩,pE (pQ b) ?_⟩⟩⟩
 refine⟨fun ρ=>∃so:List Int,SoOk b so/\ρ=[.nil,.val .pen,.val (aG b),.val (.int x),.val (.int y),.val (.int m),.val (aG fb),.val (.int b.marks.length),.val (aw so),.nil,.nil,.nil,.nil,.nil,.nil],⟨⟨by omega,by omega⟩,?_⟩,?_⟩
 ·refine bb (fun pre acc ρ=>∃A:List Int,acc=A.map D.int/\(∀z∈A,0 <= z/\z<pre.length)/\A.Nodup/\A.length <= pre.length/\∃s,ρ=[s,.val .pen]) (fun acc ρ hN=>?_) (fun pre d post acc ρ Y e hN hY=>?_) _ ⟨[],rfl,fun z hz=>by simp at hz,zyP,zzj _,_,rfl⟩
  ·obtain⟨A,rfl,a1,a2,a3,s,rfl⟩:=hN
   rw[bf,zza,zzJ,zzP]at a1 a3
   have ec:cutD (A.map D.int) none (some 2)=(A.take 2).map D.int:=by rw[cut2,List.map_take]
   show qH [.lst (cutD (A.map D.int) none (some 2))] _
   rw[ec]
   refine⟨A.take 2,⟨fun z hz=>a1 z (List.mem_of_mem_take hz),a2.sublist (List.take_sublist _ _),?_⟩,rfl⟩
   rw[zyF]
   omega
  ·obtain⟨A,rfl,a1,a2,a3,s,rfl⟩:=hN
   have hd:d=.int (pre.length:Nat)/\pre.length<b.marks.length:=by
    have hg:(eJ 0 ((b.marks.length:Int)).toNat)[pre.length]? = some d:=by
     rw[e,zzF (zzj _),Nat.sub_self]
     rfl
    rw[bf,zzP,zzn]at hg
    by_cases z:pre.length<b.marks.length
    ·rw[zyy z]at hg
     simp at hg
     exact⟨hg.symm,z⟩
    ·rw[zyK (by rw[zzJ];omega)]at hg
     cases hg
   obtain⟨rfl,pl⟩:=hd
   refine⟨rfl,⟨by decide,by decide⟩,fun r r0 r1=>⟨⟨rfl,rfl⟩,fun z=>⟨?_,hY _ _ ⟨A++[(pre.length:Int)],by rw[zzo];rfl,fun v hv=>?_,?_,by simp;omega,_,rfl⟩⟩,fun z=>hY _ _ ⟨A,rfl,fun v hv=>?_,a2,by simp;omega,_,rfl⟩⟩⟩
   ·rw[zza]
    exact zzD (show A.length <= 5 by omega) (by decide)
   ·rw[zzl,zzL]
    rcases zzx.mp hv with hv|hv
    ·have:=a1 v hv
     omega
    ·rw[zzw.mp hv]
     omega
   ·refine zyN.mpr ⟨a2,by simp,fun v hv u hu e=>?_⟩
    have:=a1 v hv
    rw[e,zzw.mp hu]at this
    omega
   ·rw[zzl,zzL]
    have:=a1 v hv
    omega
 rintro _ ⟨so,soo,rfl⟩
 have sof:∀s:List Int,SoOk b s->SoOk fb s:=fun s o=>⟨fun z hz=>⟨(o.it z hz).1,Int.lt_of_lt_of_le (o.it z hz).2 (by rw[hb.mks,zzl,zzL];omega)⟩,o.nd,o.len⟩
 obtain⟨ts,hts⟩:∃ts:List (List Int),ts=[[],so,so.reverse]++(List.range b.marks.length).map fun(k:Nat)=>[(k:Int)]:=⟨_,rfl⟩
 have tso:∀s∈ts,SoOk b s:=fun s hs=>by
  rw[hts]at hs
  rcases zzx.mp hs with hs|hs
  ·simp only[zzi,zzR,or_false]at hs
   rcases hs with rfl|rfl|rfl
   ·exact⟨fun z hz=>by simp at hz,zyP,by decide⟩
   ·exact soo
   ·exact⟨fun z hz=>soo.it z (List.mem_reverse.mp hz),(List.reverse_perm so).nodup_iff.mpr soo.nd,by rw[List.length_reverse];exact soo.len⟩
  ·obtain⟨k,hk,rfl⟩:=zzb.mp hs
   have hk:=zzy.mp hk
   exact⟨fun z hz=>by rw[zzw.mp hz];omega,by simp,by simp⟩
 refine⟨fun ρ=>∃s9:Sl,ρ=[.nil,.val .pen,.val (aG b),.val (.int x),.val (.int y),.val (.int m),.val (aG fb),.val (.int b.marks.length),.val (aw so),s9,.nil,.nil,.nil,.nil,.nil],?_,?_⟩
 ·refine⟨sz,rfl,sz,⟨by omega,by omega⟩,?_⟩
  refine bd (fun d=>.tup [d]) (fun ρ=>∃s,ρ=[s]) (by rw[bf,zza,zzJ,zzP];exact zzk (show b.marks.length <= 10 by omega) (by decide)) (fun d hd ρ Y Z hN hY=>?_) _ ⟨_,rfl⟩ ?_
  ·obtain⟨s,rfl⟩:=hN
   exact Br.t ⟨sz,hY _ ⟨_,rfl⟩⟩
  ·have e:[aw [],aw so,D.tup ((so.map D.int).reverse)]++(eJ 0 ((b.marks.length:Int)).toNat).map (fun d=>D.tup [d])=ts.map aw:=by
    rw[hts,zzo,bf,zzP,zzh,zzh]
    congr 1
    ·rw[←List.map_reverse]
     rfl
    ·apply zzp
     intro k _
     show D.tup [D.int (0+(k:Int))]=_
     rw[Int.zero_add]
     rfl
   refine⟨?_,?_⟩
   ·rw[zza,bf,zza,zzJ]
    exact zzk (show 3+b.marks.length <= 10 by omega) (by decide)
   show kA _ _ ([aw [],aw so,D.tup ((so.map D.int).reverse)]++(eJ 0 ((b.marks.length:Int)).toNat).map (fun d=>D.tup [d])) _ _
   rw[e]
   refine qI (fun ρ=>∃s9:Sl,ρ=[.nil,.val .pen,.val (aG b),.val (.int x),.val (.int y),.val (.int m),.val (aG fb),.val (.int b.marks.length),.val (aw so),s9,.nil,.nil,.nil,.nil,.nil]) (fun ρ h=>h) (fun d hd ρ X hN hX=>?_) _ ⟨_,rfl⟩
   obtain⟨s,rfl⟩:=hN
   obtain⟨s',hs',rfl⟩:=zzb.mp hd
   have so':=tso s' hs'
   have ep:D.lst ((cc fb s').map aX)=D.lst ((cc b s').map aX):=by rw[hb.pa s' so'.it]
   exact⟨rfl,fb,s',rfl,hb.ok,sof s' so',rfl,b,s',rfl,bo,so',⟨vd ep (mH _),mH _⟩,wE ep (mH _) (hX _ ⟨_,rfl⟩)⟩
 rintro _ ⟨s9,rfl⟩
 have sol:SoOk fb [(b.marks.length:Int)]:=⟨fun z hz=>by rw[zzw.mp hz,hb.mks,zzl,zzL];omega,by simp,by simp⟩
 obtain⟨tb,htb⟩:∃tb,tb=tblB fb [(b.marks.length:Int)]:=⟨_,rfl⟩
 obtain⟨w,hw⟩:∃w,w=wS b x.toNat y.toNat:=⟨_,rfl⟩
 have w4:four w:=by rw[hw];exact zu _ _ _
 refine⟨fun ρ=>ρ=[.nil,.val .pen,.val (aG b),.val (.int x),.val (.int y),.val (.int m),.val (aG fb),.val (.int b.marks.length),.val (aw so),s9,.val (.lst (tb.map rowD)),.nil,.nil,.nil,.nil],⟨sz,rfl,fb,[(b.marks.length:Int)],rfl,hb.ok,sol,by rw[htb];rfl⟩,?_⟩
 rintro _ rfl
 have rs:=BL (m:=b.m) (rows:=b.cells.map (·.2)) (fun r hr=>by obtain⟨c,hc,rfl⟩:=zzb.mp hr;exact(bo.it c hc).2.1) (by rw[zza];exact bo.c60)
 have cx:=(bI rs (h:=x.toNat) (by omega)).2
 have cy:=(bI rs (h:=y.toNat) (by omega)).2
 rw[cI (by omega)]at cx cy
 refine⟨rfl,b,rfl,bo,fun ρ=>∃s11:Sl,ρ=[.nil,.val .pen,.val (aG b),.val (.int x),.val (.int y),.val (.int m),.val (aG fb),.val (.int b.marks.length),.val (aw so),s9,.val (.lst (tb.map rowD)),s11,.val w,.nil,.nil],fH x0 x1 (fH y0 y1 ⟨rfl,⟨cx.bt.mono (by decide),cx.bw.mono (by decide),cy.bt.mono (by decide),cy.bw.mono (by decide)⟩,.val (rowD (sums (b.cells.map (·.2)) b.m)),by rw[hw];rfl⟩),?_⟩
 rintro _ ⟨s11,rfl⟩
 refine⟨sz,fun ρ=>ρ=[.nil,.val .pen,.val (aG b),.val (.int x),.val (.int y),.val (.int m),.val (aG fb),.val (.int b.marks.length),.val (aw so),s9,.val (.lst (tb.map rowD)),s11,.val w,.val (tkT (-1) w),.nil],⟨⟨ve w4,rfl⟩,fun z=>⟨sz,?_⟩,fun z=>?_⟩,?_⟩
 ·have z:¬eqD w (.int (-1))=true:=by simpa using z
  show _=_
  unfold tkT
  rw[if_neg z]
  rfl
 ·have z:eqD w (.int (-1))=true:=by simpa using z
  show _=_
  unfold tkT
  rw[if_pos z]
  rfl
 rintro _ rfl
 have tbo:Tbl b.m tb:=by
  have:=rM hb.ok hb.ne [(b.marks.length:Int)]
  rw[hb.em,←htb]at this
  exact this
 have etl:D.lst (told tb x.toNat y.toNat)=D.lst (List.replicate m.toNat [D.int (-1)]).flatten:=by rw[htb,hb.tl,vM]
 have srp:shp (D.lst (List.replicate m.toNat [D.int (-1)]).flatten)=true:=by rw[vM];exact Ea _
 have etr:kE (told tb x.toNat y.toNat) (fG tb x.toNat y.toNat)=tkT (-1) w:=by rw[htb,hw];exact hb.tr
 refine⟨rfl,b.m,tb,rfl,tbo,⟨x0,x1,y0,y1,ab.ne⟩,⟨sz,⟨⟨by omega,by omega⟩,?_⟩,⟨vd etl srp,srp⟩,wE etl srp ⟨rfl,b.m,tb,rfl,tbo,⟨x0,x1,y0,y1,ab.ne⟩,⟨vd etr (zw w4),zw w4⟩,wE etr (zw w4) ?_⟩⟩⟩
 ·exact zzk (m:=100) (by simp;omega) (by decide)
 refine⟨fun ρ=>ρ=[.nil,.val .pen,.val (aG b),.val (.int x),.val (.int y),.val (.int m),.val (aG fb),.val (.int b.marks.length),.val (aw so),s9,.val (.lst (tb.map rowD)),s11,.val w,.val (tkT (-1) w),.val (eQ (tby fb x.toNat y.toNat))],⟨rfl,fb,x,y,rfl,hb.ok,by rw[hb.em];exact ab,rfl⟩,?_⟩
 rintro _ rfl
 have e1:D.bl (((tby fb x.toNat y.toNat).map aw).any fun z=>eqD z (aw [(b.marks.length:Int)]))=D.bl (!eqD w (.int (-1))):=by rw[Bc,hb.t1,hw]
 refine⟨sz,⟨_,rfl,(pP [(b.marks.length:Int)]).shp,kU _,⟨ve w4,rfl⟩,⟨rfl,rfl⟩,wE e1 rfl ?_⟩⟩
 have tl31:(tby fb x.toNat y.toNat).length <= 31:=by
  have mk5:=hb.ok.mk5
  unfold tby
  rw[if_neg hb.ne]
  exact zzk (zyc _ _) (iR _ mk5 _ (by omega))
 refine vm (l:=tby fb x.toNat y.toNat) aw aw (fun s=>!(s.any fun v=>decide (v=(b.marks.length:Int)))) (fun ρ=>∃s,ρ=[s,.val (.int b.marks.length)]) (by omega) (fun s hs ρ Y Z hN hY hZ=>?_) _ ⟨_,rfl⟩ ?_
 ·obtain⟨s',rfl⟩:=hN
  refine⟨⟨rfl,zv s⟩,?_⟩
  show Br (!((s.map D.int).any fun z=>eqF z (.int b.marks.length))) _ _
  rw[DZ]
  exact⟨fun z=>hY z _ ⟨_,rfl⟩,fun z=>hZ z _ ⟨_,rfl⟩⟩
 ·rw[hb.t2]
  refine⟨rfl,b,x,y,rfl,bo,ab,⟨kU _,kU _⟩,?_⟩
  exact congrArg D.bl (uz (kU (tby b x.toNat y.toNat)))
end
set_option maxHeartbeats 0 in
theorem all_mk{l:PySem.W.OpenLaw}{w:World}{K:PySem.W.Frag}{h:Heap}{mg:Str->Option Value}{fa f0 f1 f2 f3 f4 f5 f6 f7 f8 f9 f10 f11 f12 f13 f14 f15 f16 f17 f18 f19 f20 f21 f22 f23 f24 f25 f26 f27 f28 f29 f30 f31 f32 f33 f34 f35 f36 f37 f38 f39 f40 f41 f42 f43:Addr}(X:K.In h)(G:h.Ns mainGlobals mg)(hfa:mg "law" = some (.ref fa))
  {e0 e1 e2 e3 e4 e5 e6 e7 e8 e9 e10 e11 e12 e13 e14 e15 e16 e17 e18 e19 e20 e21 e22 e23 e24 e25 e26 e27 e28 e29 e30 e31 e32 e33 e34 e35 e36 e37 e38 e39 e40 e41 e42 e43:FuncData}
  (a0:FA K "is_whole" jx f0 e0)
  (a1:FA K "is_within" gI f1 e1)
  (a2:FA K "together" jy f2 e2)
  (a3:FA K "together_by_house" bV f3 e3)
  (a4:FA K "said" yB f4 e4)
  (a5:FA K "beside" oW f5 e5)
  (a6:FA K "gathered" jz f6 e6)
  (a7:FA K "is_tried" jA f7 e7)
  (a8:FA K "check_house" eO f8 e8)
  (a9:FA K "check_pair" fw f9 e9)
  (a10:FA K "houses_of" gJ f10 e10)
  (a11:FA K "parted" oY f11 e11)
  (a12:FA K "ills_of" lW f12 e12)
  (a13:FA K "counts_of" gK f13 e13)
  (a14:FA K "all_at" oZ f14 e14)
  (a15:FA K "spread" pj f15 e15)
  (a16:FA K "parts_by" jB f16 e16)
  (a17:FA K "whole_of" jC f17 e17)
  (a18:FA K "within" pq f18 e18)
  (a19:FA K "table_by" jD f19 e19)
  (a20:FA K "values_by" gL f20 e20)
  (a21:FA K "without" lX f21 e21)
  (a22:FA K "check_mark" fA f22 e22)
  (a23:FA K "check_marks" eP f23 e23)
  (a24:FA K "hidden" pw f24 e24)
  (a25:FA K "split" tw f25 e25)
  (a26:FA K "poured" pz f26 e26)
  (a27:FA K "filled" pA f27 e27)
  (a28:FA K "sums_of" lY f28 e28)
  (a29:FA K "says" yF f29 e29)
  (a30:FA K "turning" lZ f30 e30)
  (a31:FA K "turned_or_kept" cQ f31 e31)
  (a32:FA K "turned_by" gM f32 e32)
  (a33:FA K "choices" ma f33 e33)
  (a34:FA K "longer" pB f34 e34)
  (a35:FA K "_law_pen" jF f35 e35)
  (a36:FA K "_law_next" gN f36 e36)
  (a37:FA K "_law_count" fB f37 e37)
  (a38:FA K "_law_book" gO f38 e38)
  (a39:FA K "_law_two" jG f39 e39)
  (a40:FA K "_law_said" gP f40 e40)
  (a41:FA K "_law_more" gQ f41 e41)
  (a42:FA K "_law_put_together" bW f42 e42)
  (a43:FA K "law" Du f43 e43)
  (z0:PySem.W.nsIn K mainGlobals "ValueError" = some none) (z1:PySem.W.nsIn K mainGlobals "sum" = some none) (z2:PySem.W.nsIn K mainGlobals "tuple" = some none) (z3:PySem.W.nsIn K mainGlobals "any" = some none) (z4:PySem.W.nsIn K mainGlobals "len" = some none) (z5:PySem.W.nsIn K mainGlobals "list" = some none) (z6:PySem.W.nsIn K mainGlobals "enumerate" = some none) (z7:PySem.W.nsIn K mainGlobals "range" = some none) (z8:PySem.W.nsIn K mainGlobals "isinstance" = some none) (z9:PySem.W.nsIn K mainGlobals "int" = some none) (z10:PySem.W.nsIn K mainGlobals "zip" = some none) (z11:PySem.W.nsIn K mainGlobals "bool" = some none) (z12:PySem.W.nsIn K mainGlobals "sorted" = some none) (z13:PySem.W.nsIn K mainGlobals "set" = some none) (z14:PySem.W.nsIn K mainGlobals "min" = some none) (z15:PySem.W.nsIn K mainGlobals "dict" = some none)
  {cD cu bU cz:Tok}
  (fW:PySem.W.nsIn K mainGlobals "MOST_KINDS" = some (some (.int 6 cD)))
  (fO:PySem.W.nsIn K mainGlobals "MOST_MARKS" = some (some (.int 5 cu)))
  (eX:PySem.W.nsIn K mainGlobals "LEAST_PARTS" = some (some (.int 2 bU)))
  (fN:PySem.W.nsIn K mainGlobals "MOST_PARTS" = some (some (.int 8 cz)))
  :
  ∃fd:FuncData,(∀(s:Shared) (v:Value),BindsTo s fd ⟨[v],[]⟩ [("_law_script",v)])/\∀base:Heap,K.In base->base.Ns mainGlobals mg->FnOk l.prog w K mg base CX0 12 fa fd ["_law_script"] (DL.spLaw K):=by
 have e:=hfa.symm.trans (PySem.W.mg_of X G a43.a)
 cases e
 let T:Tx K mg:={ jU:=f0,im:=e0,eE:=a0.d1 X G fun _ _ _ _ _ _ _=>rfl,ik:=f1,fT:=e1,aD:=a1.d3 X G fun _ _ _ _ _ _ _ _ _=>rfl,jW:=f2,ii:=e2,eC:=a2.d1 X G fun _ _ _ _ _ _ _=>rfl,bZ:=f3,bR:=e3,au:=a3.d2 X G fun _ _ _ _ _ _ _ _=>rfl,zy:=f4,tY:=e4,kt:=a4.d2 X G fun _ _ _ _ _ _ _ _=>rfl,pZ:=f5,mQ:=e5,jc:=a5.d2 X G fun _ _ _ _ _ _ _ _=>rfl,gq:=f6,fe:=e6,br:=a6.d2 X G fun _ _ _ _ _ _ _ _=>rfl,jQ:=f7,hU:=e7,eD:=a7.d1 X G fun _ _ _ _ _ _ _=>rfl,eY:=f8,dX:=e8,bn:=a8.d2 X G fun _ _ _ _ _ _ _ _=>rfl,fV:=f9,eW:=e9,aT:=a9.d3 X G fun _ _ _ _ _ _ _ _ _=>rfl,hV:=f10,fY:=e10,bJ:=a10.d1 X G fun _ _ _ _ _ _ _=>rfl,kW:=f11,iW:=e11,iZ:=a11.d3 X G fun _ _ _ _ _ _ _ _ _=>rfl,mO:=f12,jX:=e12,aU:=a12.d1 X G fun _ _ _ _ _ _ _=>rfl,gY:=f13,fR:=e13,bh:=a13.d2 X G fun _ _ _ _ _ _ _ _=>rfl,qa:=f14,mI:=e14,dN:=a14.d3 X G fun _ _ _ _ _ _ _ _ _=>rfl,pY:=f15,mV:=e15,dG:=a15.d2 X G fun _ _ _ _ _ _ _ _=>rfl,gr:=f16,eV:=e16,bq:=a16.d2 X G fun _ _ _ _ _ _ _ _=>rfl,jP:=f17,ic:=e17,aW:=a17.d1 X G fun _ _ _ _ _ _ _=>rfl,pX:=f18,mL:=e18,dL:=a18.d3 X G fun _ _ _ _ _ _ _ _ _=>rfl,gs:=f19,eT:=e19,ce:=a19.d2 X G fun _ _ _ _ _ _ _ _=>rfl,gZ:=f20,gc:=e20,du:=a20.d2 X G fun _ _ _ _ _ _ _ _=>rfl,mU:=f21,jO:=e21,cN:=a21.d2 X G fun _ _ _ _ _ _ _ _=>rfl,fX:=f22,eU:=e22,bv:=a22.d2 X G fun _ _ _ _ _ _ _ _=>rfl,ff:=f23,dW:=e23,cr:=a23.d2 X G fun _ _ _ _ _ _ _ _=>rfl,pV:=f24,mP:=e24,iV:=a24.df X G fun us hl=>match us,hl with|[_,_,_,_],_=>fun _ _ _ _ _ _=>rfl,tZ:=f25,pW:=e25,fU:=a25.d2 X G fun _ _ _ _ _ _ _ _=>rfl,qb:=f26,mR:=e26,dM:=a26.d2 X G fun _ _ _ _ _ _ _ _=>rfl,pU:=f27,mK:=e27,jd:=a27.d2 X G fun _ _ _ _ _ _ _ _=>rfl,mT:=f28,jS:=e28,fQ:=a28.d1 X G fun _ _ _ _ _ _ _=>rfl,vN:=f29,qd:=e29,ku:=a29.d3 X G fun _ _ _ _ _ _ _ _ _=>rfl,mJ:=f30,jY:=e30,cP:=a30.d3 X G fun _ _ _ _ _ _ _ _ _=>rfl,cR:=f31,cJ:=e31,bC:=a31.d2 X G fun _ _ _ _ _ _ _ _=>rfl,eZ:=f32,dJ:=e32,bK:=a32.d3 X G fun _ _ _ _ _ _ _ _ _=>rfl,mM:=f33,jR:=e33,ge:=a33.d1 X G fun _ _ _ _ _ _ _=>rfl,qc:=f34,mS:=e34,jb:=a34.d2 X G fun _ _ _ _ _ _ _ _=>rfl,jV:=f35,ig:=e35,eF:=a35.d1 X G fun _ _ _ _ _ _ _=>rfl,fg:=f36,dI:=e36,af:=a36.d2 X G fun _ _ _ _ _ _ _ _=>rfl,fZ:=f37,fc:=e37,cO:=a37.d1 X G fun _ _ _ _ _ _ _=>rfl,hW:=f38,fS:=e38,dw:=a38.d2 X G fun _ _ _ _ _ _ _ _=>rfl,jT:=f39,ij:=e39,eB:=a39.d2 X G fun _ _ _ _ _ _ _ _=>rfl,io:=f40,fP:=e40,dz:=a40.d2 X G fun _ _ _ _ _ _ _ _=>rfl,ie:=f41,gb:=e41,dv:=a41.d3 X G fun _ _ _ _ _ _ _ _ _=>rfl,ca:=f42,bQ:=e42,bi:=a42.d3 X G fun _ _ _ _ _ _ _ _ _=>rfl,Eb:=fa,zz:=e43,Gu:=a43.d1 X G fun _ _ _ _ _ _ _=>rfl,se:=zzQ X G z0,zx:=zzQ X G z1,bS:=zzQ X G z2,Gw:=zzQ X G z3,gv:=zzQ X G z4,rZ:=zzQ X G z5,hG:=zzQ X G z6,cS:=zzQ X G z7,dH:=zzQ X G z8,wL:=zzQ X G z9,Be:=zzQ X G z10,BV:=zzQ X G z11,kX:=zzQ X G z12,Gx:=zzQ X G z13,Gv:=zzQ X G z14,BW:=zzQ X G z15,cD:=cD,iY:=PySem.W.mg_of X G fW,cu:=cu,iX:=PySem.W.mg_of X G fO,bU:=bU,gz:=PySem.W.mg_of X G eX,cz:=cz,je:=PySem.W.mg_of X G fN }
 exact⟨e43,fun s v=>by obtain⟨_,_,_,_,_,_,_,_,_,q,_⟩:=a43.F.ex;subst q;exact .of_eq rfl,fun base _ _=>HH T⟩
end My
theorem PySem.W.Fast.tw12350682849827337389 : True := trivial
theorem PySem.W.Fast.tw3161078411940838645 : True := trivial
theorem PySem.W.Fast.tw9969073664597711632 : True := trivial
theorem PySem.W.Fast.tw8330686601928699129 : True := trivial
theorem PySem.W.Fast.tw9362189929422492544 : True := trivial
theorem PySem.W.Fast.tw4847635686756944322 : True := trivial
theorem PySem.W.Fast.tw15847562354792516791 : True := trivial
theorem PySem.W.Fast.tw15884957394462461457 : True := trivial
theorem PySem.W.Fast.tw16442010232001959457 : True := trivial
theorem PySem.W.Fast.tw2909992397878683030 : True := trivial
theorem PySem.W.Fast.tw16985034683606408046 : True := trivial
theorem PySem.W.Fast.tw9073709358772914587 : True := trivial
theorem PySem.W.Fast.tw1851542958435765730 : True := trivial
theorem PySem.W.Fast.tw14142316348488206226 : True := trivial
theorem PySem.W.Fast.tw1445992475205988217 : True := trivial
theorem PySem.W.Fast.tw18246699834334632672 : True := trivial
theorem PySem.W.Fast.tw5408443253992353745 : True := trivial
theorem PySem.W.Fast.tw3140805720884362737 : True := trivial
theorem PySem.W.Fast.tw12456420693652417516 : True := trivial
theorem PySem.W.Fast.tw4666198106426412177 : True := trivial
theorem PySem.W.Fast.tw18090579813852270367 : True := trivial
theorem PySem.W.Fast.tw18153010244243165405 : True := trivial
theorem PySem.W.Fast.tw7057385895536035146 : True := trivial
theorem PySem.W.Fast.tw8181207341215623457 : True := trivial
theorem PySem.W.Fast.tw9256970671377633655 : True := trivial
theorem PySem.W.Fast.tw14712989148138580640 : True := trivial
theorem PySem.W.Fast.tw1517464069853339925 : True := trivial
theorem PySem.W.Fast.tw13571282189840487021 : True := trivial
theorem PySem.W.Fast.tw15409155296397895028 : True := trivial
theorem PySem.W.Fast.tw7866352574811688543 : True := trivial
theorem PySem.W.Fast.tw2580894946166469867 : True := trivial
theorem PySem.W.Fast.tw12264801596898958078 : True := trivial
theorem PySem.W.Fast.tw9994324458435201247 : True := trivial
theorem PySem.W.Fast.tw3275573540066771937 : True := trivial
theorem PySem.W.Fast.tw5280653771173399572 : True := trivial
theorem PySem.W.Fast.tw8211540071586529462 : True := trivial
theorem PySem.W.Fast.tw7956910010588802660 : True := trivial
theorem PySem.W.Fast.tw18345539307525647040 : True := trivial
theorem PySem.W.Fast.tw8183702254167630424 : True := trivial
theorem PySem.W.Fast.tw9824931048565011572 : True := trivial
theorem PySem.W.Fast.tw12999391896316588251 : True := trivial
theorem PySem.W.Fast.tw11529286570590525315 : True := trivial
theorem PySem.W.Fast.tw4767020581766447096 : True := trivial
theorem PySem.W.Fast.tw4958936792234249486 : True := trivial
theorem PySem.W.Fast.tw2933099871768352673 : True := trivial
theorem PySem.W.Fast.tw9406920209071918074 : True := trivial
theorem PySem.W.Fast.tw17673232622801657673 : True := trivial
theorem PySem.W.Fast.tw170630303824941618 : True := trivial
theorem PySem.W.Fast.tw9320017980033198513 : True := trivial
theorem PySem.W.Fast.tw11231716304836419232 : True := trivial
theorem PySem.W.Fast.tw15457819133154505534 : True := trivial
theorem PySem.W.Fast.tw12425484379176448750 : True := trivial
theorem PySem.W.Fast.tw8084665212827525377 : True := trivial
theorem PySem.W.Fast.tw15800111313212801800 : True := trivial
theorem PySem.W.Fast.tw3098960802340340662 : True := trivial
theorem PySem.W.Fast.tw4847218553793899906 : True := trivial
theorem PySem.W.Fast.tw5736179848573186685 : True := trivial
theorem PySem.W.Fast.tw9665858356493453097 : True := trivial
theorem PySem.W.Fast.tw5298077004802763352 : True := trivial
theorem PySem.W.Fast.tw6285170096707400626 : True := trivial
theorem PySem.W.Fast.tw6692213197603754612 : True := trivial
theorem PySem.W.Fast.tw4620987605307319719 : True := trivial
theorem PySem.W.Fast.tw14759405602480217423 : True := trivial
theorem PySem.W.Fast.tw12960865666078065800 : True := trivial
theorem PySem.W.Fast.tw5939823477867978484 : True := trivial
theorem PySem.W.Fast.tw13153155870822373724 : True := trivial
theorem PySem.W.Fast.tw759065153875163844 : True := trivial
theorem PySem.W.Fast.tw9162113847863566688 : True := trivial
theorem PySem.W.Fast.tw7897526078221520666 : True := trivial
theorem PySem.W.Fast.tw2440406085899972162 : True := trivial
theorem PySem.W.Fast.tw18137744979956089582 : True := trivial
theorem PySem.W.Fast.tw8083719108580073203 : True := trivial
theorem PySem.W.Fast.tw4358917577926555673 : True := trivial
theorem PySem.W.Fast.tw7850706285278960980 : True := trivial
theorem PySem.W.Fast.tw1932816291457871631 : True := trivial
theorem PySem.W.Fast.tw13171319811746779573 : True := trivial
theorem PySem.W.Fast.tw1079643482108234094 : True := trivial
theorem PySem.W.Fast.tw18112212912482760706 : True := trivial
theorem PySem.W.Fast.tw657802460263356357 : True := trivial
theorem PySem.W.Fast.tw13744854417855152750 : True := trivial
theorem PySem.W.Fast.tw11591477157184629139 : True := trivial
theorem PySem.W.Fast.tw6146985014709194100 : True := trivial
theorem PySem.W.Fast.tw15611014816894955540 : True := trivial
theorem PySem.W.Fast.tw8361771179252717512 : True := trivial
theorem PySem.W.Fast.tw6879574340270167202 : True := trivial
theorem PySem.W.Fast.tw12567642788910542219 : True := trivial
theorem PySem.W.Fast.tw5665934660161100057 : True := trivial
theorem PySem.W.Fast.tw7330698626218248514 : True := trivial
theorem PySem.W.Fast.tw4275027781346101844 : True := trivial
theorem PySem.W.Fast.tw8098126282547137978 : True := trivial
theorem PySem.W.Fast.tw10903933282915099755 : True := trivial
theorem PySem.W.Fast.tw11558846958177281870 : True := trivial
theorem PySem.W.Fast.tw9198389062385404230 : True := trivial
theorem PySem.W.Fast.tw5627688864216699104 : True := trivial
theorem PySem.W.Fast.tw14761409793318865745 : True := trivial
theorem PySem.W.Fast.tw14421200941678799667 : True := trivial
theorem PySem.W.Fast.tw10106314367489213621 : True := trivial
theorem PySem.W.Fast.tw8912607230739800030 : True := trivial
theorem PySem.W.Fast.tw10435673498720564269 : True := trivial
theorem PySem.W.Fast.tw7815222265703828683 : True := trivial
theorem PySem.W.Fast.tw9285843543183193381 : True := trivial
theorem PySem.W.Fast.tw6869641198423108166 : True := trivial
theorem PySem.W.Fast.tw14106574679265913695 : True := trivial
theorem PySem.W.Fast.tw14791316942788641490 : True := trivial
theorem PySem.W.Fast.tw16252904637529702784 : True := trivial
theorem PySem.W.Fast.tw3205422171609380554 : True := trivial
theorem PySem.W.Fast.tw17765530883668512053 : True := trivial
theorem PySem.W.Fast.tw4400587179916613239 : True := trivial
theorem PySem.W.Fast.tw7650612381514470778 : True := trivial
theorem PySem.W.Fast.tw1027374589928236482 : True := trivial
open PySem PySem.W PyProof.Rows
set_option maxRecDepth 100000 in
set_option maxHeartbeats 0 in
theorem PySem.Challenge.cw_othersum_k41_whole_a_hidden_mark_turns_holds : PySem.Challenge.rw_othersum_k41_whole_a_hidden_mark_turns.Holds := by
  w_on; o_law; k_head; (case hw => w_witness2)
  k_fill
  refine L2.walk_ofK (l := PySem.Challenge.rw_othersum_k41_whole_a_hidden_mark_turns) (n := 63) (k := 12) (x := "_law_script") (CX := L2.CX0) (sp := DL.spLaw) rfl (by decide) rfl ⟨rfl, by decide, by decide⟩ (fun w h Y => PySem.W.kIn_of Y) ?F DL.law_sp (fun _ _ _ _ z => z)
  case F =>
    intro w mg fa h KX G hmg
    refine' My.all_mk KX G hmg (L2.fa_mk ?a0 ?l0 ?c0 ?k0) (L2.fa_mk ?a1 ?l1 ?c1 ?k1) (L2.fa_mk ?a2 ?l2 ?c2 ?k2) (L2.fa_mk ?a3 ?l3 ?c3 ?k3) (L2.fa_mk ?a4 ?l4 ?c4 ?k4) (L2.fa_mk ?a5 ?l5 ?c5 ?k5) (L2.fa_mk ?a6 ?l6 ?c6 ?k6) (L2.fa_mk ?a7 ?l7 ?c7 ?k7) (L2.fa_mk ?a8 ?l8 ?c8 ?k8) (L2.fa_mk ?a9 ?l9 ?c9 ?k9) (L2.fa_mk ?a10 ?l10 ?c10 ?k10) (L2.fa_mk ?a11 ?l11 ?c11 ?k11) (L2.fa_mk ?a12 ?l12 ?c12 ?k12) (L2.fa_mk ?a13 ?l13 ?c13 ?k13) (L2.fa_mk ?a14 ?l14 ?c14 ?k14) (L2.fa_mk ?a15 ?l15 ?c15 ?k15) (L2.fa_mk ?a16 ?l16 ?c16 ?k16) (L2.fa_mk ?a17 ?l17 ?c17 ?k17) (L2.fa_mk ?a18 ?l18 ?c18 ?k18) (L2.fa_mk ?a19 ?l19 ?c19 ?k19) (L2.fa_mk ?a20 ?l20 ?c20 ?k20) (L2.fa_mk ?a21 ?l21 ?c21 ?k21) (L2.fa_mk ?a22 ?l22 ?c22 ?k22) (L2.fa_mk ?a23 ?l23 ?c23 ?k23) (L2.fa_mk ?a24 ?l24 ?c24 ?k24) (L2.fa_mk ?a25 ?l25 ?c25 ?k25) (L2.fa_mk ?a26 ?l26 ?c26 ?k26) (L2.fa_mk ?a27 ?l27 ?c27 ?k27) (L2.fa_mk ?a28 ?l28 ?c28 ?k28) (L2.fa_mk ?a29 ?l29 ?c29 ?k29) (L2.fa_mk ?a30 ?l30 ?c30 ?k30) (L2.fa_mk ?a31 ?l31 ?c31 ?k31) (L2.fa_mk ?a32 ?l32 ?c32 ?k32) (L2.fa_mk ?a33 ?l33 ?c33 ?k33) (L2.fa_mk ?a34 ?l34 ?c34 ?k34) (L2.fa_mk ?a35 ?l35 ?c35 ?k35) (L2.fa_mk ?a36 ?l36 ?c36 ?k36) (L2.fa_mk ?a37 ?l37 ?c37 ?k37) (L2.fa_mk ?a38 ?l38 ?c38 ?k38) (L2.fa_mk ?a39 ?l39 ?c39 ?k39) (L2.fa_mk ?a40 ?l40 ?c40 ?k40) (L2.fa_mk ?a41 ?l41 ?c41 ?k41) (L2.fa_mk ?a42 ?l42 ?c42 ?k42) (L2.fa_mk ?a43 ?l43 ?c43 ?k43) ?z0 ?z1 ?z2 ?z3 ?z4 ?z5 ?z6 ?z7 ?z8 ?z9 ?z10 ?z11 ?z12 ?z13 ?z14 ?z15 ?fW ?fO ?eX ?fN
    case a0 | l0 | c0 | k0 | a1 | l1 | c1 | k1 | a2 | l2 | c2 | k2 | a3 | l3 | c3 | k3 | a4 | l4 | c4 | k4 | a5 | l5 | c5 | k5 | a6 | l6 | c6 | k6 | a7 | l7 | c7 | k7 | a8 | l8 | c8 | k8 | a9 | l9 | c9 | k9 | a10 | l10 | c10 | k10 | a11 | l11 | c11 | k11 | a12 | l12 | c12 | k12 | a13 | l13 | c13 | k13 | a14 | l14 | c14 | k14 | a15 | l15 | c15 | k15 | a16 | l16 | c16 | k16 | a17 | l17 | c17 | k17 | a18 | l18 | c18 | k18 | a19 | l19 | c19 | k19 | a20 | l20 | c20 | k20 | a21 | l21 | c21 | k21 | a22 | l22 | c22 | k22 | a23 | l23 | c23 | k23 | a24 | l24 | c24 | k24 | a25 | l25 | c25 | k25 | a26 | l26 | c26 | k26 | a27 | l27 | c27 | k27 | a28 | l28 | c28 | k28 | a29 | l29 | c29 | k29 | a30 | l30 | c30 | k30 | a31 | l31 | c31 | k31 | a32 | l32 | c32 | k32 | a33 | l33 | c33 | k33 | a34 | l34 | c34 | k34 | a35 | l35 | c35 | k35 | a36 | l36 | c36 | k36 | a37 | l37 | c37 | k37 | a38 | l38 | c38 | k38 | a39 | l39 | c39 | k39 | a40 | l40 | c40 | k40 | a41 | l41 | c41 | k41 | a42 | l42 | c42 | k42 | a43 | l43 | c43 | k43 | z0 | z1 | z2 | z3 | z4 | z5 | z6 | z7 | z8 | z9 | z10 | z11 | z12 | z13 | z14 | z15 | fW | fO | eX | fN => k_is
#print axioms PySem.Challenge.cw_othersum_k41_whole_a_hidden_mark_turns_holds
