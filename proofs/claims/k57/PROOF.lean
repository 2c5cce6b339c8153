import PyProof.Rows.All
import Wide.All
import OpenK.AllK
import Wide.FinOn
import Lean
import PyProof.EqAt
import PyProof.EqKinds
import PyProof.TupleCall
import PySem.Challenge.RW_othersum_k57_whole_each_turning_by_each
noncomputable section
set_option Elab.async false
set_option linter.all false
set_option maxRecDepth 100000
abbrev zza:=@List.length_map
abbrev zzb:=@List.mem_cons_of_mem
abbrev zzc:=@List.map_cons
abbrev zzd:=@List.mem_cons_self
abbrev zze:=@List.mem_map
abbrev zzf:=@PySem.Heap.get?_push_of_some
abbrev zzg:=@List.map_map
abbrev zzh:=@Nat.le_refl
abbrev zzi:=@List.length_append
abbrev zzj:=@List.mem_cons
abbrev zzk:=@Nat.le_trans
abbrev zzl:=@List.map_append
abbrev zzm:=@List.getElem?_eq_some_iff
abbrev zzn:=@PySem.Heap.get?_push_size
abbrev zzo:=@Bool.false_ne_true
abbrev zzp:=@List.mem_filter
abbrev zzq:=@List.getElem?_map
abbrev zzr:=@PySem.Heap.lt_size
abbrev zzs:=@List.size_toArray
abbrev zzt:=@List.find?_cons_of_pos
abbrev zzu:=@List.find?_cons_of_neg
abbrev zzv:=@List.map_congr_left
abbrev zzw:=@List.mem_append
abbrev zzx:=@List.mem_singleton
abbrev zzy:=@List.append_nil
abbrev zzz:=@Nat.lt_of_lt_of_le
abbrev zzA:=@Classical.choose_spec
abbrev zzB:=@List.getElem?_eq_getElem
abbrev zzC:=@Nat.lt_of_le_of_lt
abbrev zzD:=@List.append_cancel_left
abbrev zzE:=@PySem.boot_len
abbrev zzF:=@List.getD_eq_getElem?_getD
abbrev zzG:=@List.getElem?_set_ne
abbrev zzH:=@Nat.zero_le
abbrev zzI:=@List.sum_cons
abbrev zzJ:=@Nat.ne_of_lt
abbrev zzK:=@List.length_eq_zero_iff
abbrev zzL:=@List.nodup_cons
abbrev zzM:=@List.mem_of_getElem?
abbrev zzN:=@List.length_filter_le
abbrev zzO:=@List.all_eq_true
abbrev zzP:=@PySem.W.mg_none_of
abbrev zzQ:=@List.filter_append
abbrev zzR:=@List.mem_range
abbrev zzS:=@PySem.mem_of_lookup
abbrev zzT:=@Bool.and_eq_true
abbrev zzU:=@List.getElem?_append_right
abbrev zzV:=@List.mem_append_right
abbrev zzW:=@List.filter_cons_of_pos
abbrev zzX:=@PySem.Heap.SameBut.update
abbrev zzY:=@Int.toNat_natCast
abbrev zzZ:=@List.length_cons
abbrev zya:=@List.filter_cons_of_neg
abbrev zyb:=@List.map_nil
abbrev zyc:=@List.length_range
abbrev zyd:=@List.length_take
abbrev zye:=@List.flatMap_append
abbrev zyf:=@Int.toNat_of_nonneg
abbrev zyg:=@PySem.Heap.size_push
abbrev zyh:=@Option.some.inj
abbrev zyi:=@List.not_mem_nil
abbrev zyj:=@List.flatMap_singleton
abbrev zyk:=@List.getElem?_append_left
abbrev zyl:=@List.replicate_succ
abbrev zym:=@List.append_assoc
abbrev zyn:=@Nat.lt_irrefl
abbrev zyo:=@List.eq_of_mem_replicate
abbrev zyp:=@PySem.W.kia_one
abbrev zyq:=@Nat.not_lt_zero
abbrev zyr:=@Bool.false_eq_true
abbrev zys:=@List.lookup_cons
abbrev zyt:=@PySem.F.plainAttrs_list
abbrev zyu:=@PySem.W.kia_tup
abbrev zyv:=@PySem.Heap.get?_update_self
abbrev zyw:=@Array.getElem?_toList
abbrev zyx:=@Int.le_refl
abbrev zyy:=@List.flatten_cons
abbrev zyz:=@List.toList_toArray
abbrev zyA:=@Option.map_eq_some_iff
abbrev zyB:=@Int.emod_lt_of_pos
abbrev zyC:=@Bool.eq_iff_iff
abbrev zyD:=@List.foldl_cons
abbrev zyE:=@List.length_singleton
abbrev zyF:=@Option.map_some
abbrev zyG:=@List.filter_map
abbrev zyH:=@PySem.W.mg_of
abbrev zyI:=@List.drop_eq_getElem_cons
abbrev zyJ:=@Array.getElem?_eq_getElem
abbrev zyK:=@Array.length_toList
abbrev zyL:=@List.getElem?_range
abbrev zyM:=@PySem.F.plainAttrs_dict
abbrev zyN:=@List.getElem?_cons_succ
abbrev zyO:=@List.find?_cons
abbrev zyP:=@Int.emod_nonneg
abbrev zyQ:=@Array.getElem?_eq_none
namespace L2
open PySem PySem.Spec PyProof.Rows
abbrev Key:=Sum Int Str
def vS:Key->Value->Bool
 |.inl k,v=>Value.isInt k v
 |.inr x,v=>Value.isStrOf x v
def keyH(w:World):Key->Int
 |.inl k=>hashInt k
 |.inr x=>hashStr w x
theorem bB:∀{k:Key}{v:Value},vS k v=true->(∃i t,k=Sum.inl i/\v=Value.int i t)∨(∃x t,k=Sum.inr x/\v=Value.str x t)
 |.inl i,v,h=>by
  obtain⟨t,e⟩:=Value.isInt_shape (k:=i) (v:=v) h
  exact .inl ⟨i,t,rfl,e⟩
 |.inr x,v,h=>by
  obtain⟨t,e⟩:=Value.isStrOf_shape (x:=x) (v:=v) h
  exact .inr ⟨x,t,rfl,e⟩
theorem wV(i:Int)(t:Tok):vS (.inl i) (.int i t)=true:=by simp[vS,Value.isInt]
theorem wW(x:Str)(t:Tok):vS (.inr x) (.str x t)=true:=by simp[vS,Value.isStrOf]
theorem DP(a b:Int):decide ((Sum.inl a:Key)=Sum.inl b)=(a == b):=by
 by_cases e:a=b
 ·subst e;simp
 ·have h:¬(Sum.inl a:Key)=Sum.inl b:=fun q=>e (Sum.inl.inj q)
  rw[decide_eq_false h]
  exact(beq_eq_false_iff_ne.mpr e).symm
theorem DQ(a b:Str):decide ((Sum.inr a:Key)=Sum.inr b)=decide (a=b):=by
 by_cases e:a=b
 ·subst e;simp
 ·have h:¬(Sum.inr a:Key)=Sum.inr b:=fun q=>e (Sum.inr.inj q)
  rw[decide_eq_false h,decide_eq_false e]
theorem DR(a:Int)(b:Str):decide ((Sum.inl a:Key)=Sum.inr b)=false:=decide_eq_false (fun q=>nomatch q)
theorem DU(a:Str)(b:Int):decide ((Sum.inr a:Key)=Sum.inl b)=false:=decide_eq_false (fun q=>nomatch q)
def ce(prog:Program)(w:World):PySem.KeyKind prog w Key where
 is:=vS
 hash:=keyH w
 inj:=fun v a b ha hb=>by
  rcases bB ha with ⟨i,t,rfl,rfl⟩|⟨x,t,rfl,rfl⟩
  ·rcases bB hb with ⟨j,u,rfl,e⟩|⟨y,u,rfl,e⟩
   ·injection e with e1 _;rw[e1]
   ·exact nomatch e
  ·rcases bB hb with ⟨j,u,rfl,e⟩|⟨y,u,rfl,e⟩
   ·exact nomatch e
   ·injection e with e1 _;rw[e1]
 byValue:=fun k v h=>by
  rcases bB h with ⟨i,t,rfl,rfl⟩|⟨x,t,rfl,rfl⟩<;>rfl
 pyHash:=fun hv h=>by
  rcases bB hv with ⟨i,t,rfl,rfl⟩|⟨x,t,rfl,rfl⟩
  ·exact wpAny_pyHash_int h
  ·exact wpAny_pyHash_str h
 eqBool:=fun hu hv h=>by
  rcases bB hu with ⟨i,t,rfl,rfl⟩|⟨x,t,rfl,rfl⟩
  ·rcases bB hv with ⟨j,u,rfl,rfl⟩|⟨y,u,rfl,rfl⟩
   ·rw[DP]at h;exact wpAny_eqBool_int h
   ·rw[DR]at h;exact SeqAt.EqAt.int_str i t y u _ _ _ _ h
  ·rcases bB hv with ⟨j,u,rfl,rfl⟩|⟨y,u,rfl,rfl⟩
   ·rw[DU]at h;exact SeqAt.EqAt.str_int x t j u _ _ _ _ h
   ·rw[DQ]at h;exact wpAny_eqBool_str h
 «strs»:=fun k x t v h=>by
  rcases bB h with ⟨i,u,rfl,e⟩|⟨y,u,rfl,e⟩
  ·exact nomatch e
  ·injection e with e1 _
   subst e1
   cases v<;>rfl
theorem sH(prog:Program)(w:World)(i:Int)(t:Tok):(ce prog w).is (.inl i) (.int i t)=true:=wV i t
theorem sI(prog:Program)(w:World)(x:Str)(t:Tok):(ce prog w).is (.inr x) (.str x t)=true:=wW x t
inductive V where
 |non|bl (b:Bool)|int (i:Int)|str (x:Str)|byt (b:Array UInt8)|flt (b:UInt64)|ref (a:Addr)|ty (n:String)
 deriving DecidableEq
def RelV:V->Value->Prop
 |.non,u=>u=Value.none
 |.bl b,u=>u=Value.bool b
 |.int i,u=>∃t,u=Value.int i t
 |.str x,u=>∃t,u=Value.str x t
 |.byt b,u=>∃t,u=Value.bytes b t
 |.flt b,u=>∃t,u=Value.float b t
 |.ref a,u=>u=Value.ref a
 |.ty n,u=>u=Value.type n
abbrev Vals:List V->List Value->Prop:=Paired RelV
theorem Vals.length{xs:List V}{us:List Value}(r:Vals xs us):xs.length=us.length:=Paired.length r
theorem Vals.get:∀{xs:List V}{us:List Value}{i:Nat}{x:V},Vals xs us->xs[i]? = some x->∃u,us[i]? = some u/\RelV x u
 |_,_,_,_,.nil,e=>by simp at e
 |_,_,0,_,.cons r _,e=>by simp at e;subst e;exact⟨_,rfl,r⟩
 |_,_,i+1,x,.cons _ t,e=>by
  obtain⟨u,h1,h2⟩:=Vals.get (i:=i) (x:=x) t (by simpa using e)
  exact⟨u,by simpa using h1,h2⟩
theorem Vals.set{x:V}{u:Value}(r:RelV x u):∀{xs:List V}{us:List Value} (i:Nat),Vals xs us->Vals (xs.set i x) (us.set i u)
 |_,_,_,.nil=>.nil
 |_,_,0,.cons _ t=>.cons r t
 |_,_,i+1,.cons q t=>.cons q (Vals.set r i t)
theorem Vals.append:∀{xs ys:List V}{us ws:List Value},Vals xs us->Vals ys ws->Vals (xs++ys) (us++ws)
 |_,_,_,_,.nil,s=>s
 |_,_,_,_,.cons r t,s=>.cons r (Vals.append t s)
theorem Vals.take:∀{xs:List V}{us:List Value} (n:Nat),Vals xs us->Vals (xs.take n) (us.take n)
 |_,_,0,_=>.nil
 |_,_,_+1,.nil=>.nil
 |_,_,n+1,.cons r t=>.cons r (Vals.take n t)
theorem Vals.drop:∀{xs:List V}{us:List Value} (n:Nat),Vals xs us->Vals (xs.drop n) (us.drop n)
 |_,_,0,r=>r
 |_,_,_+1,.nil=>.nil
 |_,_,n+1,.cons _ t=>Vals.drop n t
def RelO:Option V->Option Value->Prop
 |some v,some u=>RelV v u
 |none,none=>True
 |_,_=>False
def KV{κ:Type}:List (κ×V)->List (κ×Value)->Prop:=Paired fun(p:κ×V) (q:κ×Value)=>p.1=q.1/\RelV p.2 q.2
def kV:Key->V
 |.inl i=>.int i
 |.inr x=>.str x
inductive HO where
  |lst (xs:List V)
  |tup (xs:List V)
  |dK (kvs:List (Key×V))|dT (kvs:List (List Key×V))
  |set (S:Int->Bool) (n:Nat)
  |ins (C dx:Addr) (fs:List (Str×V))
  |own (x:Addr)
  |xd (fs:List (Str×V))
  |met (f x:Addr)
  |rng (lo hi:Int)
  |frz (o:Obj) (u:HO)
  |tbl (ps:Array Value)
  |ext (φ:Heap->Prop)
abbrev Hp:=Addr->Option HO
def upd(H:Hp)(a:Addr)(o:HO):Hp:=fun b=>if b=a then some o else H b
theorem ak{H:Hp}{a:Addr}{o:HO}:upd H a o a=some o:=by unfold upd;rw[if_pos rfl]
theorem ao{H:Hp}{a b:Addr}{o:HO}(h:b≠a):upd H a o b=H b:=by unfold upd;rw[if_neg h]
theorem jl{H:Hp}{a b:Addr}{o u:HO}(h:H a=some o)(h':H b=some u)(d:o≠u):a≠b:=by
 intro e;subst e;rw[h]at h';exact d (zyh h')
theorem cP{H:Hp}{a b:Addr}{o:HO}(h:H a=some o)(h':H b=none):a≠b:=by
 intro e;subst e;rw[h]at h';cases h'
section
variable(P:Program)(w:World)
def NoDc(h:Heap)(a:Addr):Prop:=∃o,h.get? a=some o/\o.dict=none
def NdOr(h:Heap)(a:Addr)(xs:List V):Prop:=NoDc h a∨∃i x,xs=[V.int i,x]
def ObjOk(H:Hp)(h:Heap)(a:Addr):HO->Prop
 |.lst xs=>xs.length <= sizeLine/\∃(its:List Value) (n:Nat),Vals xs its/\h.get? a=some { cls:=.type "list",data:=.seq its.toArray n }
 |.tup xs=>(xs.length <= sizeLine/\NdOr h a xs)/\∃its:List Value,Vals xs its/\IsTup h a its.toArray
 |.dK kvs=>kvs.length <= sizeLine/\(a == sysModules)=false/\∃vs,KV kvs vs/\h.DictOf (ce P w) a vs
 |.dT kvs=>kvs.length <= sizeLine/\(a == sysModules)=false/\∃xs:List (List Key×Addr×Value),
   Paired (fun(p:List Key×V) (q:List Key×Addr×Value)=>p.1=q.1/\H q.2.1=some (.tup (p.1.map kV))/\RelV p.2 q.2.2) kvs xs /\
   ∃o es ep,h.get? a=some o/\o.ExactDict/\o.data=.dict es ep/\es.toList=xs.map (entryOfKey (tupleKind (ce P w)))/\(xs.map (·.1)).Nodup
 |.set S n=>h.SetOf (intKind P w) a S n
 |.ins C dx fs=>H dx=some (.own a)/\fs.length <= 1000/\dx≠a/\h.get? a=some (PySem.W.instObj C dx) /\
   ∃mA,h.Ns1 dx mA/\(∀f,RelO (fs.lookup f) (mA f))/\PySem.Within mA (fs.map (·.1))
 |.own _=>∃o,h.get? a=some o
 |.xd fs=>∃mA,h.Ns1 a mA/\∀f,RelO (fs.lookup f) (mA f)
 |.rng lo hi=>∃t u v,h.get? a=some { cls:=.type "range",data:=.fields #[.int lo t,.int hi u,.int 1 v] }
 |.frz o u=>h.get? a=some o/\ObjOk H h a u
 |.tbl ps=>h.get? a=some { cls:=.none,data:=.fields ps }
 |.met f x=>h.get? a=some (PySem.W.methodObj (.ref f) (.ref x))
 |.ext φ=>φ h/\(∃o,h.get? a=some o)/\∀h1 h2:Heap,φ h1->(∀o,h1.get? a=some o->h2.get? a=some o)->φ h2
def HOk(H:Hp)(h:Heap):Prop:=∀a o,H a=some o->ObjOk P w H h a o
end
section
variable{P:Program}{w:World}{H H':Hp}{h h':Heap}{a:Addr}{o:HO}
theorem ObjOk.lt(x:ObjOk P w H h a o):a<h.objs.size:=by
 cases o with
 |lst xs=>obtain⟨_,_,_,_,e⟩:=x;exact zzr e
 |tup xs=>obtain⟨_,_,_,p⟩:=x;exact p.lt
 |dK kvs=>obtain⟨_,_,_,_,o,_,_,e,_⟩:=x;exact zzr e
 |dT kvs=>obtain⟨_,_,_,_,o,_,_,e,_⟩:=x;exact zzr e
 |set S n=>obtain⟨o,_,_,_,e,_⟩:=x;exact zzr e
 |ins C dx fs=>obtain⟨_,_,_,e,_⟩:=x;exact zzr e
 |own y=>obtain⟨_,e⟩:=x;exact zzr e
 |xd fs=>obtain⟨_,⟨_,_,_,e,_⟩,_⟩:=x;exact zzr e
 |rng lo hi=>obtain⟨_,_,_,e⟩:=x;exact zzr e
 |frz ob u=>obtain⟨e,_⟩:=x;exact zzr e
 |tbl ps=>exact zzr (show h.get? a=some _ from x)
 |met f y=>exact zzr (show h.get? a=some _ from x)
 |ext φ=>obtain⟨_,⟨_,e⟩,_⟩:=x;exact zzr e
theorem Paired.mapP{α β:Type}{F G:α->β->Prop}:∀{l₁:List α}{l₂:List β},Paired F l₁ l₂->(∀a b,F a b->G a b)->Paired G l₁ l₂
 |_,_,.nil,_=>.nil
 |_,_,.cons r t,f=>.cons (f _ _ r) (Paired.mapP t f)
theorem ObjOk.stay(x:ObjOk P w H h a o)(k:∀b u,(b=a∨H b=some (.own a))->h.get? b=some u->h'.get? b=some u)
  (ho:∀b,H b=some (.own a)->H' b=some (.own a)) (ht:∀b xs,H b=some (.tup xs)->H' b=some (.tup xs)):ObjOk P w H' h' a o:=by
 induction o with
 |lst xs=>obtain⟨z,its,n,r,e⟩:=x;exact⟨z,its,n,r,k _ _ (.inl rfl) e⟩
 |tup xs=>obtain⟨⟨z,nz⟩,its,r,ob,e,c⟩:=x;exact⟨⟨z,nz.imp_left fun⟨o,e,n⟩=>⟨o,k _ _ (.inl rfl) e,n⟩⟩,its,r,ob,k _ _ (.inl rfl) e,c⟩
 |dK kvs=>obtain⟨z,y,vs,r,ob,es,ep,e,c⟩:=x;exact⟨z,y,vs,r,ob,es,ep,k _ _ (.inl rfl) e,c⟩
 |dT kvs =>
  obtain⟨z,y,xs,r,ob,es,ep,e,c⟩:=x
  exact⟨z,y,xs,Paired.mapP r fun p q z=>⟨z.1,ht _ _ z.2.1,z.2.2⟩,ob,es,ep,k _ _ (.inl rfl) e,c⟩
 |set S n=>obtain⟨ob,es,ep,t,e,c⟩:=x;exact⟨ob,es,ep,t,k _ _ (.inl rfl) e,c⟩
 |ins C dx fs =>
  obtain⟨d,z,ne,e,mA,⟨od,es,ep,e2,c⟩,r⟩:=x
  exact⟨ho _ d,z,ne,k _ _ (.inl rfl) e,mA,⟨od,es,ep,k _ _ (.inr d) e2,c⟩,r⟩
 |own y=>obtain⟨ob,e⟩:=x;exact⟨ob,k _ _ (.inl rfl) e⟩
 |xd fs=>obtain⟨mA,⟨od,es,ep,e,c⟩,r⟩:=x;exact⟨mA,⟨od,es,ep,k _ _ (.inl rfl) e,c⟩,r⟩
 |rng lo hi=>obtain⟨t,u,v,e⟩:=x;exact⟨t,u,v,k _ _ (.inl rfl) e⟩
 |frz ob u ih=>obtain⟨e,q⟩:=x;exact⟨k _ _ (.inl rfl) e,ih q⟩
 |tbl ps =>
  have e:h.get? a=some { cls:=.none,data:=.fields ps }:=x
  show h'.get? a=some { cls:=.none,data:=.fields ps }
  exact k a _ (.inl rfl) e
 |met f y =>
  have e:h.get? a=some (PySem.W.methodObj (.ref f) (.ref y)):=x
  show h'.get? a=some (PySem.W.methodObj (.ref f) (.ref y))
  exact k a _ (.inl rfl) e
 |ext φ=>obtain⟨p,⟨o,e⟩,st⟩:=x;exact⟨st _ _ p fun o q=>k _ _ (.inl rfl) q,⟨o,k _ _ (.inl rfl) e⟩,st⟩
theorem HOk.lt(x:HOk P w H h)(e:H a=some o):a<h.objs.size:=(x a o e).lt
theorem HOk.fresh(x:HOk P w H h)(e:h.objs.size <= a):H a=none:=by
 cases q:H a with
 |none=>rfl
 |some u=>exact absurd (zzz (x.lt q) e) (zyn _)
theorem HOk.kept(x:HOk P w H h)(k:∀b u,h.get? b=some u->h'.get? b=some u):HOk P w H h':=fun a o e =>
 (x a o e).stay (fun b u _ q=>k b u q) (fun _ q=>q) fun _ _ q=>q
theorem HOk.laid(x:HOk P w H h)(k:∀b u,h.get? b=some u->h'.get? b=some u)(hp:h.objs.size <= a)(new:ObjOk P w (upd H a o) h' a o):HOk P w (upd H a o) h':=fun b u e=>by
 have hn:=x.fresh hp
 by_cases hb:b=a
 ·subst hb;rw[ak]at e;cases e;exact new
 ·rw[ao hb]at e
  exact(x b u e).stay (fun c v _ q=>k c v q) (fun c q=>by rw[ao (cP q hn)];exact q) fun c xs q=>by rw[ao (cP q hn)];exact q
end
def Rd(H:Hp)(a:Addr)(u:HO):Prop:=H a=some u∨∃o,H a=some (.frz o u)
theorem Rd.ok{P:Program}{w:World}{H:Hp}{h:Heap}{a:Addr}{u:HO}(r:Rd H a u)(x:HOk P w H h):ObjOk P w H h a u:=by
 rcases r with r|⟨o,r⟩
 ·exact x a u r
 ·obtain⟨_,q⟩:=x a _ r
  exact q
def Mut:Option HO->Prop
 |some (.lst _)=>True
 |some (.dK _)=>True
 |some (.dT _)=>True
 |some (.set _ _)=>True
 |some (.ins _ _ _)=>True
 |some (.ext _)=>True
 |_=>False
section
variable{P:Program}{w:World}{H:Hp}{h h':Heap}{x e:Addr}{o':HO}
theorem HOk.write(ok:HOk P w H h)(mu:Mut (H x))(he:e=x∨H e=some (.own x))(k:∀b u,b≠e->h.get? b=some u->h'.get? b=some u)(heo:∃u,h'.get? e=some u)
  (new:ObjOk P w (upd H x o') h' x o'):HOk P w (upd H x o') h':=fun b u q=>by
 have nown:∀c y,H c=some (.own y)->c≠x:=fun c y r z=>by subst z;rw[r]at mu;exact mu
 have ntup:∀c xs,H c=some (.tup xs)->c≠x:=fun c xs r z=>by subst z;rw[r]at mu;exact mu
 by_cases hb:b=x
 ·subst hb;rw[ak]at q;cases q;exact new
 ·rw[ao hb]at q
  by_cases hbe:b=e
  ·have q':H b=some (.own x):=by
    rcases he with z|z
    ·exact absurd (hbe.trans z) hb
    ·rw[hbe];exact z
   rw[q]at q';cases q'
   obtain⟨v,hv⟩:=heo
   exact⟨v,by rw[hbe];exact hv⟩
  ·refine(ok b u q).stay (fun c v hc r=>k c v ?_ r) (fun c r=>by rw[ao (nown c b r)];exact r) fun c xs r=>by rw[ao (ntup c xs r)];exact r
   rcases hc with rfl|hc
   ·exact hbe
   ·rintro rfl
    rcases he with z|z
    ·exact nown c b hc z
    ·rw[hc]at z;cases z;exact hb rfl
end
structure Un(fs ex:List Addr)(H H':Hp)(h h':Heap):Prop where
 keep:∀b o,h.get? b=some o->H b=none->b∉fs->b∉ex->h'.get? b=some o
 slot:∀b o,h.get? b=some o->H b=none->b∈fs->b∉ex->∃sl,h'.get? b=some { o with slots:=sl }
 free:∀b o,h.get? b=some o->H b=none->b∉ex->H' b=none
 there:∀b o,h.get? b=some o->b∉ex->∃o',h'.get? b=some o'
 tups:∀b xs,H b=some (.tup xs)->H' b=some (.tup xs)
 frzs:∀b o u,H b=some (.frz o u)->H' b=some (.frz o u)
 tbls:∀b ps,H b=some (.tbl ps)->∃more,H' b=some (.tbl (ps++more))
section
variable{fs fs' ex ex':List Addr}{H H1:Hp}{h h1 h':Heap}{a x e:Addr}{o:HO}
theorem Un.any(u:Un fs ex H H1 h h1){b:Addr}{ob:Obj}(q:h.get? b=some ob)(n:H b=none)(hx:b∉ex):∃sl,h1.get? b=some { ob with slots:=sl }:=by
 by_cases hb:b∈fs
 ·exact u.slot b ob q n hb hx
 ·exact⟨ob.slots,u.keep b ob q n hb hx⟩
theorem Un.kept(k:∀b u,h.get? b=some u->h'.get? b=some u):Un fs ex H H h h' :=
 ⟨fun b ob q _ _ _=>k b ob q,fun b ob q _ _ _=>⟨ob.slots,k b ob q⟩,fun _ _ _ n _=>n,fun b ob q _=>⟨ob,k b ob q⟩,fun _ _ q=>q,fun _ _ _ q=>q,fun _ ps q=>⟨#[],by rw[q];simp⟩⟩
theorem Un.refl:Un fs ex H H h h:=Un.kept fun _ _ q=>q
theorem Un.laid(k:∀b u,h.get? b=some u->h'.get? b=some u)(hp:h.objs.size <= a)(hn:H a=none):Un fs ex H (upd H a o) h h' where
 keep:=fun b u q _ _ _=>k b u q
 slot:=fun b u q _ _ _=>⟨u.slots,k b u q⟩
 free:=fun b u q n _=>by rw[ao (zzJ (zzz (zzr q) hp))];exact n
 there:=fun b u q _=>⟨u,k b u q⟩
 tups:=fun b xs q=>by rw[ao (cP q hn)];exact q
 frzs:=fun b u xs q=>by rw[ao (cP q hn)];exact q
 tbls:=fun b ps q=>⟨#[],by rw[ao (cP q hn),q];simp⟩
theorem Un.write(mu:Mut (H x))(he:e=x∨H e=some (.own x))(k:∀b u,b≠e->h.get? b=some u->h'.get? b=some u)(heo:∃u,h'.get? e=some u):Un fs ex H (upd H x o) h h':=by
 have hx:∀b,H b=none->b≠x:=fun b n z=>by subst z;rw[n]at mu;exact mu
 have hb:∀b,H b=none->b≠e:=fun b n z=>by
  subst z
  rcases he with r|r
  ·exact hx b n r
  ·rw[n]at r;cases r
 have hm:∀b u,H b=some u->¬Mut (some u)->b≠x:=fun b u q nm z=>by subst z;rw[q]at mu;exact nm mu
 refine⟨fun b u q n _ _=>k b u (hb b n) q,fun b u q n _ _=>⟨u.slots,k b u (hb b n) q⟩,fun b u q n _=>by rw[ao (hx b n)];exact n,fun b u q _=>?_,
  fun b xs q=>by rw[ao (hm b _ q fun z=>z)];exact q,fun b u xs q=>by rw[ao (hm b _ q fun z=>z)];exact q,fun b ps q=>⟨#[],by rw[ao (hm b _ q fun z=>z),q];simp⟩⟩
 by_cases hbe:b=e
 ·subst hbe;exact heo
 ·exact⟨u,k b u hbe q⟩
theorem Un.mono(u:Un fs ex H H1 h h1)(hs:∀b∈fs,b∈fs')(hx:∀b∈ex,b∈ex'):Un fs' ex' H H1 h h1 :=
 ⟨fun b ob q n hb he=>u.keep b ob q n (fun z=>hb (hs b z)) fun z=>he (hx b z),fun _ _ q n _ he=>u.any q n fun z=>he (hx _ z),fun b ob q n he=>u.free b ob q n fun z=>he (hx b z),fun b ob q he=>u.there b ob q fun z=>he (hx b z),u.tups,u.frzs,u.tbls⟩
end
def trk(h:Heap)(H:Hp):List Addr:=(List.range h.objs.size).filter fun a=>(H a).isSome
def hidT(h:Heap)(H:Hp):Heap:=PySem.W.hideAll h (trk h H)
theorem wX(h:Heap)(H:Hp):(hidT h H).objs.size=h.objs.size:=PySem.W.hideAll_size _ _
theorem zK{h:Heap}{H:Hp}{b:Addr}{o:Obj}(e:h.get? b=some o)(n:H b=none):(hidT h H).get? b=some o :=
 PySem.W.hideAll_get _ e fun hm=>by
  have q:(H b).isSome=true:=(zzp.mp hm).2
  rw[n]at q;simp at q
theorem BW{h:Heap}{H:Hp}{b:Addr}{o:Obj}(e:(hidT h H).get? b=some o):h.get? b=some o/\H b=none:=by
 have e':h.get? b=some o:=PySem.W.of_hideAll (trk h H) e
 refine⟨e',?_⟩
 cases q:H b with
 |none=>rfl
 |some x =>
  have hm:b∈trk h H:=zzp.mpr ⟨zzR.mpr (zzr e'),by simp[q]⟩
  have z:(hidT h H).get? b=none:=PySem.W.hideAll_none (trk h H) hm
  rw[z]at e;cases e
structure Mod(K:PySem.W.Frag)(mg:Str->Option Value)(base:Heap):Prop where
 kin:K.In base
 glob:base.Ns mainGlobals mg
 blt:∃mb,base.Ns builtinsNs mb/\∀x:Str,x ≠ "__name__" -> mb x=bootBuiltins x
 nolimit:base.NoLimit
structure Cx where
 prog:Program
 w:World
 K:PySem.W.Frag
 mg:Str->Option Value
 base:Heap
 A:Around
 N:List Str
 s₀:Shared
 H₀:Hp
 env:Env
 outer:List Env
 stack:List Env
 ex:List Addr
 fn:Str->Bool
 calm:Bool
 pn:List (Addr×Obj)
 xe:Value->Shared->Prop
def frs(l:List Env):List Addr:=l.filterMap (·.frame)
abbrev Cx.fs(X:Cx):List Addr:=frs X.outer
def Vis(sc:Scope)(x:Str):Prop:=sc.names.lookup x=some .local∨sc.names.lookup x=some .cell∨sc.names.lookup x=some .free
def Loc(sc:Scope)(x:Str):Prop:=sc.names.lookup x=some .local∨sc.names.lookup x=some .cell
def Look(env:Env)(h:Heap)(m:Str->Option Value)(x:Str)(u:Value):Prop :=
 (env.kindOf x=some .local/\m x=some u)∨((env.kindOf x=some .cell∨env.kindOf x=some .free)/\∃c,env.cells.lookup x=some c/\h.IsCell c (some u))
structure Cx.Ok(X:Cx):Prop where
 mod:Mod X.K X.mg X.base
 kind:X.env.scope.kind=.function
 glob:X.env.globals=mainGlobals
 blt:X.env.builtins=builtinsNs
 above:X.s₀.heap.objs.size <= X.env.locals
 inj:∀x y c,X.env.cells.lookup x=some c->X.env.cells.lookup y=some c->x=y
 has:∀x,(X.env.kindOf x=some .cell∨X.env.kindOf x=some .free)->∃c,X.env.cells.lookup x=some c
 cab:∀x c,X.fn x=true->X.env.cells.lookup x=some c->X.s₀.heap.objs.size <= c
 hd:X.calm=true->X.A.handled=none
 frames:X.A.frames=some X.stack
 stk:X.stack=X.outer∨(X.stack=X.env::X.outer/\X.env.frame=some X.env.locals)
 exf:∀b∈X.ex,b≠X.env.locals/\∀x c,X.env.cells.lookup x=some c->c≠b
 bs:∀b o,X.base.get? b=some o->X.s₀.heap.get? b=some o/\X.H₀ b=none
 bsz:X.base.objs.size <= X.s₀.heap.objs.size
 noex:∀b o,X.base.get? b=some o->b∉X.ex
 exfs:∀b∈X.ex,b∉X.fs
 funs:X.s₀.heap.FunFrames X.base X.outer
 frf:∀b∈X.fs,X.H₀ b=none
structure Inv(X:Cx)(pins:List (Addr×Obj))(σ:List (Option V))(H:Hp)(s:Shared):Prop where
 ok:X.Ok
 os:s.os=X.s₀.os
 bare:AllBare s.gens
 base:Un X.fs X.ex X.H₀ H X.s₀.heap s.heap
 loc:∃m,s.heap.Ns X.env.locals m/\∀(i:Nat) (x:Str) (v:V),X.N[i]? = some x->σ[i]? = some (some v)->Vis X.env.scope x->∃u,RelV v u/\Look X.env s.heap m x u
 cell:∀x c,X.env.cells.lookup x=some c->∃v,s.heap.IsCell c v
 free:H X.env.locals=none
 freeC:∀x c,X.env.cells.lookup x=some c->H c=none
 pin:∀p∈X.pn++pins,s.heap.get? p.1=some p.2/\H p.1=none/\p.1≠X.env.locals/\p.1∉X.fs/\∀v,p.2.data ≠ .cell v
 hok:HOk X.prog X.w H s.heap
 len:σ.length=X.N.length
section
variable{X:Cx}{pins:List (Addr×Obj)}{σ:List (Option V)}{H H':Hp}{s:Shared}{h':Heap}
theorem Cx.Ok.nofr(ok:X.Ok){b:Addr}{o:Obj}(e:X.base.get? b=some o):b∉X.fs:=fun hb=>by
 have:=(ok.funs.mem hb).1
 rw[e]at this;cases this
theorem Inv.bs(I:Inv X pins σ H s):∀b o,X.base.get? b=some o->s.heap.get? b=some o/\H b=none:=fun b o e =>
 ⟨I.base.keep b o (I.ok.bs b o e).1 (I.ok.bs b o e).2 (I.ok.nofr e) (I.ok.noex b o e),I.base.free b o (I.ok.bs b o e).1 (I.ok.bs b o e).2 (I.ok.noex b o e)⟩
theorem Inv.bk(I:Inv X pins σ H s):∀b o,X.base.get? b=some o->s.heap.get? b=some o:=fun b o e=>(I.bs b o e).1
theorem Inv.mod(I:Inv X pins σ H s):Mod X.K X.mg X.base:=I.ok.mod
theorem Inv.kIn(I:Inv X pins σ H s):X.K.In s.heap:=I.ok.mod.kin.keeps I.bk
theorem Inv.lt(I:Inv X pins σ H s):X.env.locals<s.heap.objs.size:=let ⟨_,hn,_⟩:=I.loc;hn.lt
theorem Inv.sz(I:Inv X pins σ H s):X.s₀.heap.objs.size <= s.heap.objs.size:=zzk I.ok.above (Nat.le_of_lt I.lt)
theorem Inv.nofs(I:Inv X pins σ H s){a:Addr}(h:s.heap.objs.size <= a):a∉X.fs:=fun hb=>by
 obtain⟨_,o,ho,_⟩:=I.ok.funs.mem hb
 exact absurd (zzz (zzr ho) (zzk I.sz h)) (zyn _)
theorem Inv.cne(I:Inv X pins σ H s):∀x c,X.env.cells.lookup x=some c->c≠X.env.locals:=fun x c e z=>by
 obtain⟨v,o,ho,hd⟩:=I.cell x c e
 obtain⟨m,⟨o',es,ep,ho',hd',_⟩,_⟩:=I.loc
 rw[z,ho']at ho;cases ho;rw[hd']at hd;cases hd
theorem Inv.funs(I:Inv X pins σ H s):s.heap.FunFrames X.base X.outer:=by
 have all:∀(l:List Env),(∀b∈frs l,b∈X.fs)->X.s₀.heap.FunFrames X.base l->s.heap.FunFrames X.base l:=by
  intro l
  induction l with
  |nil=>intro _ _;trivial
  |cons env r ih =>
   intro hs hl
   obtain⟨hk,⟨L,o,hf,hn,ho,hd⟩,hr⟩:=hl
   have hL:L∈X.fs:=hs L (by unfold frs;rw[List.filterMap_cons,hf];exact zzd)
   obtain⟨sl,e⟩:=I.base.slot L o ho (I.ok.frf L hL) hL fun z=>I.ok.exfs L z hL
   exact⟨hk,⟨L,_,hf,hn,e,hd⟩,ih (fun b hb=>hs b (by unfold frs;rw[List.filterMap_cons,hf];exact zzb _ hb)) hr⟩
 exact all X.outer (fun _ hb=>hb) I.ok.funs
theorem Inv.stack(I:Inv X pins σ H s):s.heap.FunFrames X.base X.stack:=by
 rcases I.ok.stk with e|⟨e,hf⟩
 ·rw[e];exact I.funs
 ·rw[e]
  obtain⟨m,hn,_⟩:=I.loc
  refine .cons (by rw[I.ok.kind];decide) hf hn ?_ I.funs
  exact Heap.get?_none_of_le (zzk I.ok.bsz I.ok.above)
theorem Inv.stkSub(I:Inv X pins σ H s):∀b∈frs X.stack,b∈X.env.locals::X.fs:=fun b hb=>by
 rcases I.ok.stk with e|⟨e,hf⟩
 ·rw[e]at hb;exact zzb _ hb
 ·rw[e]at hb
  unfold frs at hb
  rw[List.filterMap_cons,hf]at hb
  exact hb
theorem Inv.stkFree(I:Inv X pins σ H s):∀b∈frs X.stack,H b=none:=fun b hb=>by
 rcases zzj.mp (I.stkSub b hb) with e|hb
 ·rw[e];exact I.free
 ·obtain⟨_,o,ho,_⟩:=I.ok.funs.mem hb
  exact I.base.free b o ho (I.ok.frf b hb) fun z=>I.ok.exfs b z hb
theorem Inv.step{g':Array GenState}{t':Nat}{d':Drawn}{ch:List Addr}(I:Inv X pins σ H s)
  (hch:∀b∈ch,(b∈X.ex∨X.s₀.heap.objs.size <= b)/\b≠X.env.locals/\(∀x c,X.env.cells.lookup x=some c->c≠b)/\∀p∈X.pn++pins,p.1≠b)
  (keep:∀b o,b≠X.env.locals->b∉X.fs->b∉ch->s.heap.get? b=some o->H b=none->h'.get? b=some o)
  (slot:∀b o,b≠X.env.locals->b∈X.fs->b∉ch->s.heap.get? b=some o->H b=none->∃sl,h'.get? b=some { o with slots:=sl }) (free:∀b o,b∉ch->s.heap.get? b=some o->H b=none->H' b=none)
  (there:∀b o,b∉ch->s.heap.get? b=some o->∃o',h'.get? b=some o')
  (tups:∀b xs,H b=some (.tup xs)->H' b=some (.tup xs)) (frzs:∀b o u,H b=some (.frz o u)->H' b=some (.frz o u)) (tbls:∀b ps,H b=some (.tbl ps)->∃more,H' b=some (.tbl (ps++more)))
  (ns:∀m,s.heap.Ns X.env.locals m->h'.Ns X.env.locals m) (hok:HOk X.prog X.w H' h') (hg:AllBare g') :
  Inv X pins σ H' { s with heap:=h',gens:=g',drawn:=d',toks:=t' }:=by
 have neL:∀b o,X.s₀.heap.get? b=some o->b≠X.env.locals:=fun b o e=>zzJ (zzz (zzr e) I.ok.above)
 have neC:∀b o,X.s₀.heap.get? b=some o->b∉X.ex->b∉ch:=fun b o e hx hb=>by
  rcases (hch b hb).1 with z|z
  ·exact hx z
  ·exact absurd (zzz (zzr e) z) (zyn _)
 have cellK:∀x c,X.env.cells.lookup x=some c->∀v,s.heap.IsCell c v->h'.IsCell c v:=fun x c e v ⟨o,ho,hd⟩=>by
  have nch:c∉ch:=fun z=>(hch c z).2.2.1 x c e rfl
  by_cases hc:c∈X.fs
  ·obtain⟨sl,q⟩:=slot c o (I.cne x c e) hc nch ho (I.freeC x c e)
   exact⟨_,q,hd⟩
  ·exact⟨o,keep c o (I.cne x c e) hc nch ho (I.freeC x c e),hd⟩
 refine⟨I.ok,I.os,hg,⟨fun b o e n hb hx=>?_,fun b o e n hb hx=>?_,fun b o e n hx=>?_,fun b o e hx=>?_,fun b xs e=>tups b xs (I.base.tups b xs e),fun b o xs e=>frzs b o xs (I.base.frzs b o xs e),fun b ps e=>?_⟩,?_,fun x c e=>?_,?_,fun x c e=>?_,fun p hp=>?_,hok,I.len⟩
 ·exact keep b o (neL b o e) hb (neC b o e hx) (I.base.keep b o e n hb hx) (I.base.free b o e n hx)
 ·obtain⟨sl,e1⟩:=I.base.slot b o e n hb hx
  obtain⟨sl',e2⟩:=slot b _ (neL b o e) hb (neC b o e hx) e1 (I.base.free b o e n hx)
  exact⟨sl',e2⟩
 ·obtain⟨o',e1⟩:=I.base.there b o e hx
  exact free b o' (neC b o e hx) e1 (I.base.free b o e n hx)
 ·obtain⟨o',e1⟩:=I.base.there b o e hx
  exact there b o' (neC b o e hx) e1
 ·obtain⟨m1,e1⟩:=I.base.tbls b ps e
  obtain⟨m2,e2⟩:=tbls b _ e1
  exact⟨m1++m2,by rw[e2,Array.append_assoc]⟩
 ·obtain⟨m,hn,hl⟩:=I.loc
  refine⟨m,ns m hn,fun i x v e1 e2 e3=>?_⟩
  obtain⟨u,r,l⟩:=hl i x v e1 e2 e3
  refine⟨u,r,?_⟩
  rcases l with l|⟨k,c,e,z⟩
  ·exact .inl l
  ·exact .inr ⟨k,c,e,cellK x c e _ z⟩
 ·obtain⟨v,z⟩:=I.cell x c e
  exact⟨v,cellK x c e v z⟩
 ·obtain⟨m,⟨o,_,_,ho,_⟩,_⟩:=I.loc
  exact free _ o (fun z=>(hch _ z).2.1 rfl) ho I.free
 ·obtain⟨v,o,ho,hd⟩:=I.cell x c e
  exact free c o (fun z=>(hch c z).2.2.1 x c e rfl) ho (I.freeC x c e)
 ·obtain⟨e,n,ne,nf,d⟩:=I.pin p hp
  have nch:p.1∉ch:=fun z=>(hch p.1 z).2.2.2 p hp rfl
  exact⟨keep p.1 p.2 ne nf nch e n,free p.1 p.2 nch e n,ne,nf,d⟩
theorem Inv.un{t':Nat}(I:Inv X pins σ H s)(u:Un X.fs [] H H' s.heap h')(hok:HOk X.prog X.w H' h'):Inv X pins σ H' { s with heap:=h',toks:=t' }:=by
 obtain⟨m,⟨o,es,ep,ho,r⟩,_⟩:=id I.loc
 obtain⟨sl,hL⟩:=u.any ho I.free (by simp)
 exact I.step (g':=s.gens) (d':=s.drawn) (ch:=[]) (fun _ z=>nomatch z) (fun b o _ hb _ e n=>u.keep b o e n hb (by simp)) (fun b o _ hb _ e n=>u.slot b o e n hb (by simp)) (fun b o _ e n=>u.free b o e n (by simp)) (fun b o _ e=>u.there b o e (by simp)) u.tups u.frzs u.tbls (fun m' hm=>by
  obtain⟨o',es',ep',ho',r'⟩:=hm
  rw[ho]at ho';cases ho'
  exact⟨_,es',ep',hL,r'⟩) hok I.bare
theorem Inv.call{g':Array GenState}{t':Nat}{d':Drawn}{ch:List Addr}(I:Inv X pins σ H s)(u:Un (frs X.stack) ch H H' s.heap h')(hok:HOk X.prog X.w H' h')(hg:AllBare g')
  (hch:∀b∈ch,(b∈X.ex∨X.s₀.heap.objs.size <= b)/\b≠X.env.locals/\(∀x c,X.env.cells.lookup x=some c->c≠b)/\∀p∈X.pn++pins,p.1≠b) :
  Inv X pins σ H' { s with heap:=h',gens:=g',drawn:=d',toks:=t' }:=by
 obtain⟨m,⟨o,es,ep,ho,r⟩,_⟩:=id I.loc
 obtain⟨sl,hL⟩:=u.any ho I.free fun z=>(hch _ z).2.1 rfl
 exact I.step (ch:=ch) hch (fun b o hL hb hc e n=>u.keep b o e n (fun z=>(zzj.mp (I.stkSub b z)).elim hL hb) hc) (fun b o _ _ hc e n=>u.any e n hc) (fun b o hc e n=>u.free b o e n hc) (fun b o hc e=>u.there b o e hc) u.tups u.frzs u.tbls (fun m' hm=>by
  obtain⟨o',es',ep',ho',r'⟩:=hm
  rw[ho]at ho';cases ho'
  exact⟨_,es',ep',hL,r'⟩) hok hg
theorem Inv.turned{t':Nat}{it:Addr}(I:Inv X pins σ H s)(k:∀b o,b≠it->s.heap.get? b=some o->h'.get? b=some o)(hn:H it=none)(hL:it≠X.env.locals)
  (h1:it∈X.ex∨X.s₀.heap.objs.size <= it) (h2:∀x c,X.env.cells.lookup x=some c->c≠it) (h3:∀p∈X.pn++pins,p.1≠it):Inv X pins σ H { s with heap:=h',toks:=t' }:=by
 have nit:∀b u,H b=some u->b≠it:=fun b u e z=>by rw[z,hn]at e;cases e
 refine I.step (g':=s.gens) (d':=s.drawn) (ch:=[it]) (fun b hb=>?_) (fun b o _ _ hc e _=>k b o (fun z=>hc (by simp[z])) e) (fun b o _ _ hc e _=>⟨o.slots,k b o (fun z=>hc (by simp[z])) e⟩) (fun _ _ _ _ n=>n)
  (fun b o hc e=>⟨o,k b o (fun z=>hc (by simp[z])) e⟩) (fun _ _ e=>e) (fun _ _ _ e=>e) (fun b ps e=>⟨#[],by rw[e];simp⟩) (fun m hm=>?_) (fun b u e=>?_) I.bare
 ·have e:b=it:=by simpa using hb
  subst e
  exact⟨h1,hL,h2,h3⟩
 ·obtain⟨o,es,ep,ho,r⟩:=hm
  exact⟨o,es,ep,k _ o (Ne.symm hL) ho,r⟩
 ·refine(I.hok b u e).stay (fun c v hc q=>k c v ?_ q) (fun _ q=>q) fun _ _ q=>q
  rcases hc with z|z
  ·rw[z];exact nit b u e
  ·exact nit c _ z
theorem Inv.tok(I:Inv X pins σ H s)(t:Nat):Inv X pins σ H { s with toks:=t }:=I.un (h':=s.heap) (t':=t) Un.refl I.hok
theorem Inv.kept{t':Nat}(I:Inv X pins σ H s)(k:∀b u,s.heap.get? b=some u->h'.get? b=some u):Inv X pins σ H { s with heap:=h',toks:=t' }:=I.un (Un.kept k) (I.hok.kept k)
theorem Inv.laid{a:Addr}{o:HO}{t':Nat}(I:Inv X pins σ H s)(k:∀b u,s.heap.get? b=some u->h'.get? b=some u)(hp:s.heap.objs.size <= a)(new:ObjOk X.prog X.w (upd H a o) h' a o) :
  Inv X pins σ (upd H a o) { s with heap:=h',toks:=t' }:=I.un (Un.laid k hp (I.hok.fresh hp)) (I.hok.laid k hp new)
theorem Inv.write{x e:Addr}{o:HO}{t':Nat}(I:Inv X pins σ H s)(mu:Mut (H x))(he:e=x∨H e=some (.own x))(k:∀b u,b≠e->s.heap.get? b=some u->h'.get? b=some u)(heo:∃u,h'.get? e=some u)
  (new:ObjOk X.prog X.w (upd H x o) h' x o):Inv X pins σ (upd H x o) { s with heap:=h',toks:=t' }:=I.un (Un.write mu he k heo) (I.hok.write mu he k heo new)
theorem Inv.pins_of{pins':List (Addr×Obj)}(I:Inv X pins σ H s)(h:∀p∈pins',s.heap.get? p.1=some p.2/\H p.1=none/\p.1≠X.env.locals/\p.1∉X.fs/\∀v,p.2.data ≠ .cell v):Inv X pins' σ H s :=
 ⟨I.ok,I.os,I.bare,I.base,I.loc,I.cell,I.free,I.freeC,fun p hp=>(zzw.mp hp).elim (fun z=>I.pin p (List.mem_append_left _ z)) (h p),I.hok,I.len⟩
theorem uw{N:List Str}(hN:N.Nodup){i j:Nat}{x:Str}(a:N[i]? = some x)(b:N[j]? = some x):i=j:=by
 obtain⟨h1,e1⟩:=zzm.mp a
 obtain⟨h2,e2⟩:=zzm.mp b
 exact(List.getElem_inj hN).mp (e1.trans e2.symm)
theorem qx{M:Model}{A:Around}{E:Value->Shared->Prop}{i:Nat}{x:Str}{v:V}{u:Value}{Q:Unit->Shared->Prop}(I:Inv X pins σ H s)(hN:X.N.Nodup)(hi:X.N[i]? = some x)(hx:Loc X.env.scope x)(r:RelV v u)
  (h:∀s',Inv X pins (σ.set i (some v)) H s'->(∃a,Heap.SameBut a s.heap s'.heap/\(a=X.env.locals∨X.env.cells.lookup x=some a))->Q () s') (hf:X.fn x=true∨X.env.scope.names.lookup x=some .local:=by first|exact .inl rfl|exact .inr rfl|assumption):wpAny M A (storeName X.env x u) Q E s:=by
 obtain⟨m,hn,hl⟩:=id I.loc
 have hcls:(X.env.scope.kind == .class || (X.env.scope.kind == .module && X.env.locals != X.env.globals))=false:=by rw[I.ok.kind];rfl
 have hiσ:i<σ.length:=by rw[I.len];exact(zzm.mp hi).1
 have cne:=I.cne
 have tracked:∀{a:Addr}{h':Heap},(∃o,s.heap.get? a=some o/\H a=none)->Heap.SameBut a s.heap h'->HOk X.prog X.w H h':=fun {a h'} ha hs b ob e=>by
  obtain⟨_,_,hfree⟩:=ha
  refine(I.hok b ob e).stay (fun c w' hc q=>(hs.2 c ?_).trans q) (fun _ q=>q) fun _ _ q=>q
  rintro rfl
  rcases hc with rfl|hc
  ·rw[hfree]at e;cases e
  ·rw[hfree]at hc;cases hc
 rcases hx with hk|hk
 ·refine wpAny_storeName_local hk hn (fun h' hn' hs=>?_) hcls
  obtain⟨oL,_,_,hoL,_⟩:=id hn
  refine h _ ⟨I.ok,I.os,I.bare,⟨fun b o e n hb hx=>?_,fun b o e n hb hx=>?_,I.base.free,fun b o e hx=>?_,I.base.tups,I.base.frzs,I.base.tbls⟩,⟨_,hn',fun j y v' e1 e2 e3=>?_⟩,fun y c e=>?_,I.free,I.freeC,fun p hp=>?_,tracked ⟨oL,hoL,I.free⟩ hs,by simpa using I.len⟩ ⟨_,hs,.inl rfl⟩
  ·exact(hs.2 b (zzJ (zzz (zzr e) I.ok.above))).trans (I.base.keep b o e n hb hx)
  ·obtain⟨sl,e1⟩:=I.base.slot b o e n hb hx
   exact⟨sl,(hs.2 b (zzJ (zzz (zzr e) I.ok.above))).trans e1⟩
  ·obtain⟨o',e1⟩:=I.base.there b o e hx
   exact⟨o',(hs.2 b (zzJ (zzz (zzr e) I.ok.above))).trans e1⟩
  ·by_cases hj:j=i
   ·subst hj
    rw[hi]at e1;cases e1
    rw[List.getElem?_set_self hiσ]at e2
    cases e2
    exact⟨u,r,.inl ⟨hk,by simp⟩⟩
   ·rw[zzG (Ne.symm hj)]at e2
    obtain⟨u',r',q⟩:=hl j y v' e1 e2 e3
    refine⟨u',r',?_⟩
    rcases q with ⟨k,e⟩|⟨k,c,e,z⟩
    ·refine .inl ⟨k,?_⟩
     have:y≠x:=fun e=>hj (uw hN e1 (e ▸ hi))
     simp[this,e]
    ·exact .inr ⟨k,c,e,z.sameBut hs (cne y c e)⟩
  ·obtain⟨w',z⟩:=I.cell y c e
   exact⟨w',z.sameBut hs (cne y c e)⟩
  ·obtain⟨e,n,ne,nf,d⟩:=I.pin p hp
   exact⟨(hs.2 p.1 ne).trans e,n,ne,nf,d⟩
 ·have hfn:X.fn x=true:=by
   rcases hf with z|z
   ·exact z
   ·rw[z]at hk;cases hk
  obtain⟨c,hc⟩:=I.ok.has x (.inl hk)
  obtain⟨w',z⟩:=I.cell x c hc
  refine wpAny_storeName_cell I.ok.kind hk hc z (fun h' hc' hs=>?_)
  obtain⟨oc,hoc,hocd⟩:=id z
  refine h { s with heap:=h' } ⟨I.ok,I.os,I.bare,⟨fun b o e n hb hx=>?_,fun b o e n hb hx=>?_,I.base.free,fun b o e hx=>?_,I.base.tups,I.base.frzs,I.base.tbls⟩,⟨m,hn.sameBut hs (Ne.symm (cne x c hc)),fun j y v' e1 e2 e3=>?_⟩,fun y c' e=>?_,I.free,I.freeC,fun p hp=>?_,tracked ⟨oc,hoc,I.freeC x c hc⟩ hs,by simpa using I.len⟩ ⟨c,hs,.inr hc⟩
  ·exact(hs.2 b (zzJ (zzz (zzr e) (I.ok.cab x c hfn hc)))).trans (I.base.keep b o e n hb hx)
  ·obtain⟨sl,e1⟩:=I.base.slot b o e n hb hx
   exact⟨sl,(hs.2 b (zzJ (zzz (zzr e) (I.ok.cab x c hfn hc)))).trans e1⟩
  ·obtain⟨o',e1⟩:=I.base.there b o e hx
   exact⟨o',(hs.2 b (zzJ (zzz (zzr e) (I.ok.cab x c hfn hc)))).trans e1⟩
  ·by_cases hj:j=i
   ·subst hj
    rw[hi]at e1;cases e1
    rw[List.getElem?_set_self hiσ]at e2
    cases e2
    exact⟨u,r,.inr ⟨.inl hk,c,hc,hc'⟩⟩
   ·rw[zzG (Ne.symm hj)]at e2
    obtain⟨u',r',q⟩:=hl j y v' e1 e2 e3
    refine⟨u',r',?_⟩
    rcases q with q|⟨k,c',e,z'⟩
    ·exact .inl q
    ·refine .inr ⟨k,c',e,z'.sameBut hs ?_⟩
     rintro rfl
     exact hj (uw hN e1 (I.ok.inj _ _ _ e hc ▸ hi))
  ·by_cases hcc:c'=c
   ·subst hcc;exact⟨_,hc'⟩
   ·obtain⟨w2,z2⟩:=I.cell y c' e
    exact⟨w2,z2.sameBut hs hcc⟩
  ·obtain⟨e,n,ne,nf,d⟩:=I.pin p hp
   refine⟨(hs.2 p.1 ?_).trans e,n,ne,nf,d⟩
   intro q
   rw[q,hoc]at e
   have q':oc=p.2:=zyh e
   exact d w' (by rw[←q'];exact hocd)
theorem ux{M:Model}{A:Around}{E:Value->Shared->Prop}{i:Nat}{x:Str}{v:V}{u:Value}{Q:Unit->Shared->Prop}(I:Inv X pins σ H s)(hN:X.N.Nodup)(hi:X.N[i]? = some x)(hx:Loc X.env.scope x)(r:RelV v u)
  (h:∀s',Inv X pins (σ.set i (some v)) H s'->Q () s') (hf:X.fn x=true∨X.env.scope.names.lookup x=some .local:=by first|exact .inl rfl|exact .inr rfl|assumption):wpAny M A (storeName X.env x u) Q E s :=
 qx I hN hi hx r (fun s' I' _=>h s' I') hf
theorem Inv.call'{s':Shared}{ch:List Addr}(I:Inv X pins σ H s)(ho:s'.os=s.os)(u:Un (frs X.stack) ch H H' s.heap s'.heap)(hok:HOk X.prog X.w H' s'.heap)(hg:AllBare s'.gens)
  (hch:∀b∈ch,(b∈X.ex∨X.s₀.heap.objs.size <= b)/\b≠X.env.locals/\(∀x c,X.env.cells.lookup x=some c->c≠b)/\∀p∈X.pn++pins,p.1≠b):Inv X pins σ H' s':=by
 obtain⟨h',g',d',t',o'⟩:=s'
 have e:o'=s.os:=ho
 subst e
 exact I.call (g':=g') (t':=t') (d':=d') u hok hg hch
end
abbrev XK:=Value->Option Addr->Hp->Prop
abbrev St:=List (Option V)
abbrev VK:=V->Hp->Prop
abbrev TE:=St->Hp->VK->Prop
abbrev TT:=St->Hp->(Bool->Hp->Prop)->Prop
abbrev TA:=St->Hp->(List V->Hp->Prop)->Prop
structure Ends where
 nx:St->Hp->Prop
 rt:VK
 bk:St->Hp->Prop:=fun _ _=>False
 ct:St->Hp->Prop:=fun _ _=>False
abbrev TS:=Ends->St->Hp->Prop
def EP(X:Cx)(pins:List (Addr×Obj))(σ:St)(Q:VK)(u:Value)(s':Shared):Prop:=∃v H',Inv X pins σ H' s'/\RelV v u/\Q v H'
def TP(X:Cx)(pins:List (Addr×Obj))(σ:St)(Q:Bool->Hp->Prop)(b:Bool)(s':Shared):Prop:=∃H',Inv X pins σ H' s'/\Q b H'
def AP(X:Cx)(pins:List (Addr×Obj))(σ:St)(Q:List V->Hp->Prop)(us:List Value)(s':Shared):Prop:=∃vs H',Inv X pins σ H' s'/\Vals vs us/\Q vs H'
def SP(X:Cx)(pins:List (Addr×Obj))(D:Ends)(f:Flow)(s':Shared):Prop :=
 match f with
 |.next=>∃σ' H',Inv X pins σ' H' s'/\D.nx σ' H'
 |.brk=>∃σ' H',Inv X pins σ' H' s'/\D.bk σ' H'
 |.cont=>∃σ' H',Inv X pins σ' H' s'/\D.ct σ' H'
 |.ret u=>∃v σ' H',Inv X pins σ' H' s'/\RelV v u/\D.rt v H'
def PE(X:Cx)(e:Expr)(t:TE):Prop :=
 ∀(pins:List (Addr×Obj)) (s:Shared) (σ:St) (H:Hp) (Q:VK),Inv X pins σ H s->t σ H Q->wpAny (model X.prog X.w) X.A (eval e X.env) (EP X pins σ Q) X.xe s
def PT(X:Cx)(e:Expr)(t:TT):Prop :=
 ∀(pins:List (Addr×Obj)) (s:Shared) (σ:St) (H:Hp) (Q:Bool->Hp->Prop),Inv X pins σ H s->t σ H Q->wpAny (model X.prog X.w) X.A (isTrue e X.env (eval e X.env)) (TP X pins σ Q) X.xe s
def PW(X:Cx)(e:Expr)(t:TT):Prop :=
 ∀(whole:Sem Value) (pins:List (Addr×Obj)) (s:Shared) (σ:St) (H:Hp) (Q:Bool->Hp->Prop),Inv X pins σ H s->t σ H Q->wpAny (model X.prog X.w) X.A (isTrue e X.env whole) (TP X pins σ Q) X.xe s
theorem PW.pt{X:Cx}{e:Expr}{t:TT}(h:PW X e t):PT X e t:=h _
def PA(X:Cx)(es:List Expr)(t:TA):Prop :=
 ∀(pos:Pos) (pins:List (Addr×Obj)) (s:Shared) (σ:St) (H:Hp) (Q:List V->Hp->Prop),Inv X pins σ H s->t σ H Q->wpAny (model X.prog X.w) X.A (spliced (backTo pos (starEach es X.env))) (AP X pins σ Q) X.xe s
def PS(X:Cx)(st:Stmt)(t:TS):Prop :=
 ∀(pins:List (Addr×Obj)) (s:Shared) (σ:St) (H:Hp) (D:Ends),Inv X pins σ H s->t D σ H->wpAny (model X.prog X.w) X.A (exec st X.env) (SP X pins D) X.xe s
def PSs(X:Cx)(st:List Stmt)(t:TS):Prop :=
 ∀(pins:List (Addr×Obj)) (s:Shared) (σ:St) (H:Hp) (D:Ends),Inv X pins σ H s->t D σ H->wpAny (model X.prog X.w) X.A (execs st X.env) (SP X pins D) X.xe s
theorem thn{α:Type}{t:Sem α}{Q Q':α->Shared->Prop}{M:Model}{A:Around}{E:Value->Shared->Prop}{s:Shared}(h:wpAny M A t Q E s)(hQ:∀a s,Q a s->Q' a s):wpAny M A t Q' E s:=wpAny_mono h hQ fun _ _ x=>x
section
variable{X:Cx}
def tVar(i:Nat):TE:=fun σ H Q=>∃v,σ[i]? = some (some v)/\Q v H
def tC(v:V):TE:=fun _ H Q=>Q v H
theorem DV{i:Nat}{x:Str}{pos:Pos}(hN:X.N[i]? = some x)(hv:Vis X.env.scope x)(hd:(x == ("__debug__" : Str))=false:=by decide)(hcd:(x == ("__classdict__" : Str))=false:=by decide):PE X (.Name x pos) (tVar i):=by
 intro pins s σ H Q I h
 obtain⟨v,e,h⟩:=h
 obtain⟨m,hn,hl⟩:=I.loc
 obtain⟨u,r,l⟩:=hl i x v hN e hv
 have fin:EP X pins σ Q u s:=⟨v,H,I,r,h⟩
 rcases l with ⟨hk,hm⟩|⟨hk,c,hc,hcell⟩
 ·exact wpAny_Name (wpAny_loadName_local I.ok.kind hk hn hm fin) hd
 ·rcases hk with hk|hk
  ·exact wpAny_Name (wpAny_loadName_cell I.ok.kind hk hc hcell fin) hd
  ·exact wpAny_Name (wpAny_loadName_free I.ok.kind hk hc hcell fin hcd) hd
theorem bZ{i j pos}:PE X (.Constant (.int i) j pos) (tC (.int i)):=fun _ _ _ H _ I h=>wpAny_Constant_int ⟨.int i,H,I.tok _,⟨_,rfl⟩,h⟩
theorem Ga{b j pos}:PE X (.Constant (.bool b) j pos) (tC (.bl b)):=fun _ _ _ H _ I h=>Constant_bool ⟨.bl b,H,I,rfl,h⟩
theorem DW{j pos}:PE X (.Constant .none j pos) (tC .non):=fun _ _ _ H _ I h=>Constant_none ⟨.non,H,I,rfl,h⟩
theorem DX{x j pos}:PE X (.Constant (.str x) j pos) (tC (.str x)):=fun _ _ _ H _ I h=>Calls.Constant_str ⟨.str x,H,I.tok _,⟨_,rfl⟩,h⟩
def Gl(X:Cx)(x:Str):Prop:=X.env.kindOf x=some .globalImplicit
theorem wY{E:Value->Shared->Prop}{pins:List (Addr×Obj)}{s:Shared}{σ:St}{H:Hp}{x:Str}{u:Value}{pos:Pos}{Q:Value->Shared->Prop}(I:Inv X pins σ H s)(hg:Gl X x)(hm:X.mg x=some u)(h:Q u s)
  (hd:(x == ("__debug__" : Str))=false:=by decide):wpAny (model X.prog X.w) X.A (eval (.Name x pos) X.env) Q E s :=
 Calls.Name_function_global I.ok.kind hg (Calls.loadGlobal_global (by rw[I.ok.glob];exact I.mod.glob.keeps I.bk) hm h) hd
theorem my{E:Value->Shared->Prop}{pins:List (Addr×Obj)}{s:Shared}{σ:St}{H:Hp}{x:Str}{u:Value}{pos:Pos}{Q:Value->Shared->Prop}(I:Inv X pins σ H s)(hg:Gl X x)(hm:X.mg x=none)(hv:bootBuiltins x=some u)(h:Q u s)
  (hn:x ≠ "__name__":=by decide) (hd:(x == ("__debug__" : Str))=false:=by decide):wpAny (model X.prog X.w) X.A (eval (.Name x pos) X.env) Q E s:=by
 obtain⟨mb,h1,h2⟩:=I.mod.blt
 exact Calls.Name_function_global I.ok.kind hg (Calls.loadGlobal_builtin (by rw[I.ok.glob];exact I.mod.glob.keeps I.bk) hm (by rw[I.ok.blt];exact h1.keeps I.bk) ((h2 x hn).trans hv) h) hd
theorem BX{x:Str}{v:V}{u:Value}{pos:Pos}(hg:Gl X x)(hm:X.mg x=some u)(r:RelV v u)(hd:(x == ("__debug__" : Str))=false:=by decide):PE X (.Name x pos) (tC v) :=
 fun _ _ _ H _ I h=>wY I hg hm ⟨v,H,I,r,h⟩ hd
theorem BY{x:Str}{v:V}{u:Value}{pos:Pos}(hg:Gl X x)(hm:X.mg x=none)(hv:bootBuiltins x=some u)(r:RelV v u)(hn:x ≠ "__name__":=by decide)(hd:(x == ("__debug__" : Str))=false:=by decide):PE X (.Name x pos) (tC v) :=
 fun _ _ _ H _ I h=>my I hg hm hv ⟨v,H,I,r,h⟩ hn hd
variable{a b:Expr}{ta tb:TE}{pos:Pos}
def tB(t:TE):TT:=fun σ H Q=>t σ H fun x H1=>∃c,x=.bl c/\Q c H1
theorem DY{e:Expr}{t:TE}(h:PE X e t)(he:∀whole,isTrue e X.env whole=(do let v ←whole;standAt e.pos;holding [v] (truthy v)):=by intro _;rfl):PT X e (tB t):=by
 intro pins s σ H Q I hw
 refine isTrue_plain (thn (h pins s σ H _ I hw) fun v s1 ⟨x,H1,I1,r1,q1⟩=>?_) (he _)
 obtain⟨d,rfl,q⟩:=q1
 cases r1
 exact wpAny_truthy_bool ⟨H1,I1,q⟩
variable{tA tB':TT}{rest:List Expr}
def tAnd(t u:TT):TT:=fun σ H Q=>t σ H fun c H1=>if c=true then u σ H1 Q else Q false H1
def tOr(t u:TT):TT:=fun σ H Q=>t σ H fun c H1=>if c=true then Q true H1 else u σ H1 Q
def tNot(t:TT):TT:=fun σ H Q=>t σ H fun c H1=>Q (!c) H1
theorem BZ(ha:PT X a tA):PW X (.BoolOp .And [a] pos) tA:=by
 intro wh pins s σ H Q I h
 refine isTrue_and (thn (ha pins s σ H Q I h) fun c s1 e=>?_)
 cases c with
 |true=>exact isTrue_and_nil e
 |false=>exact e
theorem Be(ha:PT X a tA):PW X (.BoolOp .Or [a] pos) tA:=by
 intro wh pins s σ H Q I h
 refine isTrue_or (thn (ha pins s σ H Q I h) fun c s1 e=>?_)
 cases c with
 |false=>exact isTrue_or_nil e
 |true=>exact e
theorem DZ(ha:PT X a tA)(hb:PW X (.BoolOp .And (b::rest) pos) tB'):PW X (.BoolOp .And (a::b::rest) pos) (tAnd tA tB'):=by
 intro wh pins s σ H Q I h
 refine isTrue_and (thn (ha pins s σ H _ I h) fun c s1 ⟨H1,I1,q1⟩=>?_)
 cases c with
 |true=>exact hb wh pins s1 σ H1 Q I1 q1
 |false=>exact⟨H1,I1,q1⟩
theorem Ea(ha:PT X a tA)(hb:PW X (.BoolOp .Or (b::rest) pos) tB'):PW X (.BoolOp .Or (a::b::rest) pos) (tOr tA tB'):=by
 intro wh pins s σ H Q I h
 refine isTrue_or (thn (ha pins s σ H _ I h) fun c s1 ⟨H1,I1,q1⟩=>?_)
 cases c with
 |true=>exact⟨H1,I1,q1⟩
 |false=>exact hb wh pins s1 σ H1 Q I1 q1
theorem Eb(ha:PT X a tA):PT X (.UnaryOp .Not a pos) (tNot tA):=by
 intro pins s σ H Q I h
 exact isTrue_not (ha pins s σ H (fun c H1=>Q (!c) H1) I h)
def Gb(ta tb:TE):TE:=fun σ H Q=>ta σ H fun x H1=>∃c,x=.bl c/\if c=true then tb σ H1 Q else Q (.bl false) H1
def Gc(ta:TE):TE:=fun σ H Q=>ta σ H fun x H1=>∃c,x=.bl c/\Q (.bl (!c)) H1
theorem Ec{op}{t:TE}(h:PE X a t):PE X (.BoolOp op [a] pos) t:=fun pins s σ H Q I hw=>BoolOp_one (h pins s σ H Q I hw)
theorem Ed(ha:PE X a ta)(hb:PE X (.BoolOp .And (b::rest) pos) tb):PE X (.BoolOp .And (a::b::rest) pos) (Gb ta tb):=by
 intro pins s σ H Q I h
 refine BoolOp_and (thn (ha pins s σ H _ I h) fun v s1 ⟨x,H1,I1,r1,q1⟩=>?_)
 obtain⟨c,rfl,q1⟩:=q1
 cases r1
 refine wpAny_truthy_bool ?_
 cases c with
 |true=>exact hb pins s1 σ H1 Q I1 q1
 |false=>exact⟨.bl false,H1,I1,rfl,q1⟩
theorem Ee(ha:PE X a ta):PE X (.UnaryOp .Not a pos) (Gc ta):=by
 intro pins s σ H Q I h
 refine UnaryOp_ (thn (ha pins s σ H _ I h) fun v s1 ⟨x,H1,I1,r1,q1⟩=>?_)
 obtain⟨c,rfl,q1⟩:=q1
 cases r1
 exact not_of (wpAny_truthy_bool ⟨.bl (!c),H1,I1,rfl,q1⟩)
def tIf(t:TT)(ta tb:TE):TE:=fun σ H Q=>t σ H fun c H1=>if c=true then ta σ H1 Q else tb σ H1 Q
theorem zL{c:Expr}(hc:PT X c tA)(ha:PE X a ta)(hb:PE X b tb):PE X (.IfExp c a b pos) (tIf tA ta tb):=by
 intro pins s σ H Q I h
 refine wpAny_IfExp (thn (hc pins s σ H _ I h) fun d s1 ⟨H1,I1,q1⟩=>?_)
 cases d with
 |true=>exact ha pins s1 σ H1 Q I1 q1
 |false=>exact hb pins s1 σ H1 Q I1 q1
end
def SqL(K:PySem.W.Frag)(H:Hp)(a:Addr)(xs:List V):Prop :=
 Rd H a (.lst xs) ∨
  ∃(o:Obj) (its:Array Value) (n:Nat),K.lookup a=some o/\o.cls=.type "list" /\ o.dict=none/\o.data=.seq its n/\its.size <= sizeLine/\Vals xs its.toList
def SqT(K:PySem.W.Frag)(H:Hp)(a:Addr)(xs:List V):Prop :=
 Rd H a (.tup xs) ∨
  ∃(o:Obj) (its:Array Value) (n:Nat),K.lookup a=some o/\o.cls=.type "tuple" /\ o.data=.seq its n/\its.size <= sizeLine/\Vals xs its.toList
def absV:Value->Option V
 |.none=>some .non
 |.bool b=>some (.bl b)
 |.int i _=>some (.int i)
 |.str x _=>some (.str x)
 |.bytes b _=>some (.byt b)
 |.float b _=>some (.flt b)
 |.ref a=>some (.ref a)
 |.type n=>some (.ty n)
 |_=>none
theorem RelV.abs{x:V}{u:Value}(r:RelV x u):absV u=some x:=by
 cases x with
 |non=>cases r;rfl
 |bl _=>cases r;rfl
 |int _=>obtain⟨t,rfl⟩:=r;rfl
 |str _=>obtain⟨t,rfl⟩:=r;rfl
 |byt _=>obtain⟨t,rfl⟩:=r;rfl
 |flt _=>obtain⟨t,rfl⟩:=r;rfl
 |ref _=>cases r;rfl
 |ty _=>cases r;rfl
theorem RelV.inj{x y:V}{u:Value}(r:RelV x u)(q:RelV y u):x=y:=zyh (r.abs.symm.trans q.abs)
theorem Vals.inj:∀{xs ys:List V}{us:List Value},Vals xs us->Vals ys us->xs=ys
 |_,_,_,.nil,.nil=>rfl
 |_,_,_,.cons r t,.cons r' t'=>by rw[r.inj r',Vals.inj t t']
section
variable{X:Cx}{pins:List (Addr×Obj)}{σ:St}{H:Hp}{s:Shared}{a:Addr}{xs ys:List V}
theorem SqL.of{K:PySem.W.Frag}(h:H a=some (.lst xs)):SqL K H a xs:=.inl (.inl h)
theorem SqT.of{K:PySem.W.Frag}(h:H a=some (.tup xs)):SqT K H a xs:=.inl (.inl h)
theorem Inv.list(I:Inv X pins σ H s)(h:SqL X.K H a xs):∃its:List Value,Vals xs its/\PlainL s.heap a its.toArray/\xs.length <= sizeLine:=by
 rcases h with h|⟨o,its,n,hk,hc,hd,hs,hz,r⟩
 ·obtain⟨z,its,n,r,e⟩:=h.ok I.hok
  exact⟨its,r,⟨_,n,e,rfl,rfl,rfl⟩,z⟩
 ·refine⟨its.toList,r,⟨o,n,I.kIn a o hk,hc,hd,by simpa using hs⟩,?_⟩
  have e:=r.length
  simp only[zyK]at e
  omega
theorem Inv.tuple(I:Inv X pins σ H s)(h:SqT X.K H a xs):∃its:List Value,Vals xs its/\IsTup s.heap a its.toArray/\xs.length <= sizeLine:=by
 rcases h with h|⟨o,its,n,hk,hc,hs,hz,r⟩
 ·obtain⟨z,its,r,p⟩:=h.ok I.hok
  exact⟨its,r,p,z.1⟩
 ·refine⟨its.toList,r,⟨o,I.kIn a o hk,hc,n,by simpa using hs⟩,?_⟩
  have e:=r.length
  simp only[zyK]at e
  omega
theorem Inv.list_inj(I:Inv X pins σ H s)(h:SqL X.K H a xs)(h':SqL X.K H a ys):xs=ys:=by
 obtain⟨its,r,⟨o,n,e,_,_,d⟩,_⟩:=I.list h
 obtain⟨its',r',⟨o',n',e',_,_,d'⟩,_⟩:=I.list h'
 rw[e]at e';cases e'
 rw[d]at d'
 injection d' with d1 _
 have:its=its':=by simpa using congrArg Array.toList d1
 subst this
 exact r.inj r'
theorem Inv.tuple_inj(I:Inv X pins σ H s)(h:SqT X.K H a xs)(h':SqT X.K H a ys):xs=ys:=by
 obtain⟨its,r,⟨o,e,_,n,d⟩,_⟩:=I.tuple h
 obtain⟨its',r',⟨o',e',_,n',d'⟩,_⟩:=I.tuple h'
 rw[e]at e';cases e'
 rw[d]at d'
 injection d' with d1 _
 have:its=its':=by simpa using congrArg Array.toList d1
 subst this
 exact r.inj r'
end
abbrev Cx.wish(X:Cx)(E:Value->Shared->Prop):Cx:={ X with xe:=E }
abbrev Cx.nox(X:Cx):Cx:=X.wish fun _ _=>False
theorem Cx.Ok.wish{X:Cx}(ok:X.Ok)(E:Value->Shared->Prop):(X.wish E).Ok :=
 ⟨ok.mod,ok.kind,ok.glob,ok.blt,ok.above,ok.inj,ok.has,ok.cab,ok.hd,ok.frames,ok.stk,ok.exf,ok.bs,ok.bsz,ok.noex,ok.exfs,ok.funs,ok.frf⟩
theorem Cx.Ok.unwish{X:Cx}{E:Value->Shared->Prop}(ok:(X.wish E).Ok):X.Ok :=
 ⟨ok.mod,ok.kind,ok.glob,ok.blt,ok.above,ok.inj,ok.has,ok.cab,ok.hd,ok.frames,ok.stk,ok.exf,ok.bs,ok.bsz,ok.noex,ok.exfs,ok.funs,ok.frf⟩
section
variable{X:Cx}{pins:List (Addr×Obj)}{σ:St}{H:Hp}{s:Shared}{E:Value->Shared->Prop}
theorem Inv.wish(I:Inv X pins σ H s)(E:Value->Shared->Prop):Inv (X.wish E) pins σ H s:=⟨I.ok.wish E,I.os,I.bare,I.base,I.loc,I.cell,I.free,I.freeC,I.pin,I.hok,I.len⟩
theorem Inv.unwish(I:Inv (X.wish E) pins σ H s):Inv X pins σ H s:=⟨I.ok.unwish,I.os,I.bare,I.base,I.loc,I.cell,I.free,I.freeC,I.pin,I.hok,I.len⟩
theorem SP.unwish{D:Ends}{f:Flow}{s':Shared}(h:SP (X.wish E) pins D f s'):SP X pins D f s':=by
 cases f with
 |next=>obtain⟨σ',H',I,q⟩:=h;exact⟨σ',H',I.unwish,q⟩
 |brk=>obtain⟨σ',H',I,q⟩:=h;exact⟨σ',H',I.unwish,q⟩
 |cont=>obtain⟨σ',H',I,q⟩:=h;exact⟨σ',H',I.unwish,q⟩
 |ret u=>obtain⟨v,σ',H',I,r,q⟩:=h;exact⟨v,σ',H',I.unwish,r,q⟩
theorem PSs.nox{st:List Stmt}{t:TS}(h:PSs X.nox st t):PSs X st t:=fun pins s σ H D I hw =>
 wpAny_mono (h pins s σ H D (I.wish _) hw) (fun _ _ q=>q.unwish) fun _ _ z=>False.elim z
end
section
variable{X:Cx}{st:Stmt}{rest:List Stmt}{t u:TS}{e:Expr}{te:TE}{pos:Pos}
def Gd:TS:=fun D σ H=>D.nx σ H
def tSeq(t u:TS):TS:=fun D σ H=>t { D with nx:=u D } σ H
theorem pA:PSs X [] Gd:=fun _ _ σ H _ I h=>wpAny_execs_nil ⟨σ,H,I,h⟩
theorem bI(h1:PS X st t)(h2:PSs X rest u):PSs X (st::rest) (tSeq t u):=by
 intro pins s σ H D I h
 refine wpAny_execs_cons (thn (h1 pins s σ H { D with nx:=u D } I h) fun f s1 q=>?_)
 cases f with
 |next =>
  obtain⟨σ',H',I',q⟩:=q
  exact h2 pins s1 σ' H' D I' q
 |ret v=>exact q
 |brk=>exact q
 |cont=>exact q
theorem ft(h1:PS X st t):PSs X [st] t:=by
 intro pins s σ H D I h
 refine wpAny_execs_cons (thn (h1 pins s σ H D I h) fun f s1 q=>?_)
 cases f with
 |next=>exact wpAny_execs_nil q
 |ret v=>exact q
 |brk=>exact q
 |cont=>exact q
theorem Inv.quiet{pins:List (Addr×Obj)}{σ:St}{H:Hp}{s:Shared}(I:Inv X pins σ H s):interactive X.env=false:=by simp[interactive,I.ok.kind]
def Ge(te:TE):TS:=fun D σ H=>te σ H fun _ H1=>D.nx σ H1
theorem jY(he:PE X e te)(hs:swapsWith e none pos.line X.env=pure false:=by rfl):PS X (.Expr e pos) (Ge te):=by
 intro pins s σ H D I h
 exact wpAny_Expr_any (thn (he pins s σ H _ I h) fun v s1 ⟨x,H1,I1,r1,q1⟩=>⟨σ,H1,I1,q1⟩) I.quiet hs
def tRet(te:TE):TS:=fun D σ H=>te σ H D.rt
theorem mz(he:PE X e te):PS X (.Return (some e) pos) (tRet te):=by
 intro pins s σ H D I h
 exact wpAny_Return_some (thn (he pins s σ H _ I h) fun v s1 ⟨x,H1,I1,r1,q1⟩=>⟨x,σ,H1,I1,r1,q1⟩)
def tIfS(c:TT)(t u:TS):TS:=fun D σ H=>c σ H fun b H1=>if b=true then t D σ H1 else u D σ H1
theorem zM{c:Expr}{a b:List Stmt}{tc:TT}(hc:PT X c tc)(ha:PSs X a t)(hb:PSs X b u):PS X (.If c a b pos) (tIfS tc t u):=by
 intro pins s σ H D I h
 refine wpAny_If (thn (hc pins s σ H _ I h) fun d s1 ⟨H1,I1,q1⟩=>?_)
 cases d with
 |true=>exact ha pins s1 σ H1 D I1 q1
 |false=>exact hb pins s1 σ H1 D I1 q1
def Ef:TS:=fun _ _ _=>False
theorem zN:PS X st Ef:=fun _ _ _ _ _ _ h=>h.elim
end
abbrev TG:=V->St->Hp->(St->Hp->Prop)->Prop
abbrev TGs:=List V->St->Hp->(St->Hp->Prop)->Prop
def PG(X:Cx)(target:Expr)(t:TG):Prop :=
 ∀(pins:List (Addr×Obj)) (s:Shared) (σ:St) (H:Hp) (v:V) (u:Value) (Q:St->Hp->Prop),Inv X pins σ H s->RelV v u->t v σ H Q ->
  wpAny (model X.prog X.w) X.A (assign target X.env u) (fun _ s'=>∃σ' H',Inv X pins σ' H' s'/\Q σ' H') X.xe s
def PGs(X:Cx)(ts:List Expr)(t:TGs):Prop :=
 ∀(pins:List (Addr×Obj)) (s:Shared) (σ:St) (H:Hp) (vs:List V) (us:List Value) (Q:St->Hp->Prop),Inv X pins σ H s->Vals vs us->t vs σ H Q ->
  wpAny (model X.prog X.w) X.A (assignInOrder ((assignEach ts X.env).map (·.2)) us) (fun _ s'=>∃σ' H',Inv X pins σ' H' s'/\Q σ' H') X.xe s
abbrev TSet:=V->V->V->Hp->(Hp->Prop)->Prop
def PSet(X:Cx)(t:TSet):Prop :=
 ∀(pins:List (Addr×Obj)) (s:Shared) (σ:St) (H:Hp) (o i v:V) (ov iv u:Value) (Q:Hp->Prop),Inv X pins σ H s->RelV o ov->RelV i iv->RelV v u->t o i v H Q ->
  wpAny (model X.prog X.w) X.A (setItem ov iv u) (fun _ s'=>∃H',Inv X pins σ H' s'/\Q H') X.xe s
section
variable{X:Cx}{pos:Pos}
def sJ(i:Nat):TG:=fun v σ H Q=>Q (σ.set i (some v)) H
theorem pB{i:Nat}{x:Str}(hN:X.N.Nodup)(hi:X.N[i]? = some x)(hx:Loc X.env.scope x)(hf:X.fn x=true∨X.env.scope.names.lookup x=some .local:=by first|exact .inl rfl|exact .inr rfl|assumption):PG X (.Name x pos) (sJ i):=by
 intro pins s σ H v u Q I r h
 exact wpAny_assign_Name (ux I hN hi hx r (fun s' I'=>⟨_,H,I',h⟩) hf)
def gNil:TGs:=fun vs σ H Q=>vs=[]/\Q σ H
def Gf(t:TG)(u:TGs):TGs:=fun vs σ H Q=>∃v r,vs=v::r/\t v σ H fun σ' H'=>u r σ' H' Q
theorem wZ:PGs X [] gNil:=by
 intro pins s σ H vs us Q I r h
 obtain⟨e,h⟩:=h
 subst e
 cases r
 exact assignInOrder_nil ⟨σ,H,I,h⟩
theorem lU{e:Expr}{es:List Expr}{t:TG}{u:TGs}(h1:PG X e t)(h2:PGs X es u)
  (hs:(assignEach (e::es) X.env).map (·.2)=assign e X.env::(assignEach es X.env).map (·.2):=by rfl):PGs X (e::es) (Gf t u):=by
 intro pins s σ H vs us Q I r h
 obtain⟨v,vr,e1,h⟩:=h
 subst e1
 cases r with
 |cons r rr =>
  rw[hs]
  refine assignInOrder_cons (thn (h1 pins s σ H _ _ _ I r h) fun _ s1 ⟨σ1,H1,I1,q1⟩=>?_)
  exact h2 pins s1 σ1 H1 _ _ Q I1 rr q1
def gTup(K:PySem.W.Frag)(n:Nat)(t:TGs):TG:=fun v σ H Q=>∃a xs,v=.ref a/\SqT K H a xs/\xs.length=n/\t xs σ H Q
theorem Eg{es:List Expr}{k:Nat}{t:TGs}{n:Nat}(hc:X.calm=true)(h:PGs X es t)
  (hn:(assignEach es X.env).length=n:=by rfl) (hst:(assignEach es X.env).findIdx? (·.1)=none:=by rfl):PG X (.Tuple es k pos) (gTup X.K n t):=by
 intro pins s σ H v u Q I r hw
 obtain⟨a,xs,e1,hq,hl,hw⟩:=hw
 subst e1
 cases r
 obtain⟨its,rv,ht,hz⟩:=I.tuple hq
 refine assign_Tuple_tuple (I.ok.hd hc) ht (by simp[hn,←hl,rv.length]) hst fun h' hx=>?_
 have I1:Inv X pins σ H { s with heap:=h' }:=I.kept (t':=s.toks) fun b o e=>hx b o (zzJ (zzr e)) e
 exact h pins _ σ H xs _ Q I1 (by simpa using rv) hw
def gSub(to ti:TE)(t:TSet):TG:=fun v σ H Q=>to σ H fun o H1=>ti σ H1 fun i H2=>t o i v H2 fun H3=>Q σ H3
theorem xa{o i:Expr}{to ti:TE}{t:TSet}(ho:PE X o to)(hi:PE X i ti)(hs:PSet X t)
  (ha:∀v,assign (.Subscript o i pos) X.env v=(do
   let ov ←holding [v] (eval o X.env)
   let iv ←holding [v,ov] (eval i X.env)
   standAt pos
   holding [v,ov,iv] (setItem ov iv v)
   release [v,ov,iv] []):=by intro _;rfl):PG X (.Subscript o i pos) (gSub to ti t):=by
 intro pins s σ H v u Q I r h
 rw[ha]
 refine wpAny_bind (wpAny_holding (thn (ho pins s σ H _ I h) fun ov s1 ⟨x,H1,I1,r1,q1⟩=>?_))
 refine wpAny_bind (wpAny_holding (thn (hi pins s1 σ H1 _ I1 q1) fun iv s2 ⟨y,H2,I2,r2,q2⟩=>?_))
 refine wpAny_bind (wpAny_standAt (wpAny_bind (wpAny_holding (thn (hs pins s2 σ H2 x y v ov iv u _ I2 r1 r2 r q2) fun _ s3 ⟨H3,I3,q3⟩=>?_))))
 exact wpAny_release ⟨σ,H3,I3,q3⟩
def tAsg(te:TE)(g:TG):TS:=fun D σ H=>te σ H fun x H1=>g x σ H1 D.nx
theorem qy{tg e:Expr}{te:TE}{g:TG}(he:PE X e te)(hg:PG X tg g)(hs:swapsWithSole [tg] e pos.line X.env=pure false:=by rfl)(hw:swappedStores [tg] e X.env=pure none:=by rfl)
  (h1:(assignEach [tg] X.env).map (·.2)=[assign tg X.env]:=by rfl):PS X (.Assign [tg] e pos) (tAsg te g):=by
 intro pins s σ H D I h
 refine wpAny_Assign_stores (thn (he pins s σ H _ I h) fun v s1 ⟨x,H1,I1,r1,q1⟩=>?_) hs hw
 rw[h1]
 exact thn (hg pins s1 σ H1 x v _ I1 r1 q1) fun _ s2 q=>q
theorem jm{i:Nat}{x:Str}{e:Expr}{te:TE}{pos':Pos}(hN:X.N.Nodup)(hi:X.N[i]? = some x)(hx:Loc X.env.scope x)(he:PE X e te)(hs:swapsWith e (some (.Name x pos')) pos.line X.env=pure false:=by rfl)(hf:X.fn x=true∨X.env.scope.names.lookup x=some .local:=by first|exact .inl rfl|exact .inr rfl|assumption) :
  PS X (.Assign [.Name x pos'] e pos) (tAsg te (sJ i)):=by
 intro pins s σ H D I h
 refine wpAny_Assign_Name (thn (he pins s σ H _ I h) fun v s1 ⟨y,H1,I1,r1,q1⟩=>?_) hs
 exact ux I1 hN hi hx r1 (fun s2 I2=>⟨_,H1,I2,q1⟩) hf
def Eh(c:TT)(tb:TS):TS:=fun D σ H=>∃W:Nat->St->Hp->Prop,(∃m,W m σ H)/\∀m σ H,W m σ H ->
 c σ H fun b H1=>if b=true then ∃N:St->Hp->Prop,(∀σ' H',N σ' H'->∃m',m'<m/\W m' σ' H')/\tb { D with nx:=N,ct:=N,bk:=D.nx } σ H1 else D.nx σ H1
theorem zO{c:Expr}{body:List Stmt}{tc:TT}{tb:TS}(hp:PassesOwn (model X.prog X.w) X.A X.env X.xe)(hc:PT X c tc)(hb:PSs X body tb):PS X (.While c body [] pos) (Eh tc tb):=by
 intro pins s σ H D I h
 obtain⟨W,⟨m0,w0⟩,turn⟩:=h
 refine wpAny_While (codeAny_whileLoop (fun n s'=>∃σ' H',Inv X pins σ' H' s'/\W n σ' H') ?_ m0 ⟨σ,H,I,w0⟩)
 rintro n s1 ⟨σ1,H1,I1,w1⟩
 refine wpAny_passesOwn hp (thn (hc pins s1 σ1 H1 _ I1 (turn n σ1 H1 w1)) fun b s2 ⟨H2,I2,q2⟩=>?_)
 cases b with
 |true =>
  obtain⟨N,hN,q2⟩:=q2
  rw[if_pos rfl]
  refine wpAny_passesOwn hp (thn (hb pins s2 σ1 H2 _ I2 q2) fun f s3 q3=>?_)
  cases f with
  |next =>
   obtain⟨σ3,H3,I3,n3⟩:=q3
   obtain⟨m',hm,w3⟩:=hN σ3 H3 n3
   exact⟨m',hm,σ3,H3,I3,w3⟩
  |cont =>
   obtain⟨σ3,H3,I3,n3⟩:=q3
   obtain⟨m',hm,w3⟩:=hN σ3 H3 n3
   exact⟨m',hm,σ3,H3,I3,w3⟩
  |brk=>exact q3
  |ret v=>exact q3
 |false =>
  rw[if_neg zzo]
  exact wpAny_execs_nil ⟨σ1,H2,I2,q2⟩
end
structure It where
 go:Nat->Hp->Prop
 yld:Nat->Hp->V->Hp->Prop
 stop:Nat->Hp->Prop
def FpOk(X:Cx)(pins:List (Addr×Obj))(H:Hp)(b:Addr):Prop :=
 H b=none/\b≠X.env.locals/\b∉X.fs/\(b∈X.ex∨X.s₀.heap.objs.size <= b)/\(∀x c,X.env.cells.lookup x=some c->c≠b)/\∀p∈X.pn++pins,p.1≠b
theorem Inv.fpOk{X:Cx}{pins:List (Addr×Obj)}{σ:St}{H H':Hp}{s:Shared}{b:Addr}(I:Inv X pins σ H s)(hb:s.heap.objs.size <= b)(hn:H' b=none):FpOk X pins H' b:=by
 refine⟨hn,Nat.ne_of_gt (zzz I.lt hb),I.nofs hb,.inr (zzk I.sz hb),fun x c e z=>?_,fun p hp z=>?_⟩
 ·obtain⟨v,q⟩:=I.cell x c e
  exact absurd (zzz q.lt (by rw[z];exact hb)) (zyn _)
 ·exact absurd (zzz (zzr (I.pin p hp).1) (by rw[z];exact hb)) (zyn _)
structure Turn(P:Program)(w:World)(K:PySem.W.Frag)(tg:Expr)(J:It)(fp:List Addr)(it:Addr)(tn:Nat->Heap->Prop):Prop where
 mem:it∈fp
 obj:∀i h,tn i h->∀b∈fp,∃o,h.get? b=some o/\∀v,o.data ≠ .cell v
 keep:∀i h h',tn i h->(∀b∈fp,∀o,h.get? b=some o->h'.get? b=some o)->tn i h'
 item:∀(X:Cx),X.prog=P->X.w=w->X.K=K->X.calm=true->∀(i:Nat) (pins:List (Addr×Obj)) (s:Shared) (σ:St) (H:Hp) (E:Value->Shared->Prop),Inv X pins σ H s->(∀b∈fp,FpOk X pins H b)->tn i s.heap->J.go i H ->
  wpAny (model P w) X.A (pyNext (.ref it)) (fun r s1=>∃u,r=some u /\
   wpAny (model P w) X.A (letOwnedTupleGo tg (.ref it) u) (fun _ s2=>∃x H',Inv X pins σ H' s2/\RelV x u/\J.yld i H x H'/\tn (i+1) s2.heap/\∀b∈fp,H' b=none) E s1) E s
 done:∀(X:Cx),X.prog=P->X.w=w->X.K=K->X.calm=true->∀(i:Nat) (pins:List (Addr×Obj)) (s:Shared) (σ:St) (H:Hp) (E:Value->Shared->Prop),Inv X pins σ H s->(∀b∈fp,FpOk X pins H b)->tn i s.heap->J.stop i H ->
  wpAny (model P w) X.A (pyNext (.ref it)) (fun r s1=>r=none/\Inv X pins σ H s1) E s
 self:∀(A:Around) (i:Nat) (s:Shared) (Q:Value->Shared->Prop) (E:Value->Shared->Prop),tn i s.heap->Q (.ref it) s->wpAny (model P w) A (pyIter (.ref it)) Q E s
abbrev TI:=St->Hp->(It->Hp->Prop)->Prop
def PIE(X:Cx)(pins:List (Addr×Obj))(σ:St)(tg:Expr)(R:It->Hp->Prop)(itv:Value)(s2:Shared):Prop :=
 ∃(it:Addr) (fp:List Addr) (tn:Nat->Heap->Prop) (J:It) (H':Hp),itv=.ref it/\Inv X pins σ H' s2/\Turn X.prog X.w X.K tg J fp it tn/\tn 0 s2.heap/\(∀b∈fp,FpOk X pins H' b)/\R J H'
def PI(X:Cx)(tg iter:Expr)(wi:TI):Prop :=
 ∀(pins:List (Addr×Obj)) (s:Shared) (σ:St) (H:Hp) (R:It->Hp->Prop),Inv X pins σ H s->wi σ H R ->
  wpAny (model X.prog X.w) X.A (eval iter X.env) (fun v s1=>wpAny (model X.prog X.w) X.A (pyIter v) (PIE X pins σ tg R) X.xe s1) X.xe s
theorem xb{M:Model}{A:Around}{E:Value->Shared->Prop}{s:Shared}{tg:Expr}{it:Addr}{u:Value}{o:Obj}{n:String}{vs:Array Value}{Q:Unit->Shared->Prop}(ho:s.heap.get? it=some o)(hc:o.cls=.type n)(hd:o.data=.fields vs)
  (hn:["enumerate","zip","dict_itemiterator","dict_reverseitemiterator","odict_iterator","itertools.zip_longest","itertools.pairwise"].contains n=false) (hQ:Q () s):wpAny M A (letOwnedTupleGo tg (.ref it) u) Q E s:=by
 unfold letOwnedTupleGo
 cases tg<;>first
  |exact wpAny_pure hQ
  | (cases u<;>first
    |exact wpAny_pure hQ
    | (refine wpAny_bind (wpAny_load ho ?_)
       rw[hc,hd]
       show wpAny M A (if (["enumerate","zip","dict_itemiterator","dict_reverseitemiterator","odict_iterator","itertools.zip_longest","itertools.pairwise"].contains n && vs[0]? == some (rawInt _))=true then _ else _) Q E s
       rw[if_neg (by intro h;rw[hn,Bool.false_and]at h;cases h)]
       exact wpAny_pure hQ))
def Itl(K:PySem.W.Frag)(a:Addr):It :=
 ⟨fun i H=>∃xs x,SqL K H a xs/\xs[i]? = some x,fun i H x H'=>H'=H/\∀xs,SqL K H a xs->xs[i]? = some x,fun i H=>∃xs,SqL K H a xs/\xs.length <= i⟩
def Itt(K:PySem.W.Frag)(a:Addr):It :=
 ⟨fun i H=>∃xs x,SqT K H a xs/\xs[i]? = some x,fun i H x H'=>H'=H/\∀xs,SqT K H a xs->xs[i]? = some x,fun i H=>∃xs,SqT K H a xs/\xs.length <= i⟩
def Itr(lo:Int)(n:Nat):It:=⟨fun i _=>i<n,fun i H x H'=>H'=H/\x=.int (lo+i),fun i _=>n <= i⟩
theorem qz{P:Program}{w:World}{K:PySem.W.Frag}{tg:Expr}(a it:Addr):Turn P w K tg (Itl K a) [it] it (fun i h=>h.IsListIter it a i) where
 mem:=by simp
 obj:=fun i h st b hb=>by
  have e:b=it:=by simpa using hb
  subst e
  obtain⟨o,e,c,d⟩:=st
  exact⟨o,e,fun v z=>by rw[d]at z;cases z⟩
 keep:=fun i h h' st k=>st.at fun o e=>k it (by simp) o e
 item:=by
  intro X hP hw hK hc i pins s σ H E I hf st hg
  subst hP hw hK
  obtain⟨xs,x,hq,hx⟩:=hg
  obtain⟨its,rv,p,hz⟩:=I.list hq
  obtain⟨u,hu,ru⟩:=rv.get hx
  obtain⟨f0,f1,f2,f3,f4,f5⟩:=hf it (by simp)
  refine wpAny_pyNext_list_item st p.isList (x:=u) (by simpa using hu) fun h' st' sb=>?_
  have I1:Inv X pins σ H { s with heap:=h' }:=I.turned (t':=s.toks) (fun b o hb e=>(sb.2 b hb).trans e) f0 f1 f3 f4 f5
  obtain⟨o,e,c,d⟩:=id st'
  exact⟨u,rfl,xb (s:={ s with heap:=h' }) e c d (by decide) ⟨x,H,I1,ru,⟨rfl,fun ys hy=>by rw[I.list_inj hy hq];exact hx⟩,st',fun b hb=>(hf b hb).1⟩⟩
 done:=by
  intro X hP hw hK hc i pins s σ H E I hf st hg
  subst hP hw hK
  obtain⟨xs,hq,hx⟩:=hg
  obtain⟨its,rv,p,hz⟩:=I.list hq
  obtain⟨f0,f1,f2,f3,f4,f5⟩:=hf it (by simp)
  have hl:=rv.length
  exact wpAny_pyNext_list_end (I.ok.hd hc) st p.isList (by simp;omega) fun h' eb=>⟨rfl,I.turned (t':=s.toks) (fun b o hb e=>eb b o hb e) f0 f1 f3 f4 f5⟩
 self:=fun _ _ _ _ _ st h=>wpAny_pyIter_listiter st h
theorem oG{P:Program}{w:World}{K:PySem.W.Frag}{tg:Expr}(a it:Addr):Turn P w K tg (Itt K a) [it] it (fun i h=>h.IsTupleIter it a i) where
 mem:=by simp
 obj:=fun i h st b hb=>by
  have e:b=it:=by simpa using hb
  subst e
  obtain⟨o,e,c,d⟩:=st
  exact⟨o,e,fun v z=>by rw[d]at z;cases z⟩
 keep:=fun i h h' st k=>st.at fun o e=>k it (by simp) o e
 item:=by
  intro X hP hw hK hc i pins s σ H E I hf st hg
  subst hP hw hK
  obtain⟨xs,x,hq,hx⟩:=hg
  obtain⟨its,rv,p,hz⟩:=I.tuple hq
  obtain⟨u,hu,ru⟩:=rv.get hx
  obtain⟨f0,f1,f2,f3,f4,f5⟩:=hf it (by simp)
  refine wpAny_pyNext_tuple_item st (show s.heap.IsTuple a its.toArray from p) (x:=u) (by simpa using hu) fun h' st' sb=>?_
  have I1:Inv X pins σ H { s with heap:=h' }:=I.turned (t':=s.toks) (fun b o hb e=>(sb.2 b hb).trans e) f0 f1 f3 f4 f5
  obtain⟨o,e,c,d⟩:=id st'
  exact⟨u,rfl,xb (s:={ s with heap:=h' }) e c d (by decide) ⟨x,H,I1,ru,⟨rfl,fun ys hy=>by rw[I.tuple_inj hy hq];exact hx⟩,st',fun b hb=>(hf b hb).1⟩⟩
 done:=by
  intro X hP hw hK hc i pins s σ H E I hf st hg
  subst hP hw hK
  obtain⟨xs,hq,hx⟩:=hg
  obtain⟨its,rv,p,hz⟩:=I.tuple hq
  obtain⟨f0,f1,f2,f3,f4,f5⟩:=hf it (by simp)
  have hl:=rv.length
  exact wpAny_pyNext_tuple_end (I.ok.hd hc) st (show s.heap.IsTuple a its.toArray from p) (by simp;omega) fun h' eb=>⟨rfl,I.turned (t':=s.toks) (fun b o hb e=>eb b o hb e) f0 f1 f3 f4 f5⟩
 self:=fun _ _ _ _ _ st h=>wpAny_pyIter_tupleiter st h
theorem vT{P:Program}{w:World}{K:PySem.W.Frag}{tg:Expr}(it:Addr)(lo:Int)(n:Nat):Turn P w K tg (Itr lo n) [it] it (fun i h=>IsRangeIter h it (lo+(i:Nat)*1) ((n:Int) - (i:Nat)) 1) where
 mem:=by simp
 obj:=fun i h st b hb=>by
  have e:b=it:=by simpa using hb
  subst e
  exact⟨_,st,fun v z=>by
   have z':Data.fields _=Data.cell v:=z
   cases z'⟩
 keep:=fun i h h' st k=>k it (by simp) _ st
 item:=by
  intro X hP hw hK hc i pins s σ H E I hf st hg
  subst hP hw hK
  obtain⟨f0,f1,f2,f3,f4,f5⟩:=hf it (by simp)
  have W:=Walks.range (prog:=X.prog) (w:=X.w) (I.ok.hd hc) it lo 1 n
  refine W.item i s _ _ hg st fun v h' tk hv st' kk=>?_
  obtain⟨t,rfl⟩:=hv
  have I1:Inv X pins σ H { s with heap:=h',toks:=tk }:=I.turned (fun b o hb e=>kk b o (by simpa using hb) e) f0 f1 f3 f4 f5
  refine⟨_,rfl,xb (s:={ s with heap:=h',toks:=tk }) (n:="range_iterator") st' rfl rfl (by decide) ⟨.int (lo+i),H,I1,⟨t,?_⟩,⟨rfl,rfl⟩,st',fun b hb=>(hf b hb).1⟩⟩
  rw[Int.mul_one]
 done:=by
  intro X hP hw hK hc i pins s σ H E I hf st hg
  subst hP hw hK
  obtain⟨f0,f1,f2,f3,f4,f5⟩:=hf it (by simp)
  exact wpAny_pyNext_range_end (I.ok.hd hc) st (by have:n <= i:=hg;omega) fun h' eb=>⟨rfl,I.turned (t':=s.toks) (fun b o hb e=>eb b o hb e) f0 f1 f3 f4 f5⟩
 self:=fun _ _ _ _ _ st h=>wpAny_pyIter_rangeiter st h
section
variable{X:Cx}{tg:Expr}
def Gg(K:PySem.W.Frag)(tl:TE):TI:=fun σ H R=>tl σ H fun x H1=>∃a,x=.ref a/\(∃xs,SqL K H1 a xs)/\R (Itl K a) H1
def iTup(K:PySem.W.Frag)(tl:TE):TI:=fun σ H R=>tl σ H fun x H1=>∃a,x=.ref a/\(∃xs,SqT K H1 a xs)/\R (Itt K a) H1
theorem Ca{l:Expr}{tl:TE}(hl:PE X l tl):PI X tg l (Gg X.K tl):=by
 intro pins s σ H R I h
 refine thn (hl pins s σ H _ I h) fun v s1 ⟨x,H1,I1,r1,q1⟩=>?_
 obtain⟨a,e,⟨xs,hq⟩,q⟩:=q1
 subst e
 cases r1
 obtain⟨its,rv,p,hz⟩:=I1.list hq
 refine wpAny_pyIter_list p.isList ?_
 refine⟨s1.heap.objs.size,[s1.heap.objs.size],_,_,H1,rfl,I1.kept (t':=s1.toks) fun b o e=>zzf _ e,qz a _,⟨_,zzn _ rfl,rfl,rfl⟩,fun b hb=>?_,q⟩
 have e:b=s1.heap.objs.size:=by simpa using hb
 subst e
 exact I1.fpOk (zzh _) (I1.hok.fresh (zzh _))
theorem Ei{l:Expr}{tl:TE}(hl:PE X l tl):PI X tg l (iTup X.K tl):=by
 intro pins s σ H R I h
 refine thn (hl pins s σ H _ I h) fun v s1 ⟨x,H1,I1,r1,q1⟩=>?_
 obtain⟨a,e,⟨xs,hq⟩,q⟩:=q1
 subst e
 cases r1
 obtain⟨its,rv,p,hz⟩:=I1.tuple hq
 refine wpAny_pyIter_tuple (show s1.heap.IsTuple a its.toArray from p) ?_
 refine⟨s1.heap.objs.size,[s1.heap.objs.size],_,_,H1,rfl,I1.kept (t':=s1.toks) fun b o e=>zzf _ e,oG a _,⟨_,zzn _ rfl,rfl,rfl⟩,fun b hb=>?_,q⟩
 have e:b=s1.heap.objs.size:=by simpa using hb
 subst e
 exact I1.fpOk (zzh _) (I1.hok.fresh (zzh _))
theorem uy{pins:List (Addr×Obj)}{σ:St}{H:Hp}{s:Shared}{R:It->Hp->Prop}{E:Value->Shared->Prop}{lo hi:Int}{t u v:Tok}{tk:Nat}(I:Inv X pins σ H s)(h1 : -(2^62) <= lo)(h2:lo<2^62)(h3 : -(2^62) <= hi)(h4:hi<2^62)
  (q:R (Itr lo (hi - lo).toNat) H):wpAny (model X.prog X.w) X.A (pyIter (.ref s.heap.objs.size)) (PIE X pins σ tg R) E { s with heap:=s.heap.push { cls:=.type "range",data:=.fields #[.int lo t,.int hi u,.int 1 v] },toks:=tk }:=by
 refine wpAny_pyIter_range (IsRange.new ..) (small_one h1 h2 h3 h4) ?_
 have I1:Inv X pins σ H { s with heap:=s.heap.push { cls:=.type "range",data:=.fields #[.int lo t,.int hi u,.int 1 v] },toks:=tk }:=I.kept fun b o e=>zzf _ e
 refine⟨(s.heap.push { cls:=.type "range",data:=.fields #[.int lo t,.int hi u,.int 1 v] }).objs.size,[(s.heap.push { cls:=.type "range",data:=.fields #[.int lo t,.int hi u,.int 1 v] }).objs.size],_,_,H,rfl,
  I1.kept (t':=tk) fun b o e=>zzf _ e,vT _ lo (hi - lo).toNat,?_,fun b hb=>?_,q⟩
 ·have e1:lo+((0:Nat):Int)*1=lo:=by simp
  have e2:(((hi - lo).toNat:Nat):Int) - ((0:Nat):Int)=Builtin.Range.rangeSize lo hi 1:=by rw[rangeSize_one];split<;>omega
  show IsRangeIter _ _ (lo+((0:Nat):Int)*1) ((((hi - lo).toNat:Nat):Int) - ((0:Nat):Int)) 1
  rw[e1,e2]
  exact zzn _ rfl
 ·have e:b=(s.heap.push { cls:=.type "range",data:=.fields #[.int lo t,.int hi u,.int 1 v] }).objs.size:=by simpa using hb
  subst e
  exact I1.fpOk (zzh _) (I1.hok.fresh (zzh _))
def Gh(ta:TA):TI:=fun σ H R=>ta σ H fun vs H1=>∃j:Int,vs=[.int j]/\-(2^62) <= j/\j<2^62/\R (Itr 0 j.toNat) H1
def Gi(ta:TA):TI:=fun σ H R=>ta σ H fun vs H1=>∃i j:Int,vs=[.int i,.int j]/\(-(2^62) <= i/\i<2^62/\-(2^62) <= j/\j<2^62)/\R (Itr i (j - i).toNat) H1
theorem xc{a:Expr}{ta:TA}{p pos:Pos}(hg:Gl X "range")(hm:X.mg "range" = none)(ha:PA X [a] ta)(hs:starEach [a] X.env=[(false,eval a X.env)]:=by rfl):PI X tg (.Call (.Name "range" p) [a] [] pos) (Gh ta):=by
 intro pins s σ H R I h
 refine Call_ (my I hg hm boot_range (PyProof.Rows.callWith_type1 (thn (ha pos pins s σ H _ I h) fun us s1 ⟨vs,H1,I1,r1,q1⟩=>?_) hs rfl))
 obtain⟨j,e,q1,q2,q⟩:=q1
 subst e
 cases r1 with
 |cons r rr =>
  cases rr
  obtain⟨t,rfl⟩:=r
  exact call_range_1 (uy I1 (by omega) (by omega) q1 q2 (by simpa using q))
theorem xf{a b:Expr}{ta:TA}{p pos:Pos}(hg:Gl X "range")(hm:X.mg "range" = none)(ha:PA X [a,b] ta)(hs:starEach [a,b] X.env=[(false,eval a X.env),(false,eval b X.env)]:=by rfl)(hs2:starEach [b] X.env=[(false,eval b X.env)]:=by rfl) :
  PI X tg (.Call (.Name "range" p) [a,b] [] pos) (Gi ta):=by
 intro pins s σ H R I h
 refine Call_ (my I hg hm boot_range (PyProof.Rows.callWith_type1 (thn (ha pos pins s σ H _ I h) fun us s1 ⟨vs,H1,I1,r1,q1⟩=>?_) (by rw[hs,hs2]) (by rw[hs2];rfl)))
 obtain⟨i,j,e,⟨q1,q2,q3,q4⟩,q⟩:=q1
 subst e
 cases r1 with
 |cons r rr =>
  cases rr with
  |cons r' rr =>
   cases rr
   obtain⟨t,rfl⟩:=r
   obtain⟨t',rfl⟩:=r'
   exact call_range_2 (uy I1 q1 q2 q3 q4 q)
def tFor(wi:TI)(g:TG)(tb:TS):TS:=fun D σ H=>wi σ H fun J H1=>∃W:Nat->Nat->St->Hp->Prop,(∃m,W 0 m σ H1)/\∀i m σ H,W i m σ H ->
 (J.stop i H/\D.nx σ H)∨(J.go i H/\∃N:St->Hp->Prop,(∀σ' H',N σ' H'->∃m',m'<m/\W (i+1) m' σ' H')/\∀x H',J.yld i H x H'->g x σ H' fun σ2 H2=>tb { D with nx:=N,ct:=N,bk:=D.nx } σ2 H2)
def qA(fp:List Addr)(h:Heap):List (Addr×Obj):=fp.filterMap fun b=>(h.get? b).map fun o=>(b,o)
theorem gX{fp:List Addr}{h:Heap}{b:Addr}{o:Obj}(hb:b∈fp)(e:h.get? b=some o):(b,o)∈qA fp h:=List.mem_filterMap.mpr ⟨b,hb,by rw[e];rfl⟩
theorem xg{fp:List Addr}{h:Heap}{p:Addr×Obj}(hp:p∈qA fp h):p.1∈fp/\h.get? p.1=some p.2:=by
 obtain⟨b,hb,e⟩:=List.mem_filterMap.mp hp
 cases q:h.get? b with
 |none=>rw[q]at e;cases e
 |some o =>
  rw[q]at e
  have e':(b,o)=p:=zyh e
  subst e'
  exact⟨hb,q⟩
theorem Inv.pinned{pins:List (Addr×Obj)}{σ:St}{H:Hp}{s:Shared}{fp:List Addr}(I:Inv X pins σ H s)(hf:∀b∈fp,FpOk X pins H b)(ho:∀b∈fp,∃o,s.heap.get? b=some o/\∀v,o.data ≠ .cell v):Inv X (pins++qA fp s.heap) σ H s :=
 I.pins_of fun p hp=>(zzw.mp hp).elim (fun z=>I.pin p (zzV _ z)) fun z=>by
  obtain⟨hb,e⟩:=xg z
  obtain⟨f0,f1,f2,_⟩:=hf p.1 hb
  obtain⟨o,e',d⟩:=ho p.1 hb
  rw[e]at e';cases e'
  exact⟨e,f0,f1,f2,d⟩
theorem Inv.unpinned{pins pl:List (Addr×Obj)}{σ:St}{H:Hp}{s:Shared}(I:Inv X (pins++pl) σ H s):Inv X pins σ H s:=I.pins_of fun p hp=>I.pin p (zzV _ (List.mem_append_left _ hp))
theorem Ej{iter:Expr}{body:List Stmt}{wi:TI}{g:TG}{tb:TS}{pos:Pos}(hp:PassesOwn (model X.prog X.w) X.A X.env X.xe)(hc:X.calm=true)(hi:PI X tg iter wi)(hg:PG X tg g)(hb:PSs X body tb)
  (hs:∀x,foldedSetIterable iter X.env x=pure x:=by intro _;rfl):PS X (.For tg iter body [] pos) (tFor wi g tb):=by
 intro pins s σ H D I h
 refine wpAny_For (thn (hi pins s σ H _ I h) fun v s1 h1=>thn h1 fun itv s2 h2=>?_) hs
 obtain⟨it,fp,tn,J,H2,e,I2,T,st2,f2,W,⟨m0,w0⟩,turn⟩:=h2
 subst e
 -- what stays true of the iterator's objects through the loop
 have stat:∀{H':Hp},(∀b∈fp,H' b=none)->∀b∈fp,FpOk X pins H' b:=fun hn b hb=>⟨hn b hb,(f2 b hb).2⟩
 refine codeAny_forLoop_any (fun n s'=>∃i σ' H',Inv X pins σ' H' s'/\tn i s'.heap/\(∀b∈fp,H' b=none)/\W i n σ' H') ?_ m0 ⟨0,σ,H2,I2,st2,fun b hb=>(f2 b hb).1,w0⟩
 rintro n s3 ⟨i,σ3,H3,I3,st3,fr3,w3⟩
 rcases turn i n σ3 H3 w3 with ⟨stop,qn⟩|⟨go,N,hN,step⟩
 ·refine wpAny_passesOwn hp (thn (T.done X rfl rfl rfl hc i pins s3 σ3 H3 X.xe I3 (stat fr3) st3 stop) fun r s4 ⟨hr,I4⟩=>?_)
  subst hr
  exact wpAny_execs_nil ⟨σ3,H3,I4,qn⟩
 ·refine wpAny_passesOwn hp (thn (T.item X rfl rfl rfl hc i pins s3 σ3 H3 X.xe I3 (stat fr3) st3 go) fun r s4 ⟨u,hr,h4⟩=>?_)
  subst hr
  refine wpAny_passesOwn hp (thn h4 fun _ s5 ⟨x,H5,I5,r5,y5,st5,fr5⟩=>?_)
  have I5':=I5.pinned (stat fr5) (T.obj _ _ st5)
  refine wpAny_passesOwn hp (thn (hg _ s5 σ3 H5 x u _ I5' r5 (step x H5 y5)) fun _ s6 ⟨σ6,H6,I6,q6⟩=>?_)
  refine wpAny_passesOwn hp (thn (hb _ s6 σ6 H6 _ I6 q6) fun f s7 q7=>?_)
  have again:∀{σ7:St}{H7:Hp},Inv X (pins++qA fp s5.heap) σ7 H7 s7->N σ7 H7->∃m,m<n/\∃i σ' H',Inv X pins σ' H' s7/\tn i s7.heap/\(∀b∈fp,H' b=none)/\W i m σ' H':=fun {σ7 H7} I7 n7=>by
   obtain⟨m',hm,w7⟩:=hN σ7 H7 n7
   refine⟨m',hm,i+1,σ7,H7,I7.unpinned,T.keep _ _ _ st5 fun b hb o e=>(I7.pin (b,o) (zzV _ (zzV _ (gX hb e)))).1,fun b hb=>?_,w7⟩
   obtain⟨o,e,d⟩:=T.obj _ _ st5 b hb
   exact(I7.pin (b,o) (zzV _ (zzV _ (gX hb e)))).2.1
  cases f with
  |next=>obtain⟨σ7,H7,I7,n7⟩:=q7;exact again I7 n7
  |cont=>obtain⟨σ7,H7,I7,n7⟩:=q7;exact again I7 n7
  |brk=>obtain⟨σ7,H7,I7,q7⟩:=q7;exact⟨σ7,H7,I7.unpinned,q7⟩
  |ret v=>obtain⟨x7,σ7,H7,I7,r7,q7⟩:=q7;exact⟨x7,σ7,H7,I7.unpinned,r7,q7⟩
end
abbrev R2:=V->V->Hp->VK->Prop
def OpR(X:Cx)(f:Value->Value->Sem Value)(r:R2):Prop :=
 ∀(pins:List (Addr×Obj)) (s:Shared) (σ:St) (H:Hp) (x y:V) (v u:Value) (Q:VK),Inv X pins σ H s->RelV x v->RelV y u->r x y H Q ->
  wpAny (model X.prog X.w) X.A (f v u) (EP X pins σ Q) X.xe s
def UnR(X:Cx)(f:Value->Sem Value)(r:V->Hp->VK->Prop):Prop :=
 ∀(pins:List (Addr×Obj)) (s:Shared) (σ:St) (H:Hp) (x:V) (v:Value) (Q:VK),Inv X pins σ H s->RelV x v->r x H Q ->
  wpAny (model X.prog X.w) X.A (f v) (EP X pins σ Q) X.xe s
def eV(X:Cx)(f:Value)(r:List V->Hp->VK->Prop):Prop :=
 ∀(pins:List (Addr×Obj)) (s:Shared) (σ:St) (H:Hp) (xs:List V) (us:List Value) (Q:VK),Inv X pins σ H s->Vals xs us->r xs H Q ->
  wpAny (model X.prog X.w) X.A (call f us) (EP X pins σ Q) X.xe s
def tOp(r:R2)(ta tb:TE):TE:=fun σ H Q=>ta σ H fun x H1=>tb σ H1 fun y H2=>r x y H2 Q
def tUn(r:V->Hp->VK->Prop)(ta:TE):TE:=fun σ H Q=>ta σ H fun x H1=>r x H1 Q
def rI(C:Int->Int->Prop)(g:Int->Int->V):R2:=fun x y H Q=>∃i j,x=.int i/\y=.int j/\C i j/\Q (g i j) H
def rI0(g:Int->Int->V):R2:=fun x y H Q=>∃i j,x=.int i/\y=.int j/\Q (g i j) H
def rU(g:Int->V):V->Hp->VK->Prop:=fun x H Q=>∃i,x=.int i/\Q (g i) H
section
variable{X:Cx}{a b:Expr}{ta tb:TE}{pos:Pos}
theorem binT(ha:PE X a ta)(hb:PE X b tb){pins:List (Addr×Obj)}{s:Shared}{σ:St}{H:Hp}{R:V->V->Hp->Prop}(I:Inv X pins σ H s)
  (h:ta σ H fun x H1=>tb σ H1 fun y H2=>R x y H2) {Q:Value->Shared->Prop}{f:Value->Value->Sem Value}
  (hf:∀v u s2 x y H2,Inv X pins σ H2 s2->RelV x v->RelV y u->R x y H2->wpAny (model X.prog X.w) X.A (f v u) Q X.xe s2) :
  wpAny (model X.prog X.w) X.A (eval a X.env) (fun v s₁=>wpAny (model X.prog X.w) X.A (eval b X.env) (fun u s₂=>wpAny (model X.prog X.w) X.A (f v u) Q X.xe s₂) X.xe s₁) X.xe s:=by
 refine thn (ha pins s σ H _ I h) fun v s1 ⟨x,H1,I1,r1,q1⟩=>?_
 refine thn (hb pins s1 σ H1 _ I1 q1) fun u s2 ⟨y,H2,I2,r2,q2⟩=>?_
 exact hf v u s2 x y H2 I2 r1 r2 q2
theorem dJ{op:Operator}{r:R2}(ho:OpR X (binaryOp op) r)(ha:PE X a ta)(hb:PE X b tb):PE X (.BinOp a op b pos) (tOp r ta tb):=by
 intro pins s σ H Q I h
 exact wpAny_BinOp (binT ha hb I h fun v u s2 x y H2 I2 rx ry q=>ho pins s2 σ H2 x y v u Q I2 rx ry q)
theorem Gj{op:UnaryOp}{r:V->Hp->VK->Prop}(ho:UnR X (unaryOp op) r)(ha:PE X a ta):PE X (.UnaryOp op a pos) (tUn r ta):=by
 intro pins s σ H Q I h
 exact UnaryOp_ (thn (ha pins s σ H _ I h) fun v s1 ⟨x,H1,I1,r1,q1⟩=>ho pins s1 σ H1 x v Q I1 r1 q1)
theorem opI{f:Value->Value->Sem Value}{C:Int->Int->Prop}{g:Int->Int->Int}
  (rule:∀(i j:Int) (t u:Tok) (s:Shared) (Q:Value->Shared->Prop) (E:Value->Shared->Prop),C i j->Q (.int (g i j) s.toks) { s with toks:=s.toks+1 }->wpAny (model X.prog X.w) X.A (f (.int i t) (.int j u)) Q E s) :
  OpR X f (rI C fun i j=>.int (g i j)):=by
 intro pins s σ H x y v u Q I rx ry h
 obtain⟨i,j,rfl,rfl,hc,q⟩:=h
 obtain⟨t,rfl⟩:=rx
 obtain⟨t',rfl⟩:=ry
 exact rule i j t t' s _ _ hc ⟨.int (g i j),H,I.tok _,⟨_,rfl⟩,q⟩
theorem opI0{f:Value->Value->Sem Value}{g:Int->Int->Int}
  (rule:∀(i j:Int) (t u:Tok) (s:Shared) (Q:Value->Shared->Prop) (E:Value->Shared->Prop),Q (.int (g i j) s.toks) { s with toks:=s.toks+1 }->wpAny (model X.prog X.w) X.A (f (.int i t) (.int j u)) Q E s) :
  OpR X f (rI0 fun i j=>.int (g i j)):=by
 intro pins s σ H x y v u Q I rx ry h
 obtain⟨i,j,rfl,rfl,q⟩:=h
 obtain⟨t,rfl⟩:=rx
 obtain⟨t',rfl⟩:=ry
 exact rule i j t t' s _ _ ⟨.int (g i j),H,I.tok _,⟨_,rfl⟩,q⟩
theorem opB0{f:Value->Value->Sem Value}{g:Int->Int->Bool}
  (rule:∀(i j:Int) (t u:Tok) (s:Shared) (Q:Value->Shared->Prop) (E:Value->Shared->Prop),Q (.bool (g i j)) s->wpAny (model X.prog X.w) X.A (f (.int i t) (.int j u)) Q E s) :
  OpR X f (rI0 fun i j=>.bl (g i j)):=by
 intro pins s σ H x y v u Q I rx ry h
 obtain⟨i,j,rfl,rfl,q⟩:=h
 obtain⟨t,rfl⟩:=rx
 obtain⟨t',rfl⟩:=ry
 exact rule i j t t' s _ _ ⟨.bl (g i j),H,I,rfl,q⟩
def CPow(i j:Int):Prop:=0 <= j/\j <= 1000000/\i.natAbs<2^64
theorem mB:OpR X (binaryOp .Add) (rI0 fun i j=>.int (i+j)):=opI0 fun _ _ _ _ _ _ _ q=>add_int q
theorem Ek:OpR X (binaryOp .Sub) (rI0 fun i j=>.int (i - j)):=opI0 fun _ _ _ _ _ _ _ q=>sub_int q
theorem lj:OpR X (binaryOp .Mod) (rI (fun _ j=>0<j) fun i j=>.int (i % j)):=opI fun i j _ _ _ _ _ hc q=>by
 have h1:(0:Int)<j:=hc
 exact mod_int' (by omega) (by rw[Int.fmod_eq_emod_of_nonneg i (by omega)];exact q)
theorem El:OpR X (binaryOp .Pow) (rI CPow fun i j=>.int (i^j.toNat)):=opI fun _ _ _ _ _ _ _ hc q=>pow_int_small hc.1 hc.2.1 hc.2.2 q
theorem unI{f:Value->Sem Value}{g:Int->Int}
  (rule:∀(i:Int) (t:Tok) (s:Shared) (Q:Value->Shared->Prop) (E:Value->Shared->Prop),Q (.int (g i) s.toks) { s with toks:=s.toks+1 }->wpAny (model X.prog X.w) X.A (f (.int i t)) Q E s) :
  UnR X f (rU fun i=>.int (g i)):=by
 intro pins s σ H x v Q I rx h
 obtain⟨i,rfl,q⟩:=h
 obtain⟨t,rfl⟩:=rx
 exact rule i t s _ _ ⟨.int (g i),H,I.tok _,⟨_,rfl⟩,q⟩
theorem Em:UnR X (unaryOp .USub) (rU fun i=>.int (-i)):=unI fun _ _ _ _ _ q=>neg_int q
end
def scal:V->V->Bool
 |.non,.non=>true|.non,.int _=>true|.int _,.non=>true|.non,.bl _=>true|.bl _,.non=>true|.non,.str _=>true|.str _,.non=>true
 |.int _,.int _=>true|.bl _,.bl _=>true|.str _,.str _=>true|.byt _,.byt _=>true
 |.int _,.str _=>true|.str _,.int _=>true|.bl _,.str _=>true|.str _,.bl _=>true
 |_,_=>false
def rEq:R2:=fun x y H Q=>scal x y=true/\Q (.bl (decide (x=y))) H
theorem Cb{i j:Int}:decide (V.int i=V.int j)=(i == j):=by
 rw[zyC]
 simp
theorem En{i j:Bool}:decide (V.bl i=V.bl j)=(i == j):=by
 rw[zyC]
 simp
theorem Cc{i j:Str}:decide (V.str i=V.str j)=(i == j):=by
 rw[zyC]
 simp
theorem Cd{i j:Array UInt8}:decide (V.byt i=V.byt j)=(i.toList == j.toList):=by
 rw[zyC]
 cases i
 cases j
 simp
section
variable{X:Cx}{a b c:Expr}{ta tb tc:TE}{pos:Pos}
theorem cO{pins:List (Addr×Obj)}{σ:St}{H:Hp}{s:Shared}{Q:VK}{k k':Bool}(I:Inv X pins σ H s)(q:Q (.bl k) H)(e:k=k'):EP X pins σ Q (.bool k') s:=by
 subst e
 exact⟨.bl k,H,I,rfl,q⟩
theorem Gk:OpR X (compareOp .Eq) rEq:=by
 intro pins s σ H x y v u Q I rx ry h
 obtain⟨hs,q⟩:=h
 cases x with
 |non =>
  cases rx
  cases y with
  |non=>cases ry;exact PySem.EqNone.eq_none_none (cO I q (by simp))
  |bl j=>cases ry;exact PySem.EqNone.eq_none_bool (cO I q (by simp))
  |int j=>obtain⟨t',rfl⟩:=ry;exact PySem.EqNone.eq_none_int (cO I q (by simp))
  |str j=>obtain⟨t',rfl⟩:=ry;exact PySem.EqNone.eq_none_str (cO I q (by simp))
  |_=>exact absurd (show false=true from hs) zzo
 |bl i =>
  cases rx
  cases y with
  |non=>cases ry;exact PySem.EqNone.eq_bool_none (cO I q (by simp))
  |bl j=>cases ry;exact eq_bool (cO I q En)
  |str j=>obtain⟨t',rfl⟩:=ry;exact PySem.EqMixed.eq_bool_str (cO I q (by simp))
  |_=>exact absurd (show false=true from hs) zzo
 |int i =>
  obtain⟨t,rfl⟩:=rx
  cases y with
  |non=>cases ry;exact PySem.EqNone.eq_int_none (cO I q (by simp))
  |int j=>obtain⟨t',rfl⟩:=ry;exact eq_int (cO I q Cb)
  |str j=>obtain⟨t',rfl⟩:=ry;exact PySem.EqMixed.eq_int_str (cO I q (by simp))
  |_=>exact absurd (show false=true from hs) zzo
 |str i =>
  obtain⟨t,rfl⟩:=rx
  cases y with
  |non=>cases ry;exact PySem.EqNone.eq_str_none (cO I q (by simp))
  |bl j=>cases ry;exact PySem.EqMixed.eq_str_bool (cO I q (by simp))
  |int j=>obtain⟨t',rfl⟩:=ry;exact PySem.EqMixed.eq_str_int (cO I q (by simp))
  |str j=>obtain⟨t',rfl⟩:=ry;exact eq_str (cO I q Cc)
  |_=>exact absurd (show false=true from hs) zzo
 |byt i =>
  obtain⟨t,rfl⟩:=rx
  cases y with
  |byt j=>obtain⟨t',rfl⟩:=ry;exact PySem.W.eq_bytes (cO I q Cd)
  |_=>exact absurd (show false=true from hs) zzo
 |_=>cases y<;>exact absurd (show false=true from hs) zzo
theorem Eo:OpR X (compareOp .Lt) (rI0 fun i j=>.bl (decide (i<j))):=opB0 fun _ _ _ _ _ _ _ q=>lt_int q
theorem Gm:OpR X (compareOp .LtE) (rI0 fun i j=>.bl (decide (i <= j))):=opB0 fun _ _ _ _ _ _ _ q=>le_int q
theorem Ep:OpR X (compareOp .Gt) (rI0 fun i j=>.bl (decide (j<i))):=opB0 fun _ _ _ _ _ _ _ q=>gt_int q
theorem Gn:OpR X (compareOp .GtE) (rI0 fun i j=>.bl (decide (j <= i))):=opB0 fun _ _ _ _ _ _ _ q=>ge_int q
theorem Er:OpR X (compareOp .Is) (fun x y H Q=>y=.non/\Q (.bl (decide (x=.non))) H):=by
 intro pins s σ H x y v u Q I rx ry h
 obtain⟨rfl,q⟩:=h
 cases ry
 refine is_none_gen (cO I q ?_)
 cases x<;>first
  | (cases rx;rfl)
  | (obtain⟨t,rfl⟩:=rx;rfl)
theorem aw(b:Expr){op:CmpOp}(h:op ≠ .In:=by decide)(h2:op ≠ .NotIn:=by decide):behindInMarks op b=false:=by
 have e1:(op == CmpOp.In)=false:=by cases op<;>first|rfl|exact absurd rfl h
 have e2:(op == CmpOp.NotIn)=false:=by cases op<;>first|rfl|exact absurd rfl h2
 cases b<;>simp[behindInMarks,e1,e2]
theorem Ce{op:CmpOp}{r:R2}(ho:OpR X (compareOp op) r)(ha:PE X a ta)(hb:PE X b tb)(hm:behindInMarks op b=false):PE X (.Compare a [op] [b] pos) (tOp r ta tb):=by
 intro pins s σ H Q I h
 exact wpAny_Compare1 (binT ha hb I h fun v u s2 x y H2 I2 rx ry q=>ho pins s2 σ H2 x y v u Q I2 rx ry q) hm
def Go(t:TE):TT:=fun σ H Q=>t σ H fun x H'=>∃k,x=.bl k/\Q k H'
theorem mC{op:CmpOp}{r:R2}(ho:OpR X (compareOp op) r)(ha:PE X a ta)(hb:PE X b tb)(hm:behindInMarks op b=false):PT X (.Compare a [op] [b] pos) (Go (tOp r ta tb)):=by
 intro pins s σ H Q I h
 refine wpAny_isTrue_Compare1 (thn (ha pins s σ H _ I h) fun v s1 ⟨x,H1,I1,r1,q1⟩=>thn (hb pins s1 σ H1 _ I1 q1) fun u s2 ⟨y,H2,I2,r2,q2⟩ =>
  thn (ho pins s2 σ H2 x y v u _ I2 r1 r2 q2) fun c s3 ⟨z,H3,I3,r3,k,e,q3⟩=>?_) hm
 subst e
 cases r3
 exact wpAny_truthy_bool ⟨H3,I3,q3⟩
def Bf(r r':R2)(ta tb tc:TE):TE:=fun σ H Q=>ta σ H fun x H1=>tb σ H1 fun y H2=>r x y H2 fun z H3=>∃k,z=.bl k /\
 (if k=true then tc σ H3 fun w' H4=>r' y w' H4 Q else Q (.bl false) H3)
theorem zP{op op':CmpOp}{r r':R2}(ho:OpR X (compareOp op) r)(ho':OpR X (compareOp op') r')(ha:PE X a ta)(hb:PE X b tb)(hc:PE X c tc)
  (hm:lastMarks [op,op'] [b,c]=false:=by with_unfolding_all rfl):PE X (.Compare a [op,op'] [b,c] pos) (Bf r r' ta tb tc):=by
 intro pins s σ H Q I h
 refine Compare_chain (thn (ha pins s σ H _ I h) fun v s1 ⟨x,H1,I1,r1,q1⟩=>chain_link (thn (hb pins s1 σ H1 _ I1 q1) fun u s2 ⟨y,H2,I2,r2,q2⟩ =>
  thn (ho pins s2 σ H2 x y v u _ I2 r1 r2 q2) fun d s3 ⟨z,H3,I3,r3,k,e,q3⟩=>?_)) hm
 subst e
 cases r3
 refine wpAny_truthy_bool ?_
 cases k with
 |false=>exact ite_ff ⟨.bl false,H3,I3,rfl,q3⟩
 |true=>exact ite_tt (chain_last (thn (hc pins s3 σ H3 _ I3 q3) fun w' s4 ⟨z',H4,I4,r4,q4⟩=>ho' pins s4 σ H4 y z' u w' Q I4 r2 r4 q4))
theorem uz:(sizeLine:Nat)<2^63:=by rw[sizeLine_eq];decide
theorem oq{x:V}{us:List Value}(r:Vals [x] us):∃u,us=[u]/\RelV x u:=by
 cases r with
 |cons r1 r2=>cases r2;exact⟨_,rfl,r1⟩
theorem Cf{x y:V}{us:List Value}(r:Vals [x,y] us):∃u w',us=[u,w']/\RelV x u/\RelV y w':=by
 cases r with
 |cons r1 r2 =>
  cases r2 with
  |cons r3 r4=>cases r4;exact⟨_,_,rfl,r1,r3⟩
theorem xh(hc:X.calm=true):eV X (.builtin "min") (fun xs H Q=>∃i j,xs=[.int i,.int j]/\Q (.int (if j<i then j else i)) H):=by
 intro pins s σ H xs us Q I r h
 obtain⟨i,j,rfl,q⟩:=h
 obtain⟨u,w',rfl,⟨t,rfl⟩,⟨t',rfl⟩⟩:=Cf r
 refine min_two_ints (I.ok.hd hc) fun h' tk k=>⟨_,H,I.kept k,?_,q⟩
 by_cases hj:j<i
 ·rw[if_pos hj,if_pos hj];exact⟨_,rfl⟩
 ·rw[if_neg hj,if_neg hj];exact⟨_,rfl⟩
theorem xj:eV X (.type "int") (fun xs H Q=>(∃i,xs=[.int i]/\Q (.int i) H)∨∃k,xs=[.bl k]/\Q (.int (if k then 1 else 0)) H):=by
 intro pins s σ H xs us Q I r h
 rcases h with ⟨i,rfl,q⟩|⟨k,rfl,q⟩
 ·obtain⟨u,rfl,t,rfl⟩:=oq r
  exact call_int_int ⟨.int i,H,I,⟨_,rfl⟩,q⟩
 ·obtain⟨u,rfl,r1⟩:=oq r
  cases r1
  exact call_int_bool ⟨.int (if k then 1 else 0),H,I.tok _,⟨_,rfl⟩,q⟩
end
structure ObjM(h:Heap)(x dx C:Addr)(mA:Str->Option Value):Prop where
 obj:h.get? x=some (PySem.W.instObj C dx)
 ns:h.Ns1 dx mA
 ne:dx≠x
theorem xk{h:Heap}{dx:Addr}{mA:Str->Option Value}(n:h.Ns1 dx mA):∃od,h.get? dx=some od/\∀name,PySem.W.lookIn name od=some (mA name):=by
 obtain⟨o,es,ep,ho,hd,hk,_,hm⟩:=n
 refine⟨o,ho,fun name=>?_⟩
 have e:=hm name
 unfold nsFind findBy at e
 rw[←Array.find?_toList]at e
 unfold PySem.W.lookIn
 rw[hd]
 dsimp only
 split
 ·rename_i y q
  rw[q]at e
  exact congrArg some e
 ·rename_i q
  rw[q]at e
  have a:es.toList.any (·.refKey)=false:=by
   rw[List.any_eq_false]
   intro y hy
   obtain⟨z,t,hkey⟩:=hk y (Array.mem_toList_iff.mp hy)
   simp[DictEntry.refKey,hkey]
  have a':¬es.toList.any (·.refKey)=true:=by rw[a];exact zzo
  rw[if_neg a']
  exact congrArg some e
theorem ObjM.look{h:Heap}{x dx C:Addr}{mA:Str->Option Value}(I:ObjM h x dx C mA):∃od,PySem.W.InstAt h x (PySem.W.instObj C dx) C (some od)/\∀name,PySem.W.lookIn name od=some (mA name) :=
 let ⟨od,ho,hl⟩:=xk I.ns
 ⟨od,⟨I.obj,rfl,rfl,ho⟩,hl⟩
theorem RelO.some_of{v:V}{o:Option Value}(r:RelO (some v) o):∃u,o=some u/\RelV v u:=by
 cases o with
 |none=>exact(show False from r).elim
 |some u=>exact⟨u,rfl,r⟩
section
variable{P:Program}{w:World}{H:Hp}{h:Heap}{a C dx:Addr}{fs:List (Str×V)}
theorem Cg(hok:HOk P w H h)(e:H a=some (.ins C dx fs)):∃mA,ObjM h a dx C mA/\(∀f,RelO (fs.lookup f) (mA f))/\PySem.Within mA (fs.map (·.1))/\fs.length <= 1000/\H dx=some (.own a):=by
 obtain⟨d,z,ne,ob,mA,n,r,q⟩:=(show ObjOk P w H h a (.ins C dx fs) from hok a _ e)
 exact⟨mA,⟨ob,n,ne⟩,r,q,z,d⟩
end
structure Cls(K:PySem.W.Frag)(C:Addr):Prop where
 pg:PySem.W.plainGet K C Str.empty=true
 hd:PySem.W.hasDictIn K C=true
 po:PySem.W.plainOver K C=true
 sa:PySem.W.findIn K (.ref C) "__setattr__" = some (some (.builtin "object.__setattr__"))
theorem Cls.get{K:PySem.W.Frag}{C:Addr}(c:Cls K C)(f:Str):PySem.W.plainGet K C f=true:=c.pg
section
variable{X:Cx}{pins:List (Addr×Obj)}{σ:St}{H:Hp}{s:Shared}{A:Around}{E:Value->Shared->Prop}{Q:Value->Shared->Prop}{c:Value}{b:Bool}
inductive TyOf(K:PySem.W.Frag)(H:Hp):V->Value->Prop where
 |non:TyOf K H .non (.type "NoneType")
 |bl (x:Bool):TyOf K H (.bl x) (.type "bool")
 |int (i:Int):TyOf K H (.int i) (.type "int")
 |str (x:Str):TyOf K H (.str x) (.type "str")
 |flt (x:UInt64):TyOf K H (.flt x) (.type "float")
 |lst {a:Addr}{xs:List V} (e:H a=some (.lst xs)):TyOf K H (.ref a) (.type "list")
 |frz {a:Addr}{o:Obj}{xs:List V} (e:H a=some (.frz o (.lst xs))):TyOf K H (.ref a) (.type "list")
 |tup {a:Addr}{xs:List V} (e:H a=some (.tup xs)):TyOf K H (.ref a) (.type "tuple")
 |dK {a:Addr}{kvs:List (Key×V)} (e:H a=some (.dK kvs)):TyOf K H (.ref a) (.type "dict")
 |dT {a:Addr}{kvs:List (List Key×V)} (e:H a=some (.dT kvs)):TyOf K H (.ref a) (.type "dict")
 |ins {a C dx:Addr}{fs:List (Str×V)} (e:H a=some (.ins C dx fs)) (cl:Cls K C) (ha:PySem.W.findIn K (.ref C) "__class__" = some (some (.builtin "object.__class__")))
   (hn:PySem.W.specialIn K (.builtin "object.__class__") "__get__" = some (some (.builtin "getset_descriptor.__get__"))) (htk:PySem.W.takesIn K (.builtin "object.__class__")=some true)
   (hm:PySem.W.mroIn K C (.type "object")=some true):TyOf K H (.ref a) (.ref C)
theorem xl{x:V}{u t:Value}(I:Inv X pins σ H s)(rx:RelV x u)(ty:TyOf X.K H x t)(e:PySem.W.kitOne X.K t c=some b)(h:∀tk,Q (.bool b) { s with toks:=tk }) :
  wpAny (model X.prog X.w) A (call (.builtin "isinstance") [u,c]) Q E s:=by
 cases ty with
 |non=>cases (show u=Value.none from rx);exact zyp PySem.W.kitx_none I.kIn True.intro e (fun z=>nomatch z) h
 |bl y=>cases (show u=Value.bool y from rx);exact zyp PySem.W.kitx_bool I.kIn True.intro e (fun z=>nomatch z) h
 |int i=>obtain⟨t,q⟩:=(show ∃t,u=Value.int i t from rx);cases q;exact zyp PySem.W.kitx_int I.kIn True.intro e (fun z=>nomatch z) h
 |str y=>obtain⟨t,q⟩:=(show ∃t,u=Value.str y t from rx);cases q;exact zyp PySem.W.kitx_str I.kIn True.intro e (fun z=>nomatch z) h
 |flt y=>obtain⟨t,q⟩:=(show ∃t,u=Value.float y t from rx);cases q;exact zyp PySem.W.kitx_float I.kIn True.intro e (fun z=>nomatch z) h
 |@lst a xs ea =>
  cases (show u=Value.ref a from rx)
  obtain⟨_,_,n,_,h1⟩:=(show ObjOk X.prog X.w H s.heap a (.lst xs) from I.hok a _ ea)
  exact zyp PySem.W.kitx_list I.kIn ⟨_,h1,rfl⟩ e (fun z=>nomatch z) h
 |@frz a ob xs ea =>
  cases (show u=Value.ref a from rx)
  obtain⟨_,_,_,n,_,h1⟩:=(show ObjOk X.prog X.w H s.heap a (.frz ob (.lst xs)) from I.hok a _ ea)
  exact zyp PySem.W.kitx_list I.kIn ⟨_,h1,rfl⟩ e (fun z=>nomatch z) h
 |@tup a xs ea =>
  cases (show u=Value.ref a from rx)
  obtain⟨_,_,_,p⟩:=(show ObjOk X.prog X.w H s.heap a (.tup xs) from I.hok a _ ea)
  obtain⟨o,h1,h2,_⟩:=p
  exact zyp PySem.W.kitx_tuple I.kIn ⟨o,h1,h2⟩ e (fun z=>nomatch z) h
 |@dK a kvs ea =>
  cases (show u=Value.ref a from rx)
  obtain⟨_,_,vs,_,p⟩:=(show ObjOk X.prog X.w H s.heap a (.dK kvs) from I.hok a _ ea)
  obtain⟨o,es,ep,h1,h2,_⟩:=p
  exact zyp PySem.W.kitx_dict I.kIn ⟨o,h1,h2.1⟩ e (fun z=>nomatch z) h
 |@dT a kvs ea =>
  cases (show u=Value.ref a from rx)
  obtain⟨_,_,xs,_,o,es,ep,h1,h2,_⟩:=(show ObjOk X.prog X.w H s.heap a (.dT kvs) from I.hok a _ ea)
  exact zyp PySem.W.kitx_dict I.kIn ⟨o,h1,h2.1⟩ e (fun z=>nomatch z) h
 |@ins a C dx fs ea cl ha hn htk hm =>
  cases (show u=Value.ref a from rx)
  obtain⟨mA,O,_⟩:=Cg I.hok ea
  obtain⟨od,J,_⟩:=O.look
  exact zyp (PySem.W.kitx_own (cl.get _) cl.hd ha hn htk hm) I.kIn J e (fun z=>nomatch z) h
end
structure Room(k:Nat)(A:Around):Prop where
 hd:A.handled=none
 dp:A.depth+3*k+5<recursionLimit
 un:A.units+16*k+200<cLine
theorem Room.mono{j k:Nat}{A:Around}(r:Room k A)(h:j <= k):Room j A:=⟨r.hd,by have:=r.dp;omega,by have:=r.un;omega⟩
theorem Room.deeper{k:Nat}{A:Around}(r:Room (k+1) A)(env:Env):Room k (A.deeper env) :=
 ⟨r.hd,by have:=r.dp;show A.depth+1+3*k+5<_;omega,by have:=r.un;show A.units+3+16*k+200<_;omega⟩
theorem Room.depth{k:Nat}{A:Around}(r:Room k A):A.depth<recursionLimit:=by have:=r.dp;omega
theorem Room.units{k:Nat}{A:Around}(r:Room k A):A.units+64<cLine:=by have:=r.un;omega
def tNil:TA:=fun _ H Q=>Q [] H
def xm(ta:TE)(tr:TA):TA:=fun σ H Q=>ta σ H fun x H1=>tr σ H1 fun xs H2=>Q (x::xs) H2
section
variable{X:Cx}{e:Expr}{es:List Expr}{te:TE}{t:TA}{pos:Pos}
theorem da:PA X [] tNil:=fun _ _ _ _ H Q I h=>Calls.spliced_nil ⟨[],H,I,.nil,h⟩
theorem bC(ha:PE X e te)(hr:PA X es t)(hs:starEach (e::es) X.env=(false,eval e X.env)::starEach es X.env:=by rfl):PA X (e::es) (xm te t):=by
 intro pos pins s σ H Q I h
 rw[hs]
 show wpAny _ _ (spliced ((false,eval e X.env)::backTo pos (starEach es X.env))) _ _ s
 refine Calls.spliced_cons (thn (ha pins s σ H _ I h) fun u s1 ⟨x,H1,I1,r1,q1⟩=>?_)
 exact thn (hr pos pins s1 σ H1 _ I1 q1) fun us s2 ⟨xs,H2,I2,r2,q2⟩=>⟨x::xs,H2,I2,.cons r1 r2,q2⟩
def tTup(t:TA):TE:=fun σ H Q=>t σ H fun xs H1=>xs.length <= sizeLine/\∀p,H1 p=none->Q (.ref p) (upd H1 p (.tup xs))
def tLst(t:TA):TE:=fun σ H Q=>t σ H fun xs H1=>xs.length <= sizeLine/\∀p,H1 p=none->Q (.ref p) (upd H1 p (.lst xs))
theorem Es{x1}(h:PA X es t):PE X (.Tuple es x1 pos) (tTup t):=by
 intro pins s σ H Q I hq
 refine wpAny_Tuple_spliced (thn (h pos pins s σ H _ I hq) fun us s1 ⟨xs,H1,I1,r,z,q⟩=>⟨by rw[←r.length];exact z,?_⟩)
 have hf:H1 s1.heap.objs.size=none:=I1.hok.fresh (zzh _)
 refine⟨.ref s1.heap.objs.size,upd H1 s1.heap.objs.size (.tup xs),I1.laid (t':=s1.toks) (fun b u e=>zzf _ e) (zzh _) ?_,rfl,q _ hf⟩
 exact⟨⟨z,.inl ⟨_,zzn _ rfl,rfl⟩⟩,us,r,⟨_,zzn _ rfl,rfl,_,rfl⟩⟩
theorem uA(h:PA X es t):PE X (.List es pos) (tLst t):=by
 intro pins s σ H Q I hq
 refine wpAny_List_spliced (thn (h pos pins s σ H _ I hq) fun us s1 ⟨xs,H1,I1,r,z,q⟩=>⟨by rw[←r.length];exact z,?_⟩)
 have hf:H1 s1.heap.objs.size=none:=I1.hok.fresh (zzh _)
 refine⟨.ref s1.heap.objs.size,upd H1 s1.heap.objs.size (.lst xs),I1.laid (t':=s1.toks) (fun b u e=>zzf _ e) (zzh _) ?_,rfl,q _ hf⟩
 exact⟨z,us,0,r,zzn _ rfl⟩
end
abbrev Sp:=List V->Hp->VK->XK->Prop
abbrev CXT:=List Env->Hp->Shared->XK->Value->Shared->Prop
structure Env0(P:Program)(w:World)(K:PySem.W.Frag)(mg:Str->Option Value)(base:Heap)(A:Around)(outer:List Env)(s:Shared)(H:Hp):Prop where
 frames:A.frames=some outer
 mod:Mod K mg base
 bs:∀b o,base.get? b=some o->s.heap.get? b=some o/\H b=none
 bsz:base.objs.size <= s.heap.objs.size
 funs:s.heap.FunFrames base outer
 frf:∀b∈frs outer,H b=none
 hok:HOk P w H s.heap
 bare:AllBare s.gens
def CE(outer:List Env)(P:Program)(w:World)(H:Hp)(s:Shared)(Q:VK)(u:Value)(s':Shared):Prop :=
 ∃v H',s'.os=s.os/\AllBare s'.gens/\Un (frs outer) [] H H' s.heap s'.heap/\HOk P w H' s'.heap/\RelV v u/\Q v H'
def CR(CX:CXT)(outer:List Env)(P:Program)(w:World)(H:Hp)(s:Shared)(Q:VK)(E:XK)(r:Result)(s':Shared):Prop :=
 match r with
 |.ok (.ret u)=>CE outer P w H s Q u s'
 |.ok _=>False
 |.error e=>CX outer H s E e s'
structure FnOk(P:Program)(w:World)(K:PySem.W.Frag)(mg:Str->Option Value)(base:Heap)(CX:CXT)(k:Nat)(f:Addr)(fd:FuncData)(ps:List Str)(sp:Sp):Prop where
 len:∀vs H Q E,sp vs H Q E->vs.length=ps.length
 run:∀(A:Around) (outer:List Env) (s:Shared) (H:Hp) (args:Args) (us:List Value) (vs:List V) (Q:VK) (E:XK),Room k A->Env0 P w K mg base A outer s H->BindsTo s fd args (ps.zip us)->Vals vs us->sp vs H Q E ->
  codeAny (model P w) A (.call (.ref f) args) (CR CX outer P w H s Q E) s
theorem FnOk.imp{P:Program}{w:World}{K:PySem.W.Frag}{mg:Str->Option Value}{base:Heap}{CX:CXT}{k:Nat}{f:Addr}{fd:FuncData}{ps:List Str}{sp sp':Sp}(F:FnOk P w K mg base CX k f fd ps sp)
  (h:∀vs H Q E,sp' vs H Q E->sp vs H Q E):FnOk P w K mg base CX k f fd ps sp' :=
 ⟨fun vs H Q E q=>F.len vs H Q E (h _ _ _ _ q),fun A outer s H args us vs Q E hr he hb hv hs=>F.run A outer s H args us vs Q E hr he hb hv (h _ _ _ _ hs)⟩
section
variable{X:Cx}{pins:List (Addr×Obj)}{σ:St}{H:Hp}{s s':Shared}
theorem Inv.env0(I:Inv X pins σ H s):Env0 X.prog X.w X.K X.mg X.base X.A X.stack s H :=
 ⟨I.ok.frames,I.ok.mod,I.bs,zzk I.ok.bsz I.sz,I.stack,I.stkFree,I.hok,I.bare⟩
theorem Inv.after{Q:VK}{u:Value}(I:Inv X pins σ H s)(h:CE X.stack X.prog X.w H s Q u s'):EP X pins σ Q u s':=by
 obtain⟨v,H',os,bare,un,hok,r,q⟩:=h
 obtain⟨hh,g,d,t,os'⟩:=s'
 obtain rfl:os'=s.os:=os
 exact⟨v,H',I.call (h':=hh) (g':=g) (d':=d) (t':=t) (ch:=[]) un hok bare (fun b z=>absurd z (by simp)),r,q⟩
end
def Et(sp:Sp)(dvs:List V)(E:XK)(t:TA):TE:=fun σ H Q=>t σ H fun vs H1=>sp (vs++dvs) H1 Q E
def Binds(K:PySem.W.Frag)(fd:FuncData)(ps:List Str)(ds:List Value):Prop :=
 ∀(s:Shared) (us:List Value),K.In s.heap->(us++ds).length=ps.length->BindsTo s fd ⟨us,[]⟩ (ps.zip (us++ds))
theorem Binds.all{K:PySem.W.Frag}{fd:FuncData}{ps:List Str}(h:∀us:List Value,us.length=ps.length->bindArgs fd ⟨us,[]⟩=pure (ps.zip us)):Binds K fd ps []:=fun s us _ hl=>by
 rw[zzy]at hl ⊢
 exact .of_eq (h us hl)
def xo(CX:CXT)(X:Cx)(E:XK):Prop:=∀(pins:List (Addr×Obj)) (σ:St) (H:Hp) (s:Shared) (e:Value) (s':Shared),Inv X pins σ H s->CX X.stack H s E e s'->X.xe e s'
section
variable{X:Cx}{CX:CXT}{k:Nat}{f:Addr}{fd:FuncData}{ps:List Str}{sp:Sp}{dvs:List V}{ds:List Value}{E:XK}{x:Str}{p pos:Pos}{e:Expr}{es:List Expr}{t:TA}
theorem Eu{pins:List (Addr×Obj)}{σ:St}{H:Hp}{s:Shared}{Q:VK}{us:List Value}{vs:List V}(F:FnOk X.prog X.w X.K X.mg X.base CX k f fd ps sp)(hr:Room k X.A)(hb:Binds X.K fd ps ds)(hd:Vals dvs ds)(hx:xo CX X E)
  (I:Inv X pins σ H s) (r:Vals vs us) (h:sp (vs++dvs) H Q E):wpAny (model X.prog X.w) X.A (call (.ref f) us) (EP X pins σ Q) X.xe s:=by
 have r2:Vals (vs++dvs) (us++ds):=r.append hd
 have hl:(us++ds).length=ps.length:=by rw[←r2.length];exact F.len _ _ _ _ h
 refine wpAny_call (codeAny_mono (F.run X.A X.stack s H ⟨us,[]⟩ (us++ds) (vs++dvs) Q E hr I.env0 (hb s us I.kIn hl) r2 h) fun r s' hq=>?_)
 cases r with
 |error e=>exact hx pins σ H s e s' I hq
 |ok fl =>
  cases fl with
  |ret u=>exact I.after hq
  |next=>exact False.elim hq
  |brk=>exact False.elim hq
  |cont=>exact False.elim hq
theorem sK(F:FnOk X.prog X.w X.K X.mg X.base CX k f fd ps sp)(hr:Room k X.A)(hg:Gl X x)(hm:X.mg x=some (.ref f))(hk:PySem.W.keepIn X.K (.ref f)=true)(hb:Binds X.K fd ps ds)(hd:Vals dvs ds)(hx:xo CX X E)
  (ha:PA X (e::es) t) (hdb:(x == ("__debug__" : Str))=false:=by decide) (he:starEach (e::es) X.env=(false,eval e X.env)::starEach es X.env:=by rfl) (hpl:(backTo pos (starEach es X.env)).any (·.1)=false:=by rfl) :
  PE X (.Call (.Name x p) (e::es) [] pos) (Et sp dvs E t):=by
 intro pins s σ H Q I h
 refine wpAny_Call_Name_kw (wY I hg hm ?_ hdb)
 refine PySem.W.callWith_K (h₀:=X.base) I.ok.mod.kin hk (thn (ha pos pins s σ H _ I h) fun us s1 ⟨vs,H1,I1,r,q⟩=>⟨I1.kIn,?_⟩) he hpl
 exact Eu F hr hb hd hx I1 r q
end
structure FnScope(N P:List Str)(sc:Scope):Prop where
 kind:sc.kind=.function
 co:sc.isCoroutine=false
 gen:sc.isGenerator=false
 nd:N.Nodup
 pre:N.take P.length=P
 par:∀x∈P,sc.names.lookup x=some .local∨sc.names.lookup x=some .cell
 nofree:∀y∈sc.names,y.2 ≠ .free
theorem qB{kindOf:Str->Option NameKind}{x:Str}:∀{binds:List (Str×Value)}{m:Str->Option Value},(∀v,(x,v)∉binds)->bindL kindOf binds m x=m x
 |[],_,_=>rfl
 | (n,v)::r,m,h=>by
  unfold bindL
  rw[qB fun w hw=>h w (zzb _ hw)]
  split
  ·have:x≠n:=by rintro rfl;exact h v zzd
   simp[this]
  ·rfl
theorem qC{kindOf:Str->Option NameKind}{x:Str}:∀{binds:List (Str×Value)}{m:Str->Option Value},(∀v,(x,v)∉binds)->bindC kindOf binds m x=m x
 |[],_,_=>rfl
 | (n,v)::r,m,h=>by
  unfold bindC
  rw[qC fun w hw=>h w (zzb _ hw)]
  split
  ·rfl
  ·have:x≠n:=by rintro rfl;exact h v zzd
   simp[this]
theorem qD{kindOf:Str->Option NameKind}{x:Str}{v:Value}:∀{P:List Str}{vs:List Value}{i:Nat}{m:Str->Option Value},P.Nodup->P[i]? = some x->vs[i]? = some v->kindOf x=some .local ->
  bindL kindOf (P.zip vs) m x=some v
 |[],_,_,_,_,h,_,_=>by simp at h
 |_::_,[],_,_,_,_,h,_=>by simp at h
 |p::P,w::vs,0,m,nd,h1,h2,hk=>by
  simp at h1 h2;subst h1;subst h2
  show bindL kindOf ((p,w)::P.zip vs) m p=_
  unfold bindL
  rw[qB fun v hv=>(zzL.mp nd).1 (List.of_mem_zip hv).1,if_pos hk]
  simp
 |p::P,w::vs,i+1,m,nd,h1,h2,hk=>by
  show bindL kindOf ((p,w)::P.zip vs) m x=_
  unfold bindL
  exact qD (i:=i) (zzL.mp nd).2 (by simpa using h1) (by simpa using h2) hk
theorem qE{kindOf:Str->Option NameKind}{x:Str}{v:Value}:∀{P:List Str}{vs:List Value}{i:Nat}{m:Str->Option Value},P.Nodup->P[i]? = some x->vs[i]? = some v->kindOf x≠some .local ->
  bindC kindOf (P.zip vs) m x=some v
 |[],_,_,_,_,h,_,_=>by simp at h
 |_::_,[],_,_,_,_,h,_=>by simp at h
 |p::P,w::vs,0,m,nd,h1,h2,hk=>by
  simp at h1 h2;subst h1;subst h2
  show bindC kindOf ((p,w)::P.zip vs) m p=_
  unfold bindC
  rw[qC fun v hv=>(zzL.mp nd).1 (List.of_mem_zip hv).1,if_neg hk]
  simp
 |p::P,w::vs,i+1,m,nd,h1,h2,hk=>by
  show bindC kindOf ((p,w)::P.zip vs) m x=_
  unfold bindC
  exact qE (i:=i) (zzL.mp nd).2 (by simpa using h1) (by simpa using h2) hk
def start(N:List Str)(vs:List V):St:=vs.map some++List.replicate (N.length - vs.length) none
def cxOf(CX:CXT)(P:Program)(w:World)(K:PySem.W.Frag)(mg:Str->Option Value)(base:Heap)(N:List Str)(qual:Str)(scope:Scope)(f:Addr)(cd:Value)(A:Around)(outer:List Env)(s:Shared)(H:Hp)(E:XK):Cx where
 prog:=P
 w:=w
 K:=K
 mg:=mg
 base:=base
 A:=A.deeper (envOfC qual scope s.heap.objs.size f cd)
 N:=N
 s₀:=s
 H₀:=H
 env:=envOfC qual scope s.heap.objs.size f cd
 outer:=outer
 stack:=envOfC qual scope s.heap.objs.size f cd::outer
 ex:=[]
 calm:=true
 fn:=fun _=>true
 pn:=[]
 xe:=fun e s'=>wpAny (model P w) (A.deeper (envOfC qual scope s.heap.objs.size f cd)) (leaving (envOfC qual scope s.heap.objs.size f cd) e) (fun _ s''=>CX outer H s E e s'') (fun e' s''=>CX outer H s E e' s'') s'
theorem uB{sc:Scope}{n:Nat}{x:Str}(h:sc.names.lookup x=some .cell):∃c,(cellsFrom n sc.names []).lookup x=some c:=by
 have q:=PySem.W.cellsFrom_some sc.names n [] (.inl h)
 exact Option.isSome_iff_exists.mp q
theorem xp{CX:CXT}{P:Program}{w:World}{K:PySem.W.Frag}{mg:Str->Option Value}{base:Heap}{N ps:List Str}{qual:Str}{scope:Scope}{f:Addr}{cd:Value}{A:Around}{outer:List Env}{s s1:Shared}{H:Hp}{E:XK}{us:List Value}{vs:List V}
  (S:FnScope N ps scope) (hd:A.handled=none) (e0:Env0 P w K mg base A outer s H) (hl:vs.length=ps.length) (r:Vals vs us)
  (x:InCallC s s.heap.objs.size (bindL (envOfC qual scope s.heap.objs.size f cd).kindOf (ps.zip us) fun _=>none) (cellsFrom (s.heap.objs.size+1) scope.names []) (bindC (envOfC qual scope s.heap.objs.size f cd).kindOf (ps.zip us) fun _=>none) s1) :
  Inv (cxOf CX P w K mg base N qual scope f cd A outer s H E) [] (start N vs) H s1:=by
 have hpl:ps.length <= N.length:=by have:=congrArg List.length S.pre;rw[zyd]at this;omega
 obtain⟨h1,tk,rfl,hk⟩:=x.done
 have noA:∀b:Addr,b∉(cxOf CX P w K mg base N qual scope f cd A outer s H E).ex:=fun b z=>absurd (show b∈([]:List Addr) from z) (by simp)
 refine⟨⟨e0.mod,S.kind,rfl,rfl,zzh _,fun y z c h1 h2=>?_,fun y hy=>?_,fun y c _ h=>?_,fun _=>hd,Around.frames_deeper e0.frames,.inr ⟨rfl,rfl⟩,fun b z=>absurd z (noA b),e0.bs,e0.bsz,fun b _ _=>noA b,fun b z=>absurd z (noA b),e0.funs,e0.frf⟩,
  rfl,e0.bare,Un.kept hk,⟨_,x.toInCall.ns,fun i y v h1 h2 h3=>?_⟩,fun y c h=>⟨_,x.cell y c h⟩,e0.hok.fresh (zzh _),fun y c h=>?_,fun p hp=>absurd (show p∈([]:List (Addr×Obj)) from hp) (by simp),e0.hok.kept hk,?_⟩
 ·exact name_of_addr x.apart (zzS h1) (zzS h2)
 ·have hy:scope.names.lookup y=some .cell∨scope.names.lookup y=some .free:=hy
  rcases hy with hy|hy
  ·exact uB hy
  ·exact absurd rfl (S.nofree _ (zzS hy))
 ·exact Nat.le_of_lt (x.above y c (zzS h))
 ·have hi:i<vs.length:=by
   unfold start at h2
   by_cases hi:i<vs.length
   ·exact hi
   ·rw[zzU (by simpa using hi)]at h2
    rw[List.getElem?_replicate]at h2
    split at h2<;>cases h2
  have ha:vs[i]? = some v:=by
   unfold start at h2
   rw[zyk (by simpa using hi),zzq]at h2
   cases e:vs[i]? with
   |none=>rw[e]at h2;cases h2
   |some a=>rw[e]at h2;cases h2;rfl
  obtain⟨u,hu,rv⟩:=r.get ha
  have hp:ps[i]? = some y:=by
   rw[←S.pre,List.getElem?_take_of_lt (by omega)];exact h1
  have ndP:ps.Nodup:=by rw[←S.pre];exact S.nd.sublist (List.take_sublist _ _)
  refine⟨u,rv,?_⟩
  rcases S.par y (zzM hp) with k|k
  ·exact .inl ⟨k,qD ndP hp hu k⟩
  ·obtain⟨c,e⟩:=uB (n:=s.heap.objs.size+1) k
   refine .inr ⟨.inl k,c,e,?_⟩
   have q:=x.cell y c e
   rw[qE ndP hp hu (by show scope.names.lookup y≠_;rw[k];decide)]at q
   exact q
 ·exact e0.hok.fresh (Nat.le_of_lt (x.above y c (zzS h)))
 ·unfold start
  show _=N.length
  rw[zzi,zza,List.length_replicate]
  omega
theorem Gq{CX:CXT}{P:Program}{w:World}{K:PySem.W.Frag}{mg:Str->Option Value}{base:Heap}{k:Nat}{f:Addr}{name qual:Str}{params:Arguments}{body:List Stmt}{scope:Scope}{dV kV doc pm cdv ct oc:Value}{an od:Option Addr}
  {osl:Array (Option Value)}{N ps:List Str}{sp:Sp} (lk:K.lookup f=some ⟨oc,od,.func (PySem.W.fnOf name qual params body scope dV kV doc pm an cdv ct),osl⟩) (hcd:PySem.W.codeIn K cdv qual=true) (S:FnScope N ps scope)
  (len:∀vs H Q E,sp vs H Q E->vs.length=ps.length)
  (hbody:∀(A:Around) (outer:List Env) (s:Shared) (H:Hp) (vs:List V) (Q:VK) (E:XK),Room k (A.deeper (envOfC qual scope s.heap.objs.size f cdv))->sp vs H Q E ->
   ∃t,PSs (cxOf CX P w K mg base N qual scope f cdv A outer s H E) body t/\t { nx:=fun _ H'=>Q .non H',rt:=Q } (start N vs) H) :
  FnOk P w K mg base CX (k+1) f (PySem.W.fnOf name qual params body scope dV kV doc pm an cdv ct) ps sp:=by
 refine⟨len,fun A outer s H args us vs Q E hr e0 hb r hsp=>?_⟩
 have hl:=len _ _ _ _ hsp
 have KX:K.In s.heap:=e0.mod.kin.keeps fun b o e=>(e0.bs b o e).1
 have lim:s.heap.NoLimit:=e0.mod.nolimit.keeps fun b o e=>(e0.bs b o e).1
 have hkind:∀y∈ps.zip us,scope.names.lookup y.1=some .local∨(scope.names.lookup y.1=some .cell/\((cellsFrom (s.heap.objs.size+1) scope.names []).lookup y.1).isSome=true):=fun⟨n,v⟩ hy=>by
  rcases S.par n (List.of_mem_zip hy).1 with q|q
  ·exact .inl q
  ·exact .inr ⟨q,PySem.W.cellsFrom_some _ _ _ (.inl q)⟩
 refine codeAny_call_function hr.depth (KX _ _ lk) rfl S.co S.gen rfl (PySem.W.codeRec_of KX hcd) (hb _ _ _ _ ?_)
 refine wpAny_newFunctionEnv_cells S.kind hkind fun env he s1 x=>?_
 subst he
 refine⟨lim.keeps x.toInCall.keep,codeAny_func ?_⟩
 obtain⟨t,ht,hq⟩:=hbody A outer s H vs Q E (hr.deeper _) hsp
 have I:Inv (cxOf CX P w K mg base N qual scope f cdv A outer s H E) [] (start N vs) H s1:=xp S hr.hd e0 hl r x
 refine wpAny_mono (ht [] s1 (start N vs) H _ I hq) (fun fl s' hs=>?_) fun e s' hs=>hs
 have fin:∀{σ':St}{H':Hp}{v:V}{u:Value},Inv (cxOf CX P w K mg base N qual scope f cdv A outer s H E) [] σ' H' s'->RelV v u->Q v H'->CE outer P w H s Q u s' :=
  fun {σ' H' v u} J rv q=>⟨v,H',J.os,J.bare,J.base,J.hok,rv,q⟩
 cases fl with
 |ret u =>
  obtain⟨v,σ',H',J,rv,q⟩:=hs
  exact fin J rv q
 |next =>
  obtain⟨σ',H',J,q⟩:=hs
  exact fin (v:=V.non) (u:=Value.none) J rfl q
 |brk =>
  obtain⟨_,_,_,q⟩:=hs
  exact False.elim q
 |cont =>
  obtain⟨_,_,_,q⟩:=hs
  exact False.elim q
section
variable{X:Cx}{x:Str}{p pos:Pos}{e:Expr}{es:List Expr}{t:TA}{id T:String}{r:List V->Hp->VK->Prop}
def tCB(r:List V->Hp->VK->Prop)(t:TA):TE:=fun σ H Q=>t σ H fun vs H1=>r vs H1 Q
theorem jn(hc:eV X (.builtin id) r)(hg:Gl X x)(hm:X.mg x=none)(hv:bootBuiltins x=some (.builtin id))(ha:PA X (e::es) t)(hn:x ≠ "__name__":=by decide)(hdb:(x == ("__debug__" : Str))=false:=by decide)
  (he:starEach (e::es) X.env=(false,eval e X.env)::starEach es X.env:=by rfl) (hpl:(backTo pos (starEach es X.env)).any (·.1)=false:=by rfl):PE X (.Call (.Name x p) (e::es) [] pos) (tCB r t):=by
 intro pins s σ H Q I h
 refine wpAny_Call_Name_kw (my I hg hm hv ?_ hn hdb)
 exact PyProof.Rows.callWith_builtin1 (thn (ha pos pins s σ H _ I h) fun us s1 ⟨vs,H1,I1,r1,q1⟩=>hc pins s1 σ H1 vs us Q I1 r1 q1) he hpl
theorem qF(hc:eV X (.type T) r)(hg:Gl X x)(hm:X.mg x=none)(hv:bootBuiltins x=some (.type T))(ha:PA X (e::es) t)(hn:x ≠ "__name__":=by decide)(hdb:(x == ("__debug__" : Str))=false:=by decide)
  (he:starEach (e::es) X.env=(false,eval e X.env)::starEach es X.env:=by rfl) (hpl:(backTo pos (starEach es X.env)).any (·.1)=false:=by rfl):PE X (.Call (.Name x p) (e::es) [] pos) (tCB r t):=by
 intro pins s σ H Q I h
 refine wpAny_Call_Name_kw (my I hg hm hv ?_ hn hdb)
 exact PyProof.Rows.callWith_type1 (thn (ha pos pins s σ H _ I h) fun us s1 ⟨vs,H1,I1,r1,q1⟩=>hc pins s1 σ H1 vs us Q I1 r1 q1) he hpl
end
end L2
namespace HT
open PySem PyProof.Rows
section
variable{prog:Program}{w:World}{A:Around}{E:Value->Shared->Prop}{s:Shared}
theorem cat_tup{t b:Addr}{vs ws:List Value}{Q:Value->Shared->Prop}(ht:IsTup s.heap t vs.toArray)(hb:IsTup s.heap b ws.toArray)(hv:vs≠[])
  (h1:ws=[]->Q (.ref t) s) (h2:ws≠[]->Q (.ref s.heap.objs.size) { s with heap:=s.heap.push { cls:=.type "tuple",data:=.seq (vs++ws).toArray } })
  (hsz:vs.length+ws.length <= sizeLine):wpAny (model prog w) A (binaryOp .Add (.ref t) (.ref b)) Q E s:=by
 obtain⟨⟨cls,dd,data,sl⟩,ho,hc,n,hd⟩:=id ht
 obtain⟨⟨cls2,dd2,data2,sl2⟩,ho2,hc2,n2,hd2⟩:=id hb
 simp only at hc hd hc2 hd2
 subst hc hd hc2 hd2
 have e:vs.toArray++ws.toArray=(vs++ws).toArray:=by simp
 by_cases hw:ws=[]
 ·exact concat_meets ⟨_,ho,rfl⟩ ⟨_,ho2,rfl⟩ noFill_tuple_add seq_tuple_add PySem.F.slot_tuple_add PySem.F.entry_tuple_add (PySem.F.args_tuple_add_2 _ _)
   (tuple_addW1 t b vs.toArray ws.toArray n n2 dd dd2 sl sl2 (by simpa using hv) (by simp[hw])) ⟨ho,ho2,h1 hw⟩
 ·refine concat_meets ⟨_,ho,rfl⟩ ⟨_,ho2,rfl⟩ noFill_tuple_add seq_tuple_add PySem.F.slot_tuple_add PySem.F.entry_tuple_add (PySem.F.args_tuple_add_2 _ _)
   (tuple_addW2 t b vs.toArray ws.toArray n n2 dd dd2 sl sl2 (by simpa using hv) (by simpa using hw) (by rw[zzs,zzs];exact hsz)) ⟨ho,ho2,?_⟩
  rw[e]
  exact h2 hw
def sIx(n d:Nat):Option Int->Nat
 |none=>d
 |some v=>if v<0 then(v+(n:Int)).toNat else min v.toNat n
theorem Ev(n d:Nat)(hd:d <= n)(o:Option Int):sIx n d o <= n:=by
 cases o with
 |none=>exact hd
 |some v =>
  show (if v<0 then(v+(n:Int)).toNat else min v.toNat n) <= n
  by_cases hv:v<0
  ·rw[if_pos hv];omega
  ·rw[if_neg hv];exact Nat.min_le_right _ _
theorem xq(v:Int)(n d:Nat):(if v<0 then max (v+(n:Int)) 0 else min v (n:Int))=((sIx n d (some v):Nat):Int):=by
 show (if v<0 then max (v+(n:Int)) 0 else min v (n:Int))=(((if v<0 then(v+(n:Int)).toNat else min v.toNat n):Nat):Int)
 by_cases hv:v<0
 ·simp only[if_pos hv];omega
 ·simp only[if_neg hv];omega
theorem vU(lo hi:Option Int)(n:Nat):Builtin.Slice.sliceAdjust lo hi 1 (n:Int)=(((sIx n 0 lo:Nat):Int),((sIx n n hi:Nat):Int)):=by
 have h1:¬((1:Int)<0):=by omega
 unfold Builtin.Slice.sliceAdjust
 simp only[h1,if_false]
 refine Prod.ext ?_ ?_
 ·cases lo with
  |none=>rfl
  |some v=>exact xq v n 0
 ·cases hi with
  |none=>rfl
  |some v=>exact xq v n n
theorem vV(i j:Nat):Builtin.Slice.slicePlaces (i:Int) (j:Int) 1=j - i:=by
 unfold Builtin.Slice.slicePlaces
 have h1:(1:Int)>0:=by omega
 simp only[h1,if_true,Int.ediv_one]
 split<;>omega
theorem oH{v:Value}{o:Option Int}{Q:Option Int->Shared->Prop}(p:IsPart v o)(h:Q o s):wpAny (model prog w) A (Builtin.Slice.slicePartIndex v) Q E s:=by
 cases p with
 |none=>exact slicePart_none h
 |int i t=>exact slicePart_int h
theorem sliceApplied_gen{sl:Addr}{vl vu:Value}{lo hi:Option Int}{n:Nat}{Q:Int×Int×Nat->Shared->Prop}(hs:s.heap.IsSliceOf sl vl vu .none)(pl:IsPart vl lo)(pu:IsPart vu hi)
  (h:Q (((sIx n 0 lo:Nat):Int),1,sIx n n hi - sIx n 0 lo) s):wpAny (model prog w) A (Builtin.Slice.sliceApplied (.ref sl) (pure (n:Int))) Q E s:=by
 obtain⟨os,hos,hcs,hds⟩:=id hs
 unfold Builtin.Slice.sliceApplied Builtin.Slice.sliceFields
 refine wpAny_bind (wpAny_bind (wpAny_field hos hds (x:=vl) rfl (wpAny_bind (wpAny_field hos hds (x:=vu) rfl (wpAny_bind (wpAny_field hos hds (x:=.none) rfl (wpAny_pure ?_)))))))
 refine wpAny_bind (slicePart_none ?_)
 show wpAny _ _ (if ((1:Int) == 0)=true then _ else _) _ _ s
 rw[if_neg (by decide)]
 refine wpAny_bind (oH pl (wpAny_bind (oH pu (wpAny_bind (wpAny_pure ?_)))))
 show wpAny _ _ (match Builtin.Slice.sliceAdjust lo hi 1 (n:Int) with | (lo,hi)=>pure (lo,(1:Int),Builtin.Slice.slicePlaces lo hi 1)) _ _ s
 rw[vU lo hi n]
 show wpAny _ _ (pure (((sIx n 0 lo:Nat):Int),(1:Int),Builtin.Slice.slicePlaces ((sIx n 0 lo:Nat):Int) ((sIx n n hi:Nat):Int) 1)) _ _ s
 rw[vV]
 exact wpAny_pure h
theorem zQ(xs:Array Value)(i k:Nat):((List.range k).filterMap fun(m:Nat)=>xs[((i:Int)+(m:Int)*1).toNat]?).toArray=((xs.toList.drop i).take k).toArray:=by
 have e:(fun(m:Nat)=>xs[((i:Int)+(m:Int)*1).toNat]?)=fun m=>xs[i+m]?:=by
  funext m
  have:((i:Int)+(m:Int)*1).toNat=i+m:=by omega
  rw[this]
 rw[e]
 have:=pick_run xs i k
 rw[List.filterMap_map]at this
 have e2:((fun x=>xs[x]?) ∘ fun x=>i+x)=fun m=>xs[i+m]?:=rfl
 rw[e2]at this
 rw[this]
theorem getItem_tuple_cut{t sl:Addr}{items:Array Value}{vl vu:Value}{lo hi:Option Int}{Q:Value->Shared->Prop}(ht:IsTup s.heap t items)(hs:s.heap.IsSliceOf sl vl vu .none)(pl:IsPart vl lo)(pu:IsPart vu hi)
  (hw:¬(sIx items.size 0 lo=0/\sIx items.size items.size hi=items.size))
  (h:Q (.ref s.heap.objs.size) { s with heap:=s.heap.push { cls:=.type "tuple",data:=.seq ((items.toList.drop (sIx items.size 0 lo)).take (sIx items.size items.size hi - sIx items.size 0 lo)).toArray } })
  (hsz:items.size <= sizeLine):wpAny (model prog w) A (getItem (.ref t) (.ref sl)) Q E s:=by
 have htake:sizeOk (.seq ((items.toList.drop (sIx items.size 0 lo)).take (sIx items.size items.size hi - sIx items.size 0 lo)).toArray):=by
  show ((items.toList.drop (sIx items.size 0 lo)).take (sIx items.size items.size hi - sIx items.size 0 lo)).toArray.size <= sizeLine
  rw[zzs,zyd,List.length_drop,zyK]
  omega
 have hj:sIx items.size items.size hi <= items.size:=Ev _ _ (zzh _) hi
 obtain⟨os,hos,hcs,hds⟩:=id hs
 have hTs:s.TypeIs (.ref sl) "slice":=⟨os,hos,hcs⟩
 unfold getItem
 try with_reducible refine wpAny_holding ?_
 first|refine wpAny_bind (wpAny_pure ?_)|skip
 refine wpAny_bind (wpAny_sequenceKey ht.typeIs (by decide) ?_)
 refine wpAny_bind (wpAny_callSpecial?_slot (name:=Str.ofString "__getitem__") ht.typeIs PyProof.Rows.slot_tuple_getitem
  (wpAny_call_entry PyProof.Rows.slot_tuple_getitem ht.typeIs entry_tuple_getitem ?_ (args_tuple_getitem _ _)))
 show wpAny _ _ (Builtin.Tuple.tupleItemsOf (.ref t) >>= _) _ _ s
 refine wpAny_bind (tupleItemsOf_ ht ?_)
 refine wpAny_bind (wpAny_typeOf hTs ?_)
 rw[if_pos (by decide)]
 refine wpAny_bind (sliceApplied_gen hs pl pu ?_)
 have hno:¬((((sIx items.size 0 lo:Nat):Int) == 0 && (1:Int) == 1 && (sIx items.size items.size hi - sIx items.size 0 lo) == items.size)=true):=by
  intro q
  rw[zzT,zzT]at q
  have q1:((sIx items.size 0 lo:Nat):Int)=0:=eq_of_beq q.1.1
  have q2:sIx items.size items.size hi - sIx items.size 0 lo=items.size:=eq_of_beq q.2
  exact hw ⟨by omega,by omega⟩
 show wpAny _ _ (if (((sIx items.size 0 lo:Nat):Int) == 0 && (1:Int) == 1 && (sIx items.size items.size hi - sIx items.size 0 lo) == items.size)=true then _ else _) _ _ s
 rw[if_neg hno,zQ]
 first
  |exact wpAny_bind (m:=Builtin.Tuple.tupleExact _) (wpAny_newObj_type (wpAny_pure ⟨_,rfl,wpAny_pure h⟩) htake)
  |exact wpAny_bind (m:=Builtin.Tuple.tupleExact _) (wpAny_newObj_type (wpAny_bind (wpAny_pure (wpAny_pure ⟨_,rfl,wpAny_pure h⟩))) htake)
  |exact wpAny_bind (wpAny_bind (m:=Builtin.Tuple.tupleExact _) (wpAny_newObj_type (wpAny_pure (wpAny_pure ⟨_,rfl,wpAny_pure h⟩)) htake))
  |exact wpAny_bind (wpAny_bind (m:=Builtin.Tuple.tupleExact _) (wpAny_newObj_type (wpAny_pure ⟨_,rfl,wpAny_pure h⟩) htake))
end
end HT
namespace L2
open PySem PySem.Spec PyProof.Rows
abbrev TO:=St->Hp->(Option Int->Hp->Prop)->Prop
def PO(X:Cx)(e:Option Expr)(t:TO):Prop :=
 ∀(pins:List (Addr×Obj)) (s:Shared) (σ:St) (H:Hp) (Q:Option Int->Hp->Prop),Inv X pins σ H s->t σ H Q ->
  wpAny (model X.prog X.w) X.A (evalPart e X.env) (fun u s'=>∃o H',Inv X pins σ H' s'/\IsPart u o/\Q o H') X.xe s
def Ch:TO:=fun _ H Q=>Q none H
def Gr(t:TE):TO:=fun σ H Q=>t σ H fun x H1=>∃i,x=.int i/\Q (some i) H1
theorem vW{ns:List Int}:∀{us:List Value},Vals (ns.map V.int) us->IntsAre us ns:=by
 induction ns with
 |nil=>intro us r;rw[zyb]at r;cases r;exact .nil
 |cons n ns ih =>
  intro us r
  rw[zzc]at r
  cases r with
  |cons r1 r2 =>
   obtain⟨t,e⟩:=r1
   subst e
   exact .cons n t (ih r2)
section
variable{X:Cx}{e:Expr}{te:TE}{lo hi:Option Expr}{tl th:TO}{pos p2:Pos}
theorem Ci:PO X none Ch:=by
 intro pins s σ H Q I h
 rw[evalPart_none]
 exact wpAny_pure ⟨none,H,I,.none,h⟩
theorem Cj(h:PE X e te):PO X (some e) (Gr te):=by
 intro pins s σ H Q I hw
 rw[evalPart_some]
 refine thn (h pins s σ H _ I hw) fun u s1 ⟨x,H1,I1,r1,q1⟩=>?_
 obtain⟨i,rfl,q⟩:=q1
 obtain⟨t,rfl⟩:=r1
 exact⟨some i,H1,I1,.int i t,q⟩
def SlR(X:Cx)(r:V->Option Int->Option Int->Hp->VK->Prop):Prop :=
 ∀(pins:List (Addr×Obj)) (s:Shared) (σ:St) (H:Hp) (x:V) (v vl vu:Value) (lo hi:Option Int) (sl:Addr) (Q:VK),Inv X pins σ H s->RelV x v->s.heap.IsSliceOf sl vl vu .none->IsPart vl lo->IsPart vu hi->r x lo hi H Q ->
  ∃T id,typeLookup (.type T) "__getitem__" = pure (some (.builtin id))/\s.TypeIs v T/\wpAny (model X.prog X.w) X.A (getItem v (.ref sl)) (EP X pins σ Q) X.xe s
theorem SlR.or{r r':V->Option Int->Option Int->Hp->VK->Prop}(h:SlR X r)(h':SlR X r'):SlR X (fun x lo hi H Q=>r x lo hi H Q∨r' x lo hi H Q):=by
 intro pins s σ H x v vl vu lo hi sl Q I rx hs pl pu q
 rcases q with q|q
 ·exact h pins s σ H x v vl vu lo hi sl Q I rx hs pl pu q
 ·exact h' pins s σ H x v vl vu lo hi sl Q I rx hs pl pu q
def tSl(r:V->Option Int->Option Int->Hp->VK->Prop)(te:TE)(tl th:TO):TE:=fun σ H Q=>te σ H fun x H1=>tl σ H1 fun l H2=>th σ H2 fun u H3=>r x l u H3 Q
theorem uC{r:V->Option Int->Option Int->Hp->VK->Prop}(hr:SlR X r)(he:PE X e te)(hl:PO X lo tl)(hu:PO X hi th):PE X (.Subscript e (.Slice lo hi none p2) pos) (tSl r te tl th):=by
 intro pins s σ H Q I h
 refine Subscript_ (thn (he pins s σ H _ I h) fun v s1 ⟨x,H1,I1,r1,q1⟩=>?_)
 refine wpAny_Slice (thn (hl pins s1 σ H1 _ I1 q1) fun vl s2 ⟨l,H2,I2,pl,q2⟩=>thn (hu pins s2 σ H2 _ I2 q2) fun vu s3 ⟨u,H3,I3,pu,q3⟩=>?_)
 rw[evalPart_none]
 refine wpAny_pure ?_
 have I4:Inv X pins σ H3 { s3 with heap:=s3.heap.push { cls:=.type "slice",data:=.fields #[vl,vu,.none] } }:=I3.kept (t':=s3.toks) fun b ob q=>zzf _ q
 obtain⟨T,id,hT,ht,hg⟩:=hr pins { s3 with heap:=s3.heap.push { cls:=.type "slice",data:=.fields #[vl,vu,.none] } } σ H3 x v vl vu l u s3.heap.objs.size Q I4 r1 (Heap.IsSliceOf.new ..) pl pu q3
 show wpAny (model X.prog X.w) X.A (subscriptTail e (.Slice lo hi none p2) v (.ref s3.heap.objs.size)) (EP X pins σ Q) X.xe { s3 with heap:=s3.heap.push { cls:=.type "slice",data:=.fields #[vl,vu,.none] } }
 exact tail_any (ops:=[.ref s3.heap.objs.size,v]) ht hT hg (by with_unfolding_all rfl)
def cutV(xs:List V)(lo hi:Option Int):List V:=(xs.drop (HT.sIx xs.length 0 lo)).take (HT.sIx xs.length xs.length hi - HT.sIx xs.length 0 lo)
theorem mD(xs:List V)(lo hi:Option Int):(cutV xs lo hi).length <= xs.length:=by
 unfold cutV
 rw[zyd,List.length_drop]
 omega
def rSlT(K:PySem.W.Frag):V->Option Int->Option Int->Hp->VK->Prop:=fun x lo hi H Q=>∃a xs,x=.ref a/\SqT K H a xs /\
 ¬(HT.sIx xs.length 0 lo=0/\HT.sIx xs.length xs.length hi=xs.length)/\∀p,H p=none->Q (.ref p) (upd H p (.tup (cutV xs lo hi)))
theorem Ew:SlR X (rSlT X.K):=by
 intro pins s σ H x v vl vu lo hi sl Q I rx hs pl pu h
 obtain⟨a,xs,rfl,hx,hw,q⟩:=h
 cases rx
 obtain⟨its,r,ht,hz⟩:=I.tuple hx
 have hlen:its.toArray.size=xs.length:=by rw[zzs];exact r.length.symm
 refine⟨"tuple",_,PyProof.Rows.slot_tuple_getitem.lookup,ht.typeIs,?_⟩
 refine HT.getItem_tuple_cut ht hs pl pu (by rw[hlen];exact hw) ?_ (by rw[hlen];exact hz)
 rw[hlen]
 refine⟨.ref s.heap.objs.size,_,I.laid (t':=s.toks) (o:=.tup (cutV xs lo hi)) (fun b ob q=>zzf _ q) (zzh _) ?_,rfl,q _ (I.hok.fresh (zzh _))⟩
 exact⟨⟨zzk (mD xs lo hi) hz,.inl ⟨_,zzn _ rfl,rfl⟩⟩,_,(r.drop (HT.sIx xs.length 0 lo)).take (HT.sIx xs.length xs.length hi - HT.sIx xs.length 0 lo),IsTup.new _ _⟩
def Ex(K:PySem.W.Frag):R2:=fun x y H Q=>∃a b xs ys,x=.ref a/\y=.ref b/\SqT K H a xs/\SqT K H b ys/\xs≠[]/\xs.length+ys.length <= sizeLine /\
 (ys=[]->Q (.ref a) H)/\(ys≠[]->∀p,H p=none->Q (.ref p) (upd H p (.tup (xs++ys))))
theorem Vals.nil_iff{xs:List V}{us:List Value}(r:Vals xs us):us=[]↔xs=[]:=by
 cases r with
 |nil=>simp
 |cons _ _=>simp
theorem xr:OpR X (binaryOp .Add) (Ex X.K):=by
 intro pins s σ H x y v u Q I rx ry h
 obtain⟨a,b,xs,ys,rfl,rfl,ha,hb,hx,hz,q1,q2⟩:=h
 cases rx
 cases ry
 obtain⟨its,r1,p1,_⟩:=I.tuple ha
 obtain⟨its2,r2,p2,_⟩:=I.tuple hb
 refine HT.cat_tup p1 p2 (fun z=>hx (r1.nil_iff.mp z)) (fun z=>⟨.ref a,H,I,rfl,q1 (r2.nil_iff.mp z)⟩) (fun z=>?_) (by rw[←r1.length,←r2.length];exact hz)
 refine⟨.ref s.heap.objs.size,_,I.laid (t':=s.toks) (o:=.tup (xs++ys)) (fun b ob q=>zzf _ q) (zzh _) ?_,rfl,q2 (fun w=>z (r2.nil_iff.mpr w)) _ (I.hok.fresh (zzh _))⟩
 exact⟨⟨by rw[zzi];exact hz,.inl ⟨_,zzn _ rfl,rfl⟩⟩,_,r1.append r2,IsTup.new _ _⟩
end
def ixN(n:Nat)(i:Int):Option Nat:=if 0 <= i then(if i<n then some i.toNat else none) else if -(n:Int) <= i then some (i+n).toNat else none
def atI{α:Type}(xs:List α)(i:Int):Option α:=(ixN xs.length i).bind fun j=>xs[j]?
theorem xt{n:Nat}{i:Int}{j:Nat}(h:ixN n i=some j):seqIndex? i n=some j/\j<n/\-(n:Int) <= i/\i<n:=by
 unfold ixN at h
 by_cases h0:0 <= i
 ·rw[if_pos h0]at h
  by_cases h1:i<n
  ·rw[if_pos h1]at h
   have e:i.toNat=j:=zyh h
   exact⟨by rw[seqIndex_of h0 h1,e],by omega,by omega,h1⟩
  ·rw[if_neg h1]at h;cases h
 ·rw[if_neg h0]at h
  by_cases h1 : -(n:Int) <= i
  ·rw[if_pos h1]at h
   have e:(i+n).toNat=j:=zyh h
   exact⟨by rw[seqIndex_neg (by omega) h1,e],by omega,h1,by omega⟩
  ·rw[if_neg h1]at h;cases h
theorem xu{α:Type}{xs:List α}{i:Int}{v:α}(h:atI xs i=some v):∃j,seqIndex? i xs.length=some j/\xs[j]? = some v/\j<xs.length/\-(xs.length:Int) <= i/\i<xs.length:=by
 unfold atI at h
 cases e:ixN xs.length i with
 |none=>rw[e]at h;cases h
 |some j =>
  rw[e]at h
  obtain⟨h1,h2,h3,h4⟩:=xt e
  exact⟨j,h1,h,h2,h3,h4⟩
theorem sL{α:Type}{xs:List α}{j:Nat}{v:α}(h:xs[j]? = some v):atI xs (j:Int)=some v:=by
 have hj:j<xs.length:=(zzm.mp h).1
 have e:ixN xs.length (j:Int)=some j:=by
  unfold ixN
  rw[if_pos (by omega),if_pos (by omega)];simp
 unfold atI;rw[e];exact h
def sM(b:Expr):Prop:=∀o i,subscripted b false o i=operate [o,i] (getItem o i)
def IxR(X:Cx)(r:R2):Prop :=
 ∀(value slice:Expr) (pins:List (Addr×Obj)) (s:Shared) (σ:St) (H:Hp) (x y:V) (v u:Value) (Q:VK),Inv X pins σ H s->RelV x v->RelV y u->r x y H Q ->
  subscripted slice false v u=operate [v,u] (getItem v u)->wpAny (model X.prog X.w) X.A (subscriptTail value slice v u) (EP X pins σ Q) X.xe s
def MtR(X:Cx)(id:String)(r:V->List V->Hp->VK->Prop):Prop :=
 ∀(pins:List (Addr×Obj)) (s:Shared) (σ:St) (H:Hp) (x:V) (xs:List V) (v:Value) (us:List Value) (Q:VK),Inv X pins σ H s->RelV x v->Vals xs us->r x xs H Q ->
  wpAny (model X.prog X.w) X.A (call (.builtin id) (v::us)) (EP X pins σ Q) X.xe s
section
variable{X:Cx}{a b:Expr}{ta tb:TE}{pos:Pos}
theorem IxR.or{r r':R2}(h:IxR X r)(h':IxR X r'):IxR X (fun x y H Q=>r x y H Q∨r' x y H Q):=by
 intro value slice pins s σ H x y v u Q I rx ry q hs
 rcases q with q|q
 ·exact h value slice pins s σ H x y v u Q I rx ry q hs
 ·exact h' value slice pins s σ H x y v u Q I rx ry q hs
theorem xv{r:R2}(hr:IxR X r)(ha:PE X a ta)(hb:PE X b tb)(hs:sM b):PE X (.Subscript a b pos) (tOp r ta tb):=by
 intro pins s σ H Q I h
 exact Subscript_ (binT ha hb I h fun v u s2 x y H2 I2 rx ry q=>hr a b pins s2 σ H2 x y v u Q I2 rx ry q (hs _ _))
def rIxL(K:PySem.W.Frag):R2:=fun x y H Q=>∃p xs i v,x=.ref p/\y=.int i/\SqL K H p xs/\atI xs i=some v/\Q v H
def rIxT(K:PySem.W.Frag):R2:=fun x y H Q=>∃p xs i v,x=.ref p/\y=.int i/\SqT K H p xs/\atI xs i=some v/\Q v H
theorem pC:IxR X (rIxL X.K):=by
 intro value slice pins s σ H x y v u Q I rx ry h hs
 obtain⟨p,xs,i,z,rfl,rfl,hq,he,q⟩:=h
 cases rx
 obtain⟨t,rfl⟩:=ry
 obtain⟨its,r,pl,hz⟩:=I.list hq
 obtain⟨j,h1,h2,h3,h4,h5⟩:=xu he
 obtain⟨w,ew,rw'⟩:=r.get h2
 have hl:=r.length
 have hn:=uz
 have fin:EP X pins σ Q w s:=⟨z,H,I,rw',q⟩
 by_cases h0:0 <= i
 ·have hj:i.toNat=j:=by
   rw[seqIndex_of h0 h5]at h1
   exact zyh h1
  exact item_listR pl.isList h0 (by omega) (by rw[hj];simpa using ew) fin hs
 ·have hj:(i+(its.toArray.size:Int)).toNat=j:=by
   rw[seqIndex_neg (by omega) h4]at h1
   rw[zzs,←hl]
   exact zyh h1
  exact subscriptTail_builtinR (x:=w) pl.isList.typeIs slot_list_getitem.lookup
   (wpAny_getItem_list_neg (Q:=fun r s'=>r=w/\EP X pins σ Q r s') pl.isList (by omega) (by rw[zzs]<;>omega) (by omega) (by rw[hj];simpa using ew) ⟨rfl,fin⟩) hs
theorem Ey:IxR X (rIxT X.K):=by
 intro value slice pins s σ H x y v u Q I rx ry h hs
 obtain⟨p,xs,i,z,rfl,rfl,hq,he,q⟩:=h
 cases rx
 obtain⟨t,rfl⟩:=ry
 obtain⟨its,r,pl,hz⟩:=I.tuple hq
 obtain⟨j,h1,h2,h3,h4,h5⟩:=xu he
 obtain⟨w,ew,rw'⟩:=r.get h2
 have hl:=r.length
 have hn:=uz
 have fin:EP X pins σ Q w s:=⟨z,H,I,rw',q⟩
 exact subscriptTail_builtinR (x:=w) pl.typeIs slot_tuple_getitem.lookup
  (getItem_tuple (j:=j) (Q:=fun r s'=>r=w/\EP X pins σ Q r s') pl (by omega) (by omega) (by rw[zzs,←hl];exact h1) (by simpa using ew) ⟨rfl,fin⟩) hs
theorem vX(its:List Value)(n j:Nat)(u:Value):Obj.mapSeq (·.setIfInBounds j u) { cls:=.type "list",data:=.seq its.toArray n }={ cls:=.type "list",data:=.seq (its.set j u).toArray n }:=by
 simp[Obj.mapSeq]
theorem Inv.lst{pins:List (Addr×Obj)}{σ:St}{H:Hp}{s:Shared}{p:Addr}{xs:List V}(I:Inv X pins σ H s)(h:H p=some (.lst xs)) :
  ∃(its:List Value) (n:Nat),Vals xs its/\s.heap.get? p=some { cls:=.type "list",data:=.seq its.toArray n }/\xs.length <= sizeLine:=by
 obtain⟨z,its,n,r,e⟩:=I.hok p _ h
 exact⟨its,n,r,e,z⟩
theorem Inv.lstUpd{pins:List (Addr×Obj)}{σ:St}{H:Hp}{s:Shared}{p:Addr}{xs ys:List V}{its its':List Value}{n n':Nat}{f:Obj->Obj}(I:Inv X pins σ H s)(h:H p=some (.lst xs))
  (ho:s.heap.get? p=some { cls:=.type "list",data:=.seq its.toArray n }) (hf:f { cls:=.type "list",data:=.seq its.toArray n }={ cls:=.type "list",data:=.seq its'.toArray n' }) (r:Vals ys its') (hz:ys.length <= sizeLine) (t:Nat) :
  Inv X pins σ (upd H p (.lst ys)) { s with heap:=s.heap.update p f,toks:=t }:=by
 have e:(s.heap.update p f).get? p=some { cls:=.type "list",data:=.seq its'.toArray n' }:=by
  rw[zyv f ho (by rw[hf]<;>rfl),hf]
 refine I.write (x:=p) (e:=p) (by rw[h];trivial) (.inl rfl) (fun b u hb q=>(Heap.get?_update_other _ _ (Ne.symm hb)).trans q) ⟨_,e⟩ ?_
 exact⟨hz,its',n',r,e⟩
def Gs:V->V->V->Hp->(Hp->Prop)->Prop:=fun o i v H Q=>∃p xs k j,o=.ref p/\i=.int k/\H p=some (.lst xs)/\ixN xs.length k=some j/\Q (upd H p (.lst (xs.set j v)))
theorem pD:PSet X Gs:=by
 intro pins s σ H o i v ov iv u Q I ro ri rv h
 obtain⟨p,xs,k,j,rfl,rfl,hp,hj,q⟩:=h
 cases ro
 obtain⟨t,rfl⟩:=ri
 obtain⟨its,n,r,ho,hz⟩:=I.lst hp
 obtain⟨h1,h2,h3,h4⟩:=xt hj
 have hl:=r.length
 have hn:=uz
 have I':Inv X pins σ (upd H p (.lst (xs.set j v))) { s with heap:=s.heap.update p (Obj.mapSeq (·.setIfInBounds j u)) } :=
  I.lstUpd hp ho (vX its n j u) (r.set rv j) (by rw[List.length_set];exact hz) s.toks
 by_cases h0:0 <= k
 ·have hk:k.toNat=j:=by
   rw[seqIndex_of h0 h4]at h1
   exact zyh h1
  exact PySem.W.ki_setAt ho h0 (by omega) (by rw[zzs,←hl];exact h4) (by rw[hk];exact⟨_,I',q⟩)
 ·have hk:(k+(its.toArray.size:Int)).toNat=j:=by
   rw[seqIndex_neg (by omega) h3]at h1
   rw[zzs,←hl]
   exact zyh h1
  exact PySem.W.ki_setBack ho (by omega) (by rw[zzs,←hl];exact h3) (by omega) (by rw[hk];exact⟨_,I',q⟩)
theorem qG(lo hi:Option Int)(n:Nat):(sliceBounds lo hi none n).1=((HT.sIx n 0 lo:Nat):Int)/\(sliceBounds lo hi none n).2.1=((HT.sIx n n hi:Nat):Int)/\(sliceBounds lo hi none n).2.2=1:=by
 refine⟨?_,?_,rfl⟩
 ·cases lo with
  |none=>simp[sliceBounds,HT.sIx]
  |some i =>
   simp only[sliceBounds,HT.sIx,Option.getD_none,show (1:Int)>0 by decide,if_true]
   by_cases h:i<0
   ·simp only[h,if_true]<;>omega
   ·simp only[h,if_false]<;>omega
 ·cases hi with
  |none=>simp[sliceBounds,HT.sIx]
  |some i =>
   simp only[sliceBounds,HT.sIx,Option.getD_none,show (1:Int)>0 by decide,if_true]
   by_cases h:i<0
   ·simp only[h,if_true]<;>omega
   ·simp only[h,if_false]<;>omega
theorem pE(its:List Value)(lo hi:Option Int):slicePick its.toArray lo hi none=((its.drop (HT.sIx its.length 0 lo)).take (HT.sIx its.length its.length hi - HT.sIx its.length 0 lo)).toArray:=by
 obtain⟨h1,h2,h3⟩:=qG lo hi its.toArray.size
 unfold slicePick
 rw[h1,h2,h3]
 simp only[sliceRange_one,pick_run,zzs]<;>rfl
def rSlL(K:PySem.W.Frag):V->Option Int->Option Int->Hp->VK->Prop:=fun x lo hi H Q=>∃a xs,x=.ref a/\SqL K H a xs/\∀p,H p=none->Q (.ref p) (upd H p (.lst (cutV xs lo hi)))
theorem Ck:SlR X (rSlL X.K):=by
 intro pins s σ H x v vl vu lo hi sl Q I rx hs pl pu h
 obtain⟨a,xs,rfl,hx,q⟩:=h
 cases rx
 obtain⟨its,r,ht,hz⟩:=I.list hx
 have hlen:=r.length
 refine⟨"list",_,slot_list_getitem.lookup,ht.isList.typeIs,?_⟩
 refine wpAny_getItem_list_slice ht.isList hs pl pu .none (by simp) ?_ (by rw[zzs]<;>omega)
 rw[pE,←hlen]
 refine⟨.ref s.heap.objs.size,_,I.laid (t':=s.toks) (o:=.lst (cutV xs lo hi)) (fun b ob q=>zzf _ q) (zzh _) ?_,rfl,q _ (I.hok.fresh (zzh _))⟩
 exact⟨zzk (mD xs lo hi) hz,_,0,(r.drop (HT.sIx xs.length 0 lo)).take (HT.sIx xs.length xs.length hi - HT.sIx xs.length 0 lo),zzn _ rfl⟩
def jZ:V->Bool
 |.non=>true
 |.bl _=>true
 |.int _=>true
 |.str _=>true
 |_=>false
def eqV:V->V->Bool
 |.non,.non=>true
 |.bl a,.bl b=>a == b
 |.bl a,.int b=>(if a then 1 else 0) == b
 |.int a,.bl b=>a == (if b then 1 else 0)
 |.int a,.int b=>a == b
 |.str a,.str b=>a == b
 |_,_=>false
theorem Ez{A:Around}{s:Shared}{y x:V}{u v:Value}(ry:RelV y u)(rx:RelV x v)(fy:jZ y=true)(fx:jZ x=true):SeqAt.EqAt A s u v (eqV y x):=by
 cases y with
 |non =>
  cases ry
  cases x with
  |non=>cases rx;exact SeqAt.EqAt.same _
  |bl b=>cases rx;exact SeqAt.EqAt.none_bool b
  |int b=>obtain⟨t,rfl⟩:=rx;exact SeqAt.EqAt.none_int b t
  |str b=>obtain⟨t,rfl⟩:=rx;exact SeqAt.EqAt.none_str b t
  |_=>exact absurd (show false=true from fx) zzo
 |bl a =>
  cases ry
  cases x with
  |non=>cases rx;exact SeqAt.EqAt.bool_none a
  |bl b=>cases rx;exact SeqAt.EqAt.bool_bool a b
  |int b=>obtain⟨t,rfl⟩:=rx;exact SeqAt.EqAt.bool_int a b t
  |str b=>obtain⟨t,rfl⟩:=rx;exact SeqAt.EqAt.bool_str a b t
  |_=>exact absurd (show false=true from fx) zzo
 |int a =>
  obtain⟨t',rfl⟩:=ry
  cases x with
  |non=>cases rx;exact SeqAt.EqAt.int_none a t'
  |bl b=>cases rx;exact SeqAt.EqAt.int_bool a t' b
  |int b=>obtain⟨t,rfl⟩:=rx;exact SeqAt.EqAt.int_int a t' b t
  |str b=>obtain⟨t,rfl⟩:=rx;exact SeqAt.EqAt.int_str a t' b t
  |_=>exact absurd (show false=true from fx) zzo
 |str a =>
  obtain⟨t',rfl⟩:=ry
  cases x with
  |non=>cases rx;exact SeqAt.EqAt.str_none a t'
  |bl b=>cases rx;exact SeqAt.EqAt.str_bool a t' b
  |int b=>obtain⟨t,rfl⟩:=rx;exact SeqAt.EqAt.str_int a t' b t
  |str b=>obtain⟨t,rfl⟩:=rx;exact SeqAt.EqAt.str_str a t' b t
  |_=>exact absurd (show false=true from fx) zzo
 |_=>exact absurd (show false=true from fy) zzo
def eqU(x:V)(u:Value):Bool:=match u with
 |.none=>eqV .non x
 |.bool b=>eqV (.bl b) x
 |.int i _=>eqV (.int i) x
 |.str z _=>eqV (.str z) x
 |_=>false
theorem xw{x y:V}{u:Value}(r:RelV y u)(f:jZ y=true):eqU x u=eqV y x:=by
 cases y with
 |non=>cases r;rfl
 |bl b=>cases r;rfl
 |int i=>obtain⟨t,rfl⟩:=r;rfl
 |str z=>obtain⟨t,rfl⟩:=r;rfl
 |_=>exact absurd (show false=true from f) zzo
theorem pF{A:Around}{s:Shared}{x:V}{v:Value}(rx:RelV x v)(fx:jZ x=true):∀{xs:List V}{us:List Value},Vals xs us->xs.all jZ=true->∀u∈us,SeqAt.EqAt A s u v (eqU x u)
 |_,_,.nil,_=>fun u hu=>by cases hu
 |y::xs,u::us,.cons r t,f=>fun u' hu=>by
  rw[List.all_cons,zzT]at f
  rcases zzj.mp hu with rfl|hu
  ·rw[xw r f.1];exact Ez r rx f.1 fx
  ·exact pF rx fx t f.2 u' hu
theorem db:eV X (.builtin "len") (fun xs H Q=>∃p ys,xs=[.ref p]/\(SqL X.K H p ys∨SqT X.K H p ys)/\Q (.int ys.length) H):=by
 intro pins s σ H xs us Q I r h
 obtain⟨p,ys,rfl,hq,q⟩:=h
 obtain⟨u,rfl,rx⟩:=oq r
 cases rx
 have hn:=uz
 rcases hq with hq|hq
 ·obtain⟨its,r',pl,hz⟩:=I.list hq
  have hlen:=r'.length
  exact Calls.call_len_list pl.isList (by simp only[zzs]<;>omega) ⟨.int ys.length,H,I.tok _,⟨s.toks+1,by rw[zzs,hlen]⟩,q⟩
 ·obtain⟨its,r',pl,hz⟩:=I.tuple hq
  have hlen:=r'.length
  exact len_tuple pl (by simp only[zzs]<;>omega) ⟨.int ys.length,H,I.tok _,⟨s.toks+1,by rw[zzs,hlen]⟩,q⟩
theorem pG:eV X (.type "tuple") (fun xs H Q=>∃p ys,xs=[.ref p]/\((SqL X.K H p ys/\∀l,H l=none->Q (.ref l) (upd H l (.tup ys)))∨(SqT X.K H p ys/\Q (.ref p) H))):=by
 intro pins s σ H xs us Q I r h
 obtain⟨p,ys,rfl,h⟩:=h
 obtain⟨u,rfl,rx⟩:=oq r
 cases rx
 rcases h with ⟨hq,q⟩|⟨hq,q⟩
 ·obtain⟨its,r',pl,hz⟩:=I.list hq
  have hlen:=r'.length
  refine call_tuple_list pl.isList (fun h' kp=>?_) (by simp only[zzs]<;>omega)
  have I1:Inv X pins σ H { s with heap:=h' }:=I.kept (t':=s.toks) kp
  have I2:Inv X pins σ (upd H h'.objs.size (.tup ys)) { s with heap:=h'.push { cls:=.type "tuple",data:=.seq its.toArray } } :=
   I1.laid (t':=s.toks) (fun b o e=>zzf _ e) (zzh _) (show ObjOk X.prog X.w _ _ _ (.tup ys) from⟨⟨hz,.inl ⟨_,zzn _ rfl,rfl⟩⟩,its,r',IsTup.new _ _⟩)
  exact⟨.ref h'.objs.size,_,I2,rfl,q _ (I1.hok.fresh (zzh _))⟩
 ·obtain⟨its,r',pl,hz⟩:=I.tuple hq
  exact call_tuple_same pl ⟨.ref p,H,I,rfl,q⟩
def tyV(K:PySem.W.Frag)(T:String)(x:V)(H:Hp):Prop:=match x with
 |.str _=>T = "str"
 |.int _=>T = "int"
 |.ref p=>(T = "list" /\ ∃xs,SqL K H p xs)∨(T = "tuple" /\ ∃o,K.lookup p=some o/\o.cls=.type "tuple" /\ o.dict=none) ∨
   (T = "dict" /\ ((∃kvs,H p=some (.dK kvs))∨∃kvs,H p=some (.dT kvs)))∨(T = "set" /\ ∃S n,H p=some (.set S n))
 |_=>False
theorem EA{pins:List (Addr×Obj)}{σ:St}{H:Hp}{s:Shared}{T:String}{x:V}{v:Value}(I:Inv X pins σ H s)(r:RelV x v)(ty:tyV X.K T x H) :
  s.TypeIs v T/\∀a,v=.ref a->∃ob,s.heap.get? a=some ob/\ob.dict=none:=by
 cases x with
 |str z =>
  obtain⟨t,rfl⟩:=r
  cases (show T = "str" from ty)
  exact⟨typeIs_str s z t,fun _ e=>nomatch e⟩
 |int i =>
  obtain⟨t,rfl⟩:=r
  cases (show T = "int" from ty)
  exact⟨typeIs_int s i t,fun _ e=>nomatch e⟩
 |ref p =>
  cases r
  rcases ty with ⟨rfl,xs,hq⟩|⟨rfl,o,hk,hc,hd⟩|⟨rfl,hk⟩|⟨rfl,S,n,hk⟩
  ·obtain⟨its,_,pl,_⟩:=I.list hq
   refine⟨pl.isList.typeIs,fun a e=>?_⟩
   cases e
   obtain⟨o,n,e,c,hd,_⟩:=pl
   exact⟨o,e,hd⟩
  ·refine⟨⟨o,I.kIn p o hk,hc⟩,fun a e=>?_⟩
   cases e
   exact⟨o,I.kIn _ o hk,hd⟩
  ·have z:∃o,s.heap.get? p=some o/\o.ExactDict:=by
    rcases hk with ⟨kvs,hk⟩|⟨kvs,hk⟩
    ·obtain⟨_,_,_,_,o,_,_,e,ex,_⟩:=I.hok p _ hk
     exact⟨o,e,ex⟩
    ·obtain⟨_,_,_,_,o,_,_,e,ex,_⟩:=I.hok p _ hk
     exact⟨o,e,ex⟩
   obtain⟨o,e,ex⟩:=z
   refine⟨⟨o,e,ex.1⟩,fun a e2=>?_⟩
   cases e2
   exact⟨o,e,ex.2.1⟩
  ·obtain⟨o,_,_,_,e,ex,_⟩:=I.hok p _ hk
   refine⟨⟨o,e,ex.1⟩,fun a e2=>?_⟩
   cases e2
   exact⟨o,e,ex.2.1⟩
 |_=>exact False.elim ty
def tBM(K:PySem.W.Frag)(T:String)(r:V->List V->Hp->VK->Prop)(to:TE)(t:TA):TE:=fun σ H Q=>to σ H fun x H1=>tyV K T x H1/\t σ H1 fun xs H2=>r x xs H2 Q
variable{o e:Expr}{es:List Expr}{to:TE}{t:TA}{name:Str}{apos cpos:Pos}{T id:String}{r:V->List V->Hp->VK->Prop}
theorem qH(pa:PlainAttrs T)(slot:Slot T name id)(hty:typeOf (.builtin id)=pure (.type "method_descriptor"))(hm:MtR X id r)(ho:PE X o to)(ha:PA X (e::es) t)
  (hbase:attributeBase o name X.env (eval o X.env)=eval o X.env:=by rfl)
  (hfew:((backTo cpos (starEach (e::es) X.env)).all (fun x=>!x.1) && (backToKw cpos (keywordEach [] X.env)).all (fun x=>x.1.isSome)
   && decide ((e::es).length+([]:List Keyword).length+(if ([]:List Keyword).isEmpty then 0 else 1)<30))=true:=by rfl)
  (hline:(apos.endLine == cpos.line)=true:=by rfl) (hs:starEach (e::es) X.env=(false,eval e X.env)::starEach es X.env:=by rfl) (hplain:(backTo cpos (starEach es X.env)).any (·.1)=false:=by rfl) :
  PE X (.Call (.Attribute o name apos) (e::es) [] cpos) (tBM X.K T r to t):=by
 intro pins s σ H Q I h
 refine wpAny_Call_method_late hbase hfew hline rfl (thn (ho pins s σ H _ I h) fun v s1 ⟨x,H1,I1,r1,ty,q1⟩=>?_)
 obtain⟨h1,h2⟩:=EA I1 r1 ty
 refine⟨T,id,pa,slot,hty,h1,h2,?_⟩
 have hA:=ha cpos pins s1 σ H1 _ I1 q1
 rw[hs]at hA ⊢
 refine Calls.callWith_builtin (by show (false || (backTo cpos (starEach es X.env)).any (·.1))=false;rw[hplain]<;>rfl) (Calls.evalArgs_plain ?_)
 exact thn hA fun us s2 ⟨vs,H2,I2,r2,q2⟩=>hm pins s2 σ H2 x vs v us Q I2 r1 r2 q2
end
def MtM(X:Cx)(id:String)(r:V->List V->Hp->VK->Prop):Prop :=
 ∀(pins:List (Addr×Obj)) (s:Shared) (σ:St) (H:Hp) (x:V) (xs:List V) (v:Value) (us:List Value) (Q:VK),Inv X pins σ H s->RelV x v->Vals xs us->r x xs H Q ->
  wpAny (model X.prog X.w) X.A (call (.builtin id) (v::us)) (EP X pins σ Q) X.xe s
theorem Vals.one:∀{x:V}{us:List Value},Vals [x] us->∃u,us=[u]/\RelV x u
 |_,_,.cons r .nil=>⟨_,rfl,r⟩
theorem Vals.two:∀{x y:V}{us:List Value},Vals [x,y] us->∃u v,us=[u,v]/\RelV x u/\RelV y v
 |_,_,_,.cons r (.cons q .nil)=>⟨_,_,rfl,r,q⟩
theorem Vals.rep{xs:List V}{us:List Value}(h:Vals xs us):∀k:Nat,Vals (List.replicate k xs).flatten (List.replicate k us).flatten
 |0=>.nil
 |k+1=>by
  rw[zyl,zyl,zyy,zyy]
  exact Vals.append h (Vals.rep h k)
theorem qI(its:List Value):∀(k:Nat) (acc:List Value),
  List.foldl (fun x1 x2=>x1++x2) acc.toArray (List.replicate k its.toArray)=(acc++(List.replicate k its).flatten).toArray
 |0,acc=>by simp
 |k+1,acc=>by
  have e:acc.toArray++its.toArray=(acc++its).toArray:=by simp
  have e2:(acc++its)++(List.replicate k its).flatten=acc++(List.replicate (k+1) its).flatten:=by
   rw[zyl,zyy,zym]
  rw[←e2,←qI its k (acc++its),←e,zyl,zyD]
section
variable{X:Cx}{pins:List (Addr×Obj)}{σ:St}{H:Hp}{s:Shared}{l:Addr}{xs ys:List V}
theorem Inv.lset{its its':List Value}{n:Nat}{f:Array Value->Array Value}{t':Nat}(I:Inv X pins σ H s)(hH:H l=some (.lst xs))
  (e:s.heap.get? l=some { cls:=.type "list",data:=.seq its.toArray n }) (hf:f its.toArray=its'.toArray) (hv:Vals ys its') (hz:ys.length <= sizeLine) :
  Inv X pins σ (upd H l (.lst ys)) { s with heap:=s.heap.update l (Obj.mapSeq f),toks:=t' }:=by
 have q:=PySem.IsL.update e f
 rw[hf]at q
 refine I.write (x:=l) (e:=l) (by rw[hH];exact trivial) (.inl rfl) (fun b' u hb hu=>(Heap.get?_update_other s.heap (Obj.mapSeq f) (Ne.symm hb)).trans hu) ⟨_,q⟩ ?_
 exact⟨hz,its',_,hv,q⟩
theorem Inv.lnew{its:List Value}{t':Nat}(I:Inv X pins σ H s)(hv:Vals ys its)(hz:ys.length <= sizeLine) :
  Inv X pins σ (upd H s.heap.objs.size (.lst ys)) { s with heap:=s.heap.push { cls:=.type "list",data:=.seq its.toArray },toks:=t' } :=
 I.laid (fun _ _ q=>zzf _ q) (zzh _) ⟨hz,its,0,hv,zzn _ rfl⟩
theorem Inv.fresh(I:Inv X pins σ H s):H s.heap.objs.size=none:=I.hok.fresh (zzh _)
theorem Inv.lstM(I:Inv X pins σ H s)(hH:H l=some (.lst xs)):xs.length <= sizeLine/\∃(its:List Value) (n:Nat),Vals xs its/\xs.length=its.length/\s.heap.get? l=some { cls:=.type "list",data:=.seq its.toArray n }:=by
 obtain⟨z,its,n,r,e⟩:=I.hok l _ hH
 exact⟨z,its,n,r,r.length,e⟩
theorem uD{n:Nat}(h:n <= sizeLine):Builtin.List.listTooLong n=false:=by
 unfold Builtin.List.listTooLong
 exact decide_eq_false (by omega)
end
section
variable{X:Cx}
def sN:V->List V->Hp->VK->Prop:=fun x vs H Q=>∃l xs y,x=.ref l/\vs=[y]/\H l=some (.lst xs)/\xs.length<sizeLine/\Q .non (upd H l (.lst (xs++[y])))
theorem jp:MtM X "list.append" sN:=by
 intro pins s σ H x vs v us Q I rx rv h
 obtain⟨l,xs,y,rfl,rfl,hH,hz,q⟩:=h
 cases rx
 obtain⟨u,rfl,ru⟩:=rv.one
 obtain⟨z,its,n,r,hl,e⟩:=I.lstM hH
 refine call_meets F.slot_list_append ⟨_,e,rfl⟩ F.entry_list_append (F.args_list_append_2 _ _) (PySem.list_append l its.toArray n u (by rw[zzs];omega)) ⟨e,?_⟩
 refine⟨.non,_,I.lset (its':=its++[u]) hH e (by simp) (r.append (.cons ru .nil)) ?_,rfl,q⟩
 rw[zzi,zyE]
 omega
def xx:V->List V->Hp->VK->Prop:=fun x vs H Q=>∃l b xs zs,x=.ref l/\vs=[.ref b]/\H l=some (.lst xs)/\H b=some (.lst zs)/\xs.length+zs.length <= sizeLine/\Q .non (upd H l (.lst (xs++zs)))
theorem xy:MtM X "list.extend" xx:=by
 intro pins s σ H x vs v us Q I rx rv h
 obtain⟨l,b,xs,zs,rfl,rfl,hH,hB,hz,q⟩:=h
 cases rx
 obtain⟨u,rfl,ru⟩:=rv.one
 cases ru
 obtain⟨z,its,n,r,hl,e⟩:=I.lstM hH
 obtain⟨z2,its2,n2,r2,hl2,e2⟩:=I.lstM hB
 have hsz:its.toArray.size+its2.toArray.size <= sizeLine:=by rw[zzs,zzs];omega
 have hlong:¬(!its.toArray.isEmpty && Builtin.List.listTooLong (its.toArray.size+its2.toArray.size))=true:=by
  rw[uD hsz,Bool.and_false]
  exact zzo
 refine call_meets F.slot_list_extend ⟨_,e,rfl⟩ F.entry_list_extend (F.args_list_extend_2 _ _)
  (AutoSeq1.list_extend_list_list_0 l its.toArray n b its2.toArray n2 hlong (by rw[zzs];omega) (by omega)) ⟨e,e2,?_⟩
 refine⟨.non,_,I.lset (its':=its++its2) hH e (by simp) (r.append r2) ?_,rfl,q⟩
 rw[zzi]
 omega
def rCat:R2:=fun x y H Q=>∃l b xs zs,x=.ref l/\y=.ref b/\H l=some (.lst xs)/\H b=some (.lst zs)/\xs.length+zs.length <= sizeLine/\∀p,H p=none->Q (.ref p) (upd H p (.lst (xs++zs)))
theorem EB:OpR X (binaryOp .Add) rCat:=by
 intro pins s σ H x y v u Q I rx ry h
 obtain⟨l,b,xs,zs,rfl,rfl,hH,hB,hz,q⟩:=h
 cases rx
 cases ry
 obtain⟨z,its,n,r,hl,e⟩:=I.lstM hH
 obtain⟨z2,its2,n2,r2,hl2,e2⟩:=I.lstM hB
 refine PySem.P.add_list e e2 ?_ (by rw[zzs,zzs];omega)
 have ea:its.toArray++its2.toArray=(its++its2).toArray:=by simp
 rw[ea]
 exact⟨.ref _,_,I.lnew (t':=s.toks) (r.append r2) (by rw[zzi];omega),rfl,q _ I.fresh⟩
def rRep:R2:=fun x y H Q=>∃l k xs,x=.ref l/\y=.int k/\H l=some (.lst xs)/\-(2^63) <= k/\k<2^63/\xs.length*k.toNat <= sizeLine /\
 ∀p,H p=none->Q (.ref p) (upd H p (.lst (List.replicate k.toNat xs).flatten))
theorem Cl{α:Type}(xs:List α)(k:Nat):(List.replicate k xs).flatten.length=k*xs.length:=by
 induction k with
 |zero=>simp
 |succ k ih=>rw[zyl,zyy,zzi,ih,Nat.succ_mul,Nat.add_comm]
theorem EC:OpR X (binaryOp .Mult) rRep:=by
 intro pins s σ H x y v u Q I rx ry h
 obtain⟨l,k,xs,rfl,rfl,hH,h1,h2,hz,q⟩:=h
 cases rx
 obtain⟨t,rfl⟩:=ry
 obtain⟨z,its,n,r,hl,e⟩:=I.lstM hH
 have hlen:its.toArray.size*k.toNat <= sizeLine:=by rw[zzs,←hl];exact hz
 have hcap:¬its.toArray.size*k.toNat>(2^63 - 1) / 8:=by
  have:(sizeLine:Nat) <= (2^63 - 1) / 8:=by decide
  omega
 have hfit:¬(!Builtin.List.listFitsIndex k)=true:=by
  rw[fitsIndex_both h1 h2]
  exact zzo
 have hlong:¬Builtin.List.listTooLong (its.toArray.size*k.toNat)=true:=by
  rw[uD hlen]
  exact zzo
 have hnew:List.foldl (fun x1 x2=>x1++x2) #[] (List.replicate (if its.toArray.isEmpty=true then 0 else k.toNat) its.toArray)=(List.replicate k.toNat its).flatten.toArray:=by
  have f0:∀m:Nat,List.foldl (fun x1 x2=>x1++x2) #[] (List.replicate m its.toArray)=(List.replicate m its).flatten.toArray:=fun m=>by
   have:=qI its m []
   rw[List.nil_append]at this
   exact this
  rw[f0]
  cases its with
  |nil=>simp
  |cons a r'=>rw[if_neg (by simp)]
 refine wpAny_binaryOp_repeat_ref (T:="list") (U:="int") (by decide) ⟨_,e,rfl⟩ (fun s'=>typeIs_int s' k t) noFill_list_mul F.fills_int_mul F.slot_int_rmul repeat_list F.slot_int_index.lookup
  (call_meets F.slot_int_rmul (typeIs_int s k t) F.entry_int_rmul (F.args_int_rmul_2 _ _) (int___rmul___int_list k t l its.toArray n)
   ⟨e,rfl,⟨_,e,rfl⟩,call_meets F.slot_list_mul ⟨_,e,rfl⟩ F.entry_list_mul (F.args_list_mul_2 _ _) (AutoListH.list___mul___list_int_3 l its.toArray n k t hfit hcap hlong) ⟨e,?_⟩⟩)
 rw[hnew]
 exact⟨.ref _,_,I.lnew (t':=s.toks) (r.rep k.toNat) (by rw[Cl,Nat.mul_comm];exact hz),rfl,q _ I.fresh⟩
end
section
variable{κ:Type}[DecidableEq κ]
def valV(kvs:List (κ×V))(k:κ):Option V:=(kvs.find? fun kv=>decide (kv.1=k)).map (·.2)
def putK(kvs:List (κ×V))(k:κ)(v:V):List (κ×V) :=
 if (kvs.any fun kv=>decide (kv.1=k))=true then kvs.map (fun kv=>if kv.1=k then(kv.1,v) else kv) else kvs++[(k,v)]
theorem bV{p:κ×V}{r:List (κ×V)}{k:κ}(e:p.1=k):valV (p::r) k=some p.2:=by simp[valV,zyO,e]
theorem bJ{p:κ×V}{r:List (κ×V)}{k:κ}(e:¬p.1=k):valV (p::r) k=valV r k:=by simp[valV,zyO,e]
theorem gY(k:κ):∀kvs:List (κ×V),(kvs.any fun kv=>decide (kv.1=k))=(valV kvs k).isSome
 |[]=>rfl
 |p::r=>by
  rw[List.any_cons]
  by_cases e:p.1=k
  ·simp only[bV e,decide_eq_true e,Bool.true_or,Option.isSome_some]
  ·rw[bJ e,decide_eq_false e,Bool.false_or];exact gY k r
theorem uE(k j:κ)(y:V):∀kvs:List (κ×V),valV (kvs.map fun kv=>if kv.1=k then(kv.1,y) else kv) j=(valV kvs j).map fun x=>if j=k then y else x
 |[]=>rfl
 |p::r=>by
  have ih:=uE k j y r
  rw[zzc]
  by_cases h:p.1=k
  ·rw[if_pos h]
   by_cases e:p.1=j
   ·rw[bV (p:=(p.1,y)) e,bV e,zyF,if_pos (e.symm.trans h)]
   ·rw[bJ (p:=(p.1,y)) e,bJ e,ih]
  ·rw[if_neg h]
   by_cases e:p.1=j
   ·rw[bV (p:=p) e,bV e,zyF,if_neg (fun z=>h (e.trans z))]
   ·rw[bJ (p:=p) e,bJ e,ih]
theorem qJ(k j:κ)(y:V):∀kvs:List (κ×V),valV kvs k=none->valV (kvs++[(k,y)]) j=if j=k then some y else valV kvs j
 |[],_=>by
  by_cases e:k=j
  ·rw[if_pos e.symm];exact bV (p:=(k,y)) e
  ·rw[if_neg (fun z=>e z.symm)];exact bJ (p:=(k,y)) e
 |p::r,hn=>by
  rw[List.cons_append]
  have hk:¬p.1=k:=fun z=>by rw[bV z]at hn;cases hn
  rw[bJ hk]at hn
  have ih:=qJ k j y r hn
  by_cases e:p.1=j
  ·rw[bV e,bV e,if_neg (fun z=>hk (e.trans z))]
  ·rw[bJ e,bJ e,ih]
theorem zR(kvs:List (κ×V))(k j:κ)(y:V):valV (putK kvs k y) j=if j=k then some y else valV kvs j:=by
 unfold putK
 by_cases a:(kvs.any fun kv=>decide (kv.1=k))=true
 ·rw[if_pos a,uE]
  rw[gY]at a
  by_cases e:j=k
  ·obtain⟨x,hx⟩:=Option.isSome_iff_exists.mp a
   rw[if_pos e,e,hx,zyF,if_pos rfl]
  ·rw[if_neg e]
   cases valV kvs j with
   |none=>rfl
   |some x=>rw[zyF,if_neg e]
 ·rw[if_neg a]
  refine qJ k j y kvs ?_
  rw[gY]at a
  cases q:valV kvs k with
  |none=>rfl
  |some x=>rw[q]at a;exact(a rfl).elim
theorem ix(kvs:List (κ×V))(k:κ)(v:V):(putK kvs k v).length <= kvs.length+1:=by
 unfold putK
 split
 ·rw[zza];omega
 ·rw[zzi,zzZ,List.length_nil];omega
theorem RelO.isSome_eq{o:Option V}{u:Option Value}(r:RelO o u):o.isSome=u.isSome:=by
 cases o with
 |none=>cases u with
  |none=>rfl
  |some _=>exact(show False from r).elim
 |some _=>cases u with
  |none=>exact(show False from r).elim
  |some _=>rfl
theorem RelO.getD{o:Option V}{u:Option Value}{d:V}{d':Value}(r:RelO o u)(rd:RelV d d'):RelV (o.getD d) (u.getD d'):=by
 cases o with
 |none=>cases u with
  |none=>exact rd
  |some _=>exact(show False from r).elim
 |some _=>cases u with
  |none=>exact(show False from r).elim
  |some _=>exact r
theorem KV.val{kvs:List (κ×V)}{vs:List (κ×Value)}(r:KV kvs vs)(k:κ):RelO (valV kvs k) (valueAt vs k):=by
 unfold KV at r
 induction r with
 |nil=>exact True.intro
 |@cons p q ps qs h t ih =>
  obtain⟨h1,h2⟩:=h
  by_cases e:p.1=k
  ·have e':q.1=k:=h1.symm.trans e
   have b:valueAt (q::qs) k=some q.2:=by simp[valueAt,zyO,e']
   rw[bV e,b];exact h2
  ·have e':¬q.1=k:=fun z=>e (h1.trans z)
   have b:valueAt (q::qs) k=valueAt qs k:=by simp[valueAt,zyO,e']
   rw[bJ e,b];exact ih
theorem KV.any{kvs:List (κ×V)}{vs:List (κ×Value)}(r:KV kvs vs)(k:κ):(kvs.any fun kv=>decide (kv.1=k))=vs.any fun kv=>decide (kv.1=k):=by
 unfold KV at r
 induction r with
 |nil=>rfl
 |cons h t ih=>rw[List.any_cons,List.any_cons,ih,h.1]
theorem KV.repl{kvs:List (κ×V)}{vs:List (κ×Value)}(r:KV kvs vs)(k:κ){y:V}{u:Value}(ry:RelV y u) :
  KV (kvs.map fun kv=>if kv.1=k then(kv.1,y) else kv) (vs.map fun kv=>if kv.1=k then(kv.1,u) else kv):=by
 unfold KV at r ⊢
 induction r with
 |nil=>exact .nil
 |@cons p q ps qs h t ih =>
  rw[zzc,zzc]
  refine .cons ?_ ih
  obtain⟨h1,h2⟩:=h
  by_cases e:p.1=k
  ·rw[if_pos e,if_pos (h1.symm.trans e)];exact⟨h1,ry⟩
  ·rw[if_neg e,if_neg (fun z=>e (h1.trans z))];exact⟨h1,h2⟩
theorem KV.put{kvs:List (κ×V)}{vs:List (κ×Value)}(r:KV kvs vs)(k:κ){y:V}{u:Value}(ry:RelV y u):KV (putK kvs k y) (stored vs k u):=by
 unfold putK stored
 rw[r.any k]
 by_cases e:(vs.any fun kv=>decide (kv.1=k))=true
 ·rw[if_pos e,if_pos e];exact r.repl k ry
 ·rw[if_neg e,if_neg e];exact Paired.snoc r ⟨rfl,ry⟩
theorem KV.length{kvs:List (κ×V)}{vs:List (κ×Value)}(r:KV kvs vs):kvs.length=vs.length:=Paired.length r
end
theorem zS{P:Program}{w:World}{k:Key}{u:Value}(r:RelV (kV k) u):(ce P w).is k u=true:=by
 cases k with
 |inl i=>obtain⟨t,e⟩:=(show ∃t,u=Value.int i t from r);subst e;exact sH P w i t
 |inr x=>obtain⟨t,e⟩:=(show ∃t,u=Value.str x t from r);subst e;exact sI P w x t
theorem qK{P:Program}{w:World}:∀{ks:List Key}{us:List Value},Vals (ks.map kV) us->ItemsAre (ce P w) ks us
 |[],_,r=>by rw[zyb]at r;cases r;exact .nil
 |k::ks,_,r=>by
  rw[zzc]at r
  cases r with
  |cons h t=>exact .cons (zS h) (qK t)
abbrev KT(H:Hp):List (List Key×V)->List (List Key×Addr×Value)->Prop:=Paired fun p q=>p.1=q.1/\H q.2.1=some (.tup (p.1.map kV))/\RelV p.2 q.2.2
theorem KT.val{H:Hp}{kvs:List (List Key×V)}{xs:List (List Key×Addr×Value)}(r:KT H kvs xs)(k:List Key):RelO (valV kvs k) ((atKey xs k).map (·.2)):=by
 induction r with
 |nil=>exact True.intro
 |@cons p q ps qs h t ih =>
  obtain⟨h1,_,h2⟩:=h
  by_cases e:p.1=k
  ·have e':q.1=k:=h1.symm.trans e
   have b:atKey (q::qs) k=some q.2:=by simp[atKey,zyO,e']
   rw[bV e,b];exact h2
  ·have e':¬q.1=k:=fun z=>e (h1.trans z)
   have b:atKey (q::qs) k=atKey qs k:=by simp[atKey,zyO,e']
   rw[bJ e,b];exact ih
theorem KT.repl{H:Hp}{kvs:List (List Key×V)}{xs:List (List Key×Addr×Value)}(r:KT H kvs xs)(k:List Key){y:V}{u:Value}(ry:RelV y u) :
  KT H (kvs.map fun kv=>if kv.1=k then(kv.1,y) else kv) (xs.map (putAt k u)):=by
 induction r with
 |nil=>exact .nil
 |@cons p q ps qs h t ih =>
  rw[zzc,zzc]
  refine .cons ?_ ih
  obtain⟨h1,h2,h3⟩:=h
  unfold putAt
  by_cases e:p.1=k
  ·rw[if_pos e,if_pos (h1.symm.trans e)];exact⟨h1,h2,ry⟩
  ·rw[if_neg e,if_neg (fun z=>e (h1.trans z))];exact⟨h1,h2,h3⟩
theorem KT.put{H:Hp}{kvs:List (List Key×V)}{xs:List (List Key×Addr×Value)}(r:KT H kvs xs)(k:List Key){b:Addr}{y:V}{u:Value}(hb:H b=some (.tup (k.map kV)))(ry:RelV y u) :
  KT H (putK kvs k y) (storedH xs k b u):=by
 have e:(kvs.any fun kv=>decide (kv.1=k))=(atKey xs k).isSome:=by
  rw[gY,(r.val k).isSome_eq,Option.isSome_map]
 unfold putK storedH
 rw[e]
 by_cases q:(atKey xs k).isSome=true
 ·rw[if_pos q,if_pos q];exact r.repl k ry
 ·rw[if_neg q,if_neg q];exact Paired.snoc r ⟨rfl,hb,ry⟩
theorem KT.keeps{H H':Hp}{kvs:List (List Key×V)}{xs:List (List Key×Addr×Value)}(r:KT H kvs xs)(ht:∀b ys,H b=some (.tup ys)->H' b=some (.tup ys)):KT H' kvs xs :=
 Paired.mapP r fun _ _ z=>⟨z.1,ht _ _ z.2.1,z.2.2⟩
section
variable{P:Program}{w:World}{H:Hp}{h:Heap}{a:Addr}
theorem ED{u:HO}(ok:HOk P w H h)(e:Rd H a u):ObjOk P w H h a u:=e.ok ok
theorem xz{kvs:List (Key×V)}(ok:HOk P w H h)(e:Rd H a (.dK kvs)):kvs.length <= sizeLine/\(a == sysModules)=false/\∃vs,KV kvs vs/\h.DictOf (ce P w) a vs :=
 show ObjOk P w H h a (.dK kvs) from ED ok e
theorem Gu{kvs:List (Key×V)}(ok:HOk P w H h)(e:H a=some (.dK kvs)):kvs.length <= sizeLine/\(a == sysModules)=false/\∃vs,KV kvs vs/\h.DictOf (ce P w) a vs:=xz ok (.inl e)
theorem qL{ks:List Key}(ok:HOk P w H h)(e:H a=some (.tup (ks.map kV))):(tupleKind (ce P w)).is h ks a:=by
 obtain⟨_,its,r,o,h1,h2,n,h3⟩:=(show ObjOk P w H h a (.tup (ks.map kV)) from ok a _ e)
 exact⟨o,its.toArray,n,h1,h2,h3,by simpa using qK r⟩
theorem vY{kvs:List (List Key×V)}(ok:HOk P w H h)(e:Rd H a (.dT kvs)):kvs.length <= sizeLine/\(a == sysModules)=false /\
  ∃xs,KT H kvs xs/\h.DictOfH (tupleKind (ce P w)) a xs:=by
 obtain⟨z,y,xs,r,o,es,ep,h1,h2,h3,h4,h5⟩:=(show ObjOk P w H h a (.dT kvs) from ED ok e)
 refine⟨z,y,xs,r,o,es,ep,h1,h2,h3,h4,fun x hx=>?_,h5⟩
 have all:∀{l:List (List Key×V)}{m:List (List Key×Addr×Value)},KT H l m->∀x∈m,(tupleKind (ce P w)).is h x.1 x.2.1:=by
  intro l m q
  induction q with
  |nil=>intro x hx;exact nomatch hx
  |@cons p q ps qs hq t ih =>
   intro x hx
   rcases zzj.mp hx with e|hx
   ·subst e
    exact qL ok (by rw[←hq.1];exact hq.2.1)
   ·exact ih x hx
 exact all r x hx
theorem EE{kvs:List (List Key×V)}(ok:HOk P w H h)(e:H a=some (.dT kvs)):kvs.length <= sizeLine/\(a == sysModules)=false /\
  ∃xs,KT H kvs xs/\h.DictOfH (tupleKind (ce P w)) a xs:=vY ok (.inl e)
end
def DGet(H:Hp)(a:Addr)(y:V)(r:Option V):Prop :=
 (∃kvs k,Rd H a (.dK kvs)/\y=kV k/\r=valV kvs k)∨∃kvs k b,Rd H a (.dT kvs)/\y=.ref b/\H b=some (.tup (k.map kV))/\r=valV kvs k
def DPut(H:Hp)(a:Addr)(y v:V)(H':Hp):Prop :=
 (∃kvs k,H a=some (.dK kvs)/\y=kV k/\kvs.length<sizeLine/\H'=upd H a (.dK (putK kvs k v))) ∨
 ∃kvs k b,H a=some (.dT kvs)/\y=.ref b/\H b=some (.tup (k.map kV))/\kvs.length<sizeLine/\H'=upd H a (.dT (putK kvs k v))
theorem DGet.t{H:Hp}{a b:Addr}{kvs:List (List Key×V)}{k:List Key}(e:H a=some (.dT kvs))(eb:H b=some (.tup (k.map kV))):DGet H a (.ref b) (valV kvs k):=.inr ⟨kvs,k,b,.inl e,rfl,eb,rfl⟩
theorem DPut.t{H:Hp}{a b:Addr}{kvs:List (List Key×V)}{k:List Key}{v:V}(e:H a=some (.dT kvs))(eb:H b=some (.tup (k.map kV)))(hl:kvs.length<sizeLine) :
  DPut H a (.ref b) v (upd H a (.dT (putK kvs k v))):=.inr ⟨kvs,k,b,e,rfl,eb,hl,rfl⟩
section
variable{X:Cx}{pins:List (Addr×Obj)}{σ:St}{H:Hp}{s:Shared}{a:Addr}{y v:V}{u r:Value}{o:Option V}{A:Around}{E:Value->Shared->Prop}
theorem Inv.big(I:Inv X pins σ H s):sysModules<s.heap.objs.size:=by
 have h:mainGlobals<s.heap.objs.size:=(I.mod.glob.keeps I.bk).lt
 exact Nat.lt_trans (by decide) h
theorem xA{Q:Value->Shared->Prop}(hu:A.units+1<cLine)(I:Inv X pins σ H s)(g:DGet H a y (some v))(ry:RelV y u)(h:∀w' s',Inv X pins σ H s'->RelV v w'->Q w' s') :
  wpAny (model X.prog X.w) A (getItem (.ref a) u) Q E s:=by
 rcases g with ⟨kvs,k,e,ey,l⟩|⟨kvs,k,b,e,ey,eb,l⟩
 ·subst ey
  obtain⟨z,hd,vs,rel,dd⟩:=xz I.hok e
  obtain⟨w',hw,rw'⟩:=RelO.some_of (v:=v) (o:=valueAt vs k) (by rw[l];exact rel.val k)
  exact wpAny_getItem_of (zS ry) dd.mapOf hw (h w' _ (I.tok _) rw')
 ·subst ey
  cases (show u=Value.ref b from ry)
  obtain⟨z,hd,xs,rel,dd⟩:=vY I.hok e
  obtain⟨w',hw,rw'⟩:=RelO.some_of (v:=v) (o:=(atKey xs k).map (·.2)) (by rw[l];exact rel.val k)
  obtain⟨p,hp,hp2⟩:=zyA.mp hw
  refine wpAny_getItem_heap (tupleKind_room_in1 hu) (qL I.hok eb) dd hp ?_
  rw[hp2]
  exact h w' _ (I.tok _) rw'
theorem sO{h':Heap}{t':Nat}{ob:HO}(I:Inv X pins σ H s)(mu:Mut (H a))(hs:Heap.SameBut a s.heap h')(he:∃q,h'.get? a=some q)(new:ObjOk X.prog X.w (upd H a ob) h' a ob) :
  Inv X pins σ (upd H a ob) { s with heap:=h',toks:=t' } :=
 I.write (x:=a) (e:=a) mu (.inl rfl) (fun b q hb z=>(hs.2 b hb).trans z) he new
theorem EF{P:Program}{w:World}{H':Hp}{h':Heap}{kvs:List (Key×V)}{vs:List (Key×Value)}(z:kvs.length <= sizeLine)(hd:(a == sysModules)=false)(rel:KV kvs vs)(dd:h'.DictOf (ce P w) a vs) :
  ObjOk P w H' h' a (.dK kvs):=⟨z,hd,vs,rel,dd⟩
theorem xB{H':Hp}{Q:Unit->Shared->Prop}(hu:A.units+1<cLine)(I:Inv X pins σ H s)(g:DPut H a y v H')(ry:RelV y u)(rv:RelV v r)(h:∀s',Inv X pins σ H' s'->Q () s') :
  wpAny (model X.prog X.w) A (setItem (.ref a) u r) Q E s:=by
 rcases g with ⟨kvs,k,e,ey,l,eH⟩|⟨kvs,k,b,e,ey,eb,l,eH⟩
 ·subst ey eH
  obtain⟨z,hd,vs,rel,dd⟩:=Gu I.hok e
  have hz:vs.length <= sizeLine:=by rw[←rel.length];exact z
  have hl:(putK kvs k v).length <= sizeLine:=by have:=ix kvs k v;omega
  refine wpAny_setItem_pairs (hsz:=hz) (zS ry) dd fun h' dd' hs=>h _ ?_
  have he:∃q,h'.get? a=some q:=let ⟨q,_,_,hq,_⟩:=dd';⟨q,hq⟩
  exact sO I (by rw[e];exact True.intro) hs he (EF hl hd (rel.put k rv) dd')
 ·subst ey eH
  cases (show u=Value.ref b from ry)
  obtain⟨z,hd,xs,rel,dd⟩:=EE I.hok e
  have hz:xs.length <= sizeLine:=by rw[←Paired.length rel];exact z
  have hl:(putK kvs k v).length <= sizeLine:=by have:=ix kvs k v;omega
  refine wpAny_setItem_heap (hsz:=hz) (tupleKind_room_in1 hu) (qL I.hok eb) dd fun h' dd' hs=>h _ ?_
  obtain⟨q,es,ep,hq,h2,h3,h4,_,h5⟩:=dd'
  refine sO I (by rw[e];exact True.intro) hs ⟨q,hq⟩ ⟨hl,hd,_,(rel.put k eb rv).keeps fun c ys ec=>?_,q,es,ep,hq,h2,h3,h4,h5⟩
  rw[ao (jl ec e (fun z=>nomatch z))]
  exact ec
end
def NoSl(i:Expr):Prop:=∀ov iv,subscripted i false ov iv=operate [ov,iv] (getItem ov iv)
theorem Cm{prog:Program}{w:World}{A:Around}{E:Value->Shared->Prop}{s:Shared}{env:Env}{value slice:Expr}{pos:Pos}{T id:String}{Q:Value->Shared->Prop}
  (hl:typeLookup (.type T) "__getitem__" = pure (some (.builtin id))) (hs:NoSl slice)
  (h:wpAny (model prog w) A (eval value env) (fun o s₁=>wpAny (model prog w) A (eval slice env) (fun i s₂=>s₂.TypeIs o T/\wpAny (model prog w) A (getItem o i) Q E s₂) E s₁) E s) :
  wpAny (model prog w) A (eval (.Subscript value slice pos) env) Q E s:=by
 refine Subscript_ (wpAny_mono h (fun o s₁ h₁=>wpAny_mono h₁ (fun i s₂ h₂=>?_) fun _ _ x=>x) fun _ _ x=>x)
 obtain⟨hT,h₂⟩:=h₂
 unfold subscriptTail
 refine wpAny_bind ?_
 rw[getitemInPython_of_ne hT.not_modules]
 refine wpAny_bind (wpAny_specialOf hT hl ?_)
 have fin:wpAny (model prog w) A (subscripted slice false o i) (fun r s₃=>wpAny (model prog w) A (letTemporaryGo value o r >>= fun _=>pure r) Q E s₃) E s₂:=by
  rw[hs o i]
  exact wpAny_operating (wpAny_mono h₂ (fun r s₃ h₃=>wpAny_bind (wpAny_letTemporaryGo (wpAny_pure h₃))) fun _ _ x=>x)
 first
  |exact wpAny_pure (wpAny_bind fin)
  |exact wpAny_bind (wpAny_pure (wpAny_bind fin))
  |exact wpAny_bind fin
theorem sP{X:Cx}{pins:List (Addr×Obj)}{σ:St}{H:Hp}{s:Shared}{a:Addr}{y:V}{o:Option V}(I:Inv X pins σ H s)(g:DGet H a y o):s.TypeIs (.ref a) "dict":=by
 rcases g with ⟨kvs,k,e,_,_⟩|⟨kvs,k,b,e,_,_,_⟩
 ·obtain⟨_,_,vs,_,dd⟩:=xz I.hok e
  exact dd.typeIs
 ·obtain⟨_,_,xs,_,dd⟩:=vY I.hok e
  exact dd.typeIs
def Gv(td ty:TE):TE:=fun σ H Q=>td σ H fun x H1=>ty σ H1 fun y H2=>∃a v,x=.ref a/\DGet H2 a y (some v)/\Q v H2
def Gw(td ty tv:TE):TS:=fun D σ H=>tv σ H fun v H1=>td σ H1 fun x H2=>ty σ H2 fun y H3=>∃a H4,x=.ref a/\DPut H3 a y v H4/\D.nx σ H4
section
variable{X:Cx}{o i value:Expr}{pos pos':Pos}{td ty tv:TE}
theorem Cn(hu:X.A.units+1<cLine)(ho:PE X o td)(hi:PE X i ty)(hs:NoSl i):PE X (.Subscript o i pos) (Gv td ty):=by
 intro pins s σ H Q I h
 refine Cm PySem.F.slot_dict_getitem.lookup hs (thn (ho pins s σ H _ I h) fun u s1 ⟨x,H1,I1,rx,q1⟩=>thn (hi pins s1 σ H1 _ I1 q1) fun iv s2 ⟨y,H2,I2,ry,a,v,ex,g,q2⟩=>?_)
 subst ex
 obtain rfl:u=Value.ref a:=rx
 exact⟨sP I2 g,xA hu I2 g ry fun w' s3 I3 rw'=>⟨v,H2,I3,rw',q2⟩⟩
theorem Co(hu:X.A.units+1<cLine)(ho:PE X o td)(hi:PE X i ty)(hv:PE X value tv)(hs:swapsWith value (some (.Subscript o i pos')) pos.line X.env=pure false) :
  PS X (.Assign [.Subscript o i pos'] value pos) (Gw td ty tv):=by
 intro pins s σ H D I h
 refine wpAny_Assign_Subscript (thn (hv pins s σ H _ I h) fun r s1 ⟨v,H1,I1,rv,q1⟩=>thn (ho pins s1 σ H1 _ I1 q1) fun u s2 ⟨x,H2,I2,rx,q2⟩=>thn (hi pins s2 σ H2 _ I2 q2) fun iv s3 ⟨y,H3,I3,ry,a,H4,ex,g,q3⟩=>?_) hs
 subst ex
 obtain rfl:u=Value.ref a:=rx
 exact xB hu I3 g ry rv fun s4 I4=>⟨σ,H4,I4,q3⟩
end
theorem zT{P:Program}{w:World}{H:Hp}(h:Heap)(hb:sysModules<h.objs.size):ObjOk P w H (h.push { cls:=.type "dict",data:=.dict #[] }) h.objs.size (.dT []) :=
 ⟨zzH _,beq_eq_false_iff_ne.mpr (Ne.symm (zzJ hb)),[],.nil,_,#[],0,zzn _ rfl,⟨rfl,rfl,rfl⟩,rfl,rfl,List.nodup_nil⟩
def EG:TE:=fun _ H Q=>∀p,H p=none->Q (.ref p) (upd H p (.dT []))
section
variable{X:Cx}{pos:Pos}
theorem zU:PE X (.Dict [] [] pos) EG:=fun pins s σ H Q I h =>
 wpAny_Dict_empty ⟨.ref s.heap.objs.size,_,I.laid (a:=s.heap.objs.size) (o:=.dT []) (t':=s.toks) (fun _ _ q=>zzf _ q) (zzh _) (zT s.heap I.big),rfl,h _ (I.hok.fresh (zzh _))⟩
end
structure M2(X:Cx)(o:Expr)(m:Str)(apos:Pos)(e f:Expr)(cpos:Pos):Prop where
 base:attributeBase o m X.env (eval o X.env)=eval o X.env
 few:((backTo cpos (starEach [e,f] X.env)).all (fun x=>!x.1) && (backToKw cpos (keywordEach [] X.env)).all (fun x=>x.1.isSome)
  && decide (([e,f]:List Expr).length+([]:List Keyword).length+(if ([]:List Keyword).isEmpty then 0 else 1)<30))=true
 line:(apos.endLine == cpos.line)=true
 trees:backTo cpos (starEach [e,f] X.env)=[(false,eval e X.env),(false,eval f X.env)]
def IsD(H:Hp)(a:Addr):Prop:=(∃kvs,Rd H a (.dK kvs))∨∃kvs,Rd H a (.dT kvs)
theorem EH{X:Cx}{pins:List (Addr×Obj)}{σ:St}{H:Hp}{s:Shared}{a:Addr}(I:Inv X pins σ H s)(d:IsD H a) :
  s.TypeIs (.ref a) "dict" /\ (∀b,Value.ref a=.ref b->∃ob,s.heap.get? b=some ob/\ob.dict=none)/\(a == sysModules)=false:=by
 rcases d with ⟨kvs,e⟩|⟨kvs,e⟩
 ·obtain⟨_,hd,vs,_,dd⟩:=xz I.hok e
  refine⟨dd.typeIs,fun b q=>?_,hd⟩
  cases q
  obtain⟨ob,_,_,h1,h2,_⟩:=dd
  exact⟨ob,h1,h2.2.1⟩
 ·obtain⟨_,hd,xs,_,dd⟩:=vY I.hok e
  refine⟨dd.typeIs,fun b q=>?_,hd⟩
  cases q
  obtain⟨ob,_,_,h1,h2,_⟩:=dd
  exact⟨ob,h1,h2.2.1⟩
section
variable{X:Cx}{pins:List (Addr×Obj)}{σ:St}{H:Hp}{s:Shared}{a:Addr}{y d:V}{u r:Value}{o:Option V}{A:Around}{E:Value->Shared->Prop}
theorem EI{Q:Value->Shared->Prop}(hu:A.units+1<cLine)(I:Inv X pins σ H s)(g:DGet H a y o)(ry:RelV y u)(rd:RelV d r)(h:∀w' s',Inv X pins σ H s'->RelV (o.getD d) w'->Q w' s') :
  wpAny (model X.prog X.w) A (call (.builtin "dict.get") [.ref a,u,r]) Q E s:=by
 rcases g with ⟨kvs,k,e,ey,l⟩|⟨kvs,k,b,e,ey,eb,l⟩
 ·subst ey
  obtain⟨z,hd,vs,rel,dd⟩:=xz I.hok e
  refine call_meetsIn PySem.F.slot_dict_get dd.typeIs PySem.F.entry_dict_get (PySem.F.args_dict_get_3 _ _ _) (meets_dict_get_default (ce X.prog X.w) a (zS ry) hd r) ⟨_,dd.mapOf,h _ _ (I.tok _) ?_⟩
  rw[l]
  exact(rel.val k).getD rd
 ·subst ey
  cases (show u=Value.ref b from ry)
  obtain⟨z,hd,xs,rel,dd⟩:=vY I.hok e
  refine call_meetsIn PySem.F.slot_dict_get dd.typeIs PySem.F.entry_dict_get (PySem.F.args_dict_get_3 _ _ _) (meetsH_dict_get_default (tupleKind (ce X.prog X.w)) a b hd r) ⟨tupleKind_room_in1 hu,k,xs,qL I.hok eb,dd,h _ _ (I.tok _) ?_⟩
  rw[l]
  exact(rel.val k).getD rd
end
def EJ(td ty tx:TE):TE:=fun σ H Q=>td σ H fun x H1=>∃a,x=.ref a/\IsD H1 a/\ty σ H1 fun y H2=>tx σ H2 fun z H3=>∃o,DGet H3 a y o/\Q (o.getD z) H3
section
variable{X:Cx}{o e f:Expr}{apos cpos:Pos}{td ty tx:TE}
theorem uF(hu:X.A.units+1<cLine)(ho:PE X o td)(he:PE X e ty)(hf:PE X f tx)(m:M2 X o "get" apos e f cpos):PE X (.Call (.Attribute o "get" apos) [e,f] [] cpos) (EJ td ty tx):=by
 intro pins s σ H Q I h
 refine wpAny_Call_method m.base m.few m.line zyM PySem.F.slot_dict_get PySem.F.type_dict_get (thn (ho pins s σ H _ I h) fun u s1 ⟨x,H1,I1,rx,a,ex,d,q1⟩=>?_)
 subst ex
 obtain rfl:u=Value.ref a:=rx
 obtain⟨t1,t2,_⟩:=EH I1 d
 refine⟨t1,t2,?_⟩
 rw[m.trees]
 refine Calls.callWith_builtin rfl (Calls.evalArgs_plain (Calls.spliced_cons (thn (he pins s1 σ H1 _ I1 q1) fun iv s2 ⟨y,H2,I2,ry,q2⟩ =>
  Calls.spliced_cons (thn (hf pins s2 σ H2 _ I2 q2) fun fv s3 ⟨z,H3,I3,rz,ov,g,q3⟩=>Calls.spliced_nil ?_))))
 exact EI hu I3 g ry rz fun w' s4 I4 rw'=>⟨_,H3,I4,rw',q3⟩
end
end L2
namespace Att
open PySem PySem.W PySem.Calls PyProof.Rows
theorem mE{P:Params}{h:Heap}:∀(ns:List Int) (vs:List Value),WellAll P h vs (ns.map WData.int)->IntsAre vs ns:=by
 intro ns
 induction ns with
 |nil =>
  intro vs w
  rw[zyb]at w
  cases w
  exact .nil
 |cons n ns ih =>
  intro vs w
  rw[zzc]at w
  cases w with
  |cons a b =>
   cases a
   exact .cons _ _ (ih _ b)
theorem xC{l:OpenLaw}{n:Nat}(hn:l.most=some n){P:Params}{h:Heap}{args:List WData}{vals:List Value}
  (hpre:l.row.toRowW.claim.pre args=true) (hwl:WellAll P h vals args) :
  ∃a vs ns,vals=[Value.ref a]/\args=[WData.list (ns.map WData.int)]/\h.get? a=some { cls:=.type "list",data:=.seq vs.toArray }/\IntsAre vs ns/\ns.length <= n:=by
 have hsh:WShape.hasAll [] args [.list .int]=true:=(pre_splitW hpre).1
 have hc:l.pre.holds [] { args:=args }=true:=(pre_splitW hpre).2
 obtain⟨d,r,rfl,h1,h2⟩:=hasAllW_cons hsh
 obtain rfl:=hasAllW_nil h2
 obtain⟨xs,rfl,h3⟩:=hasW_list h1
 obtain⟨ns,rfl⟩:=items_int h3
 have hlen:ns.length <= n:=by
  unfold OpenLaw.pre at hc
  have h4:(WTm.not (.lt (.lit (.int (n:Int))) (.len (.arg 0)))).holds [] { args:=[.list (ns.map .int)] }=true:=by
   have h4:=(holds_andW hc).1
   rw[hn]at h4
   exact h4
  have h5:=condW_of h4 (w_not (w_lt w_lit (w_len_list (w_arg rfl))))
  rw[zza]at h5
  refine Nat.le_of_not_lt fun q=>?_
  have q':(n:Int)<((ns.length:Nat):Int):=by omega
  first
   | (rw[decide_eq_true q']at h5;exact absurd h5 (by decide))
   | (simp at h5;omega)
 cases hwl with
 |cons w1 w2 =>
  cases w2
  cases w1 with
  |list ho hall=>exact⟨_,_,ns,rfl,rfl,ho,mE ns _ hall,hlen⟩
theorem xD(l:OpenLaw)(args:List WData):l.row.toRowW.claim.post args (.bool true) args=true :=
 postW_of (r:=l.row.toRowW) (X:=(true == true))
  (show WShape.has [] (.bool true) .bool=true by first|rfl|decide|simp[WShape.has,WShape.arms,WShape.armsAll])
  (show (WTm.eq .res (.lit (.bool true))).value [] { args:=args,res:=some (.bool true),after:=args }=some (.bool (true == true)) from w_eq_bool (w_res rfl) w_lit) rfl
theorem attach_call{l:OpenLaw}{n:Nat}{q:Program}{loose:List Str}{XP:(Str->Option Value)->Heap->Prop}{YP:World->Heap->Prop}{d:DefRec}
  (hn:l.most=some n) (hdf:d.params.defaults=[])
  (call:∀(w:World) (s₀ s₁:Shared) (mg mb:Str->Option Value) (fa:Addr) (o:Obj) (pm cd doc:Value) (a:Addr) (vs:List Value) (ns:List Int),
   Ground q loose [] XP w s₀ mg mb s₁.heap->YP w s₁.heap ->
   s₁.heap.get? fa=some o->o.data=.func (docDef d.name d.params d.body d.scope pm cd doc)->s₁.heap.CodeRec cd d.name->mg d.name=some (.ref fa) ->
   s₁.heap.get? a=some { cls:=.type "list",data:=.seq vs.toArray }->IntsAre vs ns->ns.length <= n->s₁.gens = #[] ->
   codeAny (model l.prog w) callerA (.call (.ref fa) ⟨[.ref a],[]⟩) (fun r s'=>r=.ok (.ret (.bool true))/\OldK s₁.heap s'.heap/\s'.os=s₁.os/\AllBare s'.gens) s₁) :
  WalkO q loose XP YP l.row.toRowW d [] (fun f vs=>PySem.call f vs):=by
 intro w s₀ s₁ mg mb G Y fa o pm cd doc dV kV ho hd hcd hD hmg hg args vals as hpre hlay hrd hwl hlo
 obtain rfl:dV=.none:=Dflts.none hD hdf
 obtain rfl:kV=.none:=Dflts.noKw hD
 obtain⟨a,vs,ns,rfl,rfl,hobj,hints,hlen⟩:=xC hn hpre hwl
 refine enter_call (codeAny_mono (call w s₀ s₁ mg mb fa o pm cd doc a vs ns G Y ho (fd_plain hd) hcd hmg hobj hints hlen hg) fun r s' hq=>?_)
 obtain⟨rfl,h2,h3,h4⟩:=hq
 exact⟨.inl ⟨.bool true,.bool true,[],rfl,fun _=>rfl,.bool true,xD l _,fun _=>⟨List.Pairwise.nil,fun _ hm=>(nomatch hm)⟩⟩,h2,h3,h4⟩
end Att
namespace L2
open PySem PySem.Spec PyProof.Rows
theorem qM:∀{vs:List Value}{ns:List Int},IntsAre vs ns->Vals (ns.map V.int) vs
 |_,_,.nil=>.nil
 |_,_,.cons n t h=>.cons ⟨t,rfl⟩ (qM h)
def Only(H:Hp):Prop:=∀b,H b=none∨∃o xs,H b=some (.frz o (.lst xs))
theorem zV{P:Program}{w:World}{K:PySem.W.Frag}{mg mb:Str->Option Value}{CX:CXT}{k:Nat}{fa a:Addr}{fd:FuncData}{x:Str}{sp:Sp}{s₁:Shared}{vs:List Value}{ns:List Int}
  (KX:K.In s₁.heap) (hns:s₁.heap.Ns mainGlobals mg) (hb:s₁.heap.Ns builtinsNs mb) (hbb:∀x:Str,x ≠ "__name__" -> mb x=bootBuiltins x) (hlim:s₁.heap.NoLimit) (hg:s₁.gens = #[])
  (ha:s₁.heap.get? a=some { cls:=.type "list",data:=.seq vs.toArray }) (hi:IntsAre vs ns) (hl:ns.length <= sizeLine) (hr:Room k callerA)
  (F:∀base:Heap,K.In base->base.Ns mainGlobals mg->FnOk P w K mg base CX k fa fd [x] sp) (hbind:∀(s:Shared) (u:Value),BindsTo s fd ⟨[u],[]⟩ [(x,u)])
  (hsp:∀H:Hp,Only H->SqL K H a (ns.map V.int)->sp [.ref a] H (fun v _=>v=.bl true) fun _ _ _=>False)
  (hCX:∀H e s',CX [] H s₁ (fun _ _ _=>False) e s'->False) :
  codeAny (model P w) callerA (.call (.ref fa) ⟨[.ref a],[]⟩) (fun r s'=>r=.ok (.ret (.bool true))/\OldK s₁.heap s'.heap/\s'.os=s₁.os/\AllBare s'.gens) s₁:=by
 have rv:=qM hi
 have lenV:=hi.length
 -- from an abstract heap in which nothing but the script may be tracked
 have core:∀H:Hp,Only H->SqL K H a (ns.map V.int)->HOk P w H s₁.heap->(∀b,H b≠none->b=a)->(H a≠none->K.lookup a=none) ->
   codeAny (model P w) callerA (.call (.ref fa) ⟨[.ref a],[]⟩) (fun r s'=>r=.ok (.ret (.bool true))/\OldK s₁.heap s'.heap/\s'.os=s₁.os/\AllBare s'.gens) s₁:=by
  intro H hO hS hok hA hK
  have base_of:∀{b:Addr}{o:Obj},s₁.heap.get? b=some o->H b=none->(hidT s₁.heap H).get? b=some o:=fun e n=>zK e n
  have noA:∀{b:Addr}{o:Obj}{es:Array DictEntry}{ep:Nat},s₁.heap.get? b=some o->o.data=.dict es ep->H b=none:=fun {b o es ep} e d=>by
   cases q:H b with
   |none=>rfl
   |some u =>
    have e':b=a:=hA b (by rw[q];simp)
    subst e'
    rw[ha]at e;cases e
    have d':Data.seq vs.toArray _=Data.dict es ep:=d
    cases d'
  have nsK:∀{b:Addr}{m:Str->Option Value},s₁.heap.Ns b m->(hidT s₁.heap H).Ns b m:=fun {b m} ⟨o,es,ep,e,d,r⟩=>⟨o,es,ep,base_of e (noA e d),d,r⟩
  have hKb:K.In (hidT s₁.heap H):=fun b o e=>base_of (KX b o e) (by
   cases q:H b with
   |none=>rfl
   |some u =>
    have e':b=a:=hA b (by rw[q];simp)
    subst e'
    rw[hK (by rw[q];simp)]at e;cases e)
  have hM:Mod K mg (hidT s₁.heap H):=⟨hKb,nsK hns,⟨mb,nsK hb,hbb⟩,let ⟨mc,h1,h2⟩:=hlim;⟨mc,nsK h1,h2⟩⟩
  have e0:Env0 P w K mg (hidT s₁.heap H) callerA [] s₁ H:=⟨rfl,hM,fun b o e=>BW e,Nat.le_of_eq (wX _ _),trivial,fun b hb=>absurd (show b∈([]:List Addr) from hb) (by simp),hok,.of_eq hg⟩
  refine codeAny_mono ((F _ hKb (nsK hns)).run callerA [] s₁ H ⟨[.ref a],[]⟩ [.ref a] [.ref a] _ _ hr e0 (hbind s₁ (.ref a)) (.cons rfl .nil) (hsp H hO hS)) fun r s' h=>?_
  cases r with
  |error e=>exact(hCX H e s' h).elim
  |ok fl =>
   cases fl with
   |next=>exact False.elim h
   |brk=>exact False.elim h
   |cont=>exact False.elim h
   |ret u =>
    obtain⟨v,H',os,bare,un,hok',r',q⟩:=h
    have q':v=.bl true:=q
    subst q'
    obtain rfl:u=Value.bool true:=r'
    refine⟨rfl,OldK.of_keep fun b o e=>?_,os,bare⟩
    cases q:H b with
    |none=>exact un.keep b o e q (by intro z;exact absurd (show b∈([]:List Addr) from z) (by simp)) (by simp)
    |some u =>
     rcases hO b with z|⟨ob,xs,z⟩
     ·rw[q]at z;cases z
     ·have z2:=un.frzs b ob _ z
      obtain⟨e1,_⟩:=hok b _ z
      obtain⟨e2,_⟩:=hok' b _ z2
      rw[e]at e1;cases e1
      exact e2
 cases hk:K.lookup a with
 |some o =>
  -- the script is one of the module's own objects
  have e:=KX a o hk
  rw[ha]at e
  cases e
  refine core (fun _=>none) (fun _=>.inl rfl) (.inr ⟨_,vs.toArray,_,hk,rfl,rfl,rfl,by rw[zzs,lenV];exact hl,by simpa using rv⟩) (fun b u z=>by have z':(none:Option HO)=some u:=z;cases z') (fun b z=>absurd rfl z) fun z=>absurd rfl z
 |none =>
  refine core (fun b=>if b=a then some (.frz { cls:=.type "list",data:=.seq vs.toArray } (.lst (ns.map V.int))) else none) (fun b=>?_) (.inl (.inr ⟨{ cls:=.type "list",data:=.seq vs.toArray },if_pos rfl⟩)) (fun b u z=>?_) (fun b z=>?_) fun _=>hk
  ·by_cases hb:b=a
   ·exact .inr ⟨_,_,if_pos hb⟩
   ·exact .inl (if_neg hb)
  ·by_cases hb:b=a
   ·have z':=(if_pos hb).symm.trans z
    cases z'
    subst hb
    exact⟨ha,by rw[zza];exact hl,vs,_,rv,ha⟩
   ·have z':=(if_neg hb).symm.trans z
    cases z'
  ·by_cases hb:b=a
   ·exact hb
   ·exact absurd (if_neg hb) z
theorem walk_of{l:PySem.W.OpenLaw}{n k:Nat}{q:Program}{loose:List Str}{XP:(Str->Option Value)->Heap->Prop}{YP:World->Heap->Prop}{d:DefRec}{K:Params->PySem.W.Frag}{CX:World->CXT}{sp:World->Sp}{x:Str}
  (hn:l.most=some n) (hn2:n <= sizeLine) (hdf:d.params.defaults=[]) (hr:Room k callerA)
  (hY:∀(w:World) (h:Heap),YP w h->(K w.params).In h)
  (F:∀(w:World) (mg:Str->Option Value) (fa:Addr) (h:Heap),(K w.params).In h->h.Ns mainGlobals mg->mg d.name=some (.ref fa) ->
   ∃fd:FuncData,(∀(s:Shared) (u:Value),BindsTo s fd ⟨[u],[]⟩ [(x,u)]) /\
    ∀base:Heap,(K w.params).In base->base.Ns mainGlobals mg->FnOk l.prog w (K w.params) mg base (CX w) k fa fd [x] (sp w))
  (hsp:∀(w:World) (H:Hp) (a:Addr) (ns:List Int),ns.length <= n->Only H->SqL (K w.params) H a (ns.map V.int)->sp w [.ref a] H (fun v _=>v=.bl true) fun _ _ _=>False)
  (hCX:∀(w:World) (H:Hp) (s:Shared) (e:Value) (s':Shared),CX w [] H s (fun _ _ _=>False) e s'->False) :
  PySem.W.WalkO q loose XP YP l.row.toRowW d [] (fun f vs=>PySem.call f vs):=by
 refine Att.attach_call hn hdf fun w s₀ s₁ mg mb fa o pm cd doc a vs ns G Y ho hd hcd hmg hobj hints hlen hg=>?_
 have KX:=hY w _ Y
 obtain⟨fd,hb,hF⟩:=F w mg fa _ KX G.T.g hmg
 exact zV KX G.T.g G.T.b G.T.builtins G.T.nolimit hg hobj hints (zzk hlen hn2) hr hF hb (fun H hO hS=>hsp w H a ns hlen hO hS) fun H e s'=>hCX w H s₁ e s'
theorem walk_ofK{l:PySem.W.OpenLaw}{n k:Nat}{q:Program}{loose:List Str}{XP:(Str->Option Value)->Heap->Prop}{YP:World->Heap->Prop}{d:DefRec}{K:Params->PySem.W.Frag}{CX:CXT}{sp:PySem.W.Frag->Sp}{x:Str}
  (hn:l.most=some n) (hn2:n <= sizeLine) (hdf:d.params.defaults=[]) (hr:Room k callerA)
  (hY:∀(w:World) (h:Heap),YP w h->(K w.params).In h)
  (F:∀(w:World) (mg:Str->Option Value) (fa:Addr) (h:Heap),(K w.params).In h->h.Ns mainGlobals mg->mg d.name=some (.ref fa) ->
   ∃fd:FuncData,(∀(s:Shared) (u:Value),BindsTo s fd ⟨[u],[]⟩ [(x,u)]) /\
    ∀base:Heap,(K w.params).In base->base.Ns mainGlobals mg->FnOk l.prog w (K w.params) mg base CX k fa fd [x] (sp (K w.params)))
  (hsp:∀(K:PySem.W.Frag) (H:Hp) (a:Addr) (ns:List Int),ns.length <= n->Only H->SqL K H a (ns.map V.int)->sp K [.ref a] H (fun v _=>v=.bl true) fun _ _ _=>False)
  (hCX:∀(H:Hp) (s:Shared) (e:Value) (s':Shared),CX [] H s (fun _ _ _=>False) e s'->False) :
  PySem.W.WalkO q loose XP YP l.row.toRowW d [] (fun f vs=>PySem.call f vs) :=
 walk_of (K:=K) (CX:=fun _=>CX) (sp:=fun w=>sp (K w.params)) hn hn2 hdf hr hY F (fun w H a ns h1 h2 h3=>hsp (K w.params) H a ns h1 h2 h3) fun _ H s e s'=>hCX H s e s'
end L2
/- THE LAST THEOREM (shape; LID,My.* are yours):
  My.Adr: a structure of the addresses that your layer names (classes,functions); My.Txt K t: a structure (Prop) of the equations over K;
  My.txt_mk:{K} {implicit addresses ..} (e1:nsIn K mainGlobals "law" = some (some (.ref f))) (e2:K.lookup f = some ⟨oc,od,.func (fnOf "law" "law" params body scope dV kV doc pm an cdv ct),sl⟩) (e3:codeIn K cdv "law" = true) .. : ∃ t,My.Txt K t
set_option maxRecDepth 100000 in
set_option maxHeartbeats 0 in
theorem PySem.Challenge.cw_LID_holds:PySem.Challenge.rw_LID.Holds:=by
 w_on; o_law; k_head; (case hw=>w_witness2)
 k_fill
 refine L2.walk_of (l:=PySem.Challenge.rw_LID) (n:=63) (k:=40) (x:="script") (CX:=fun w=>..) (sp:=fun _=>My.sp_law) rfl (by decide) rfl ⟨rfl,by decide,by decide⟩ (fun w h Y=>PySem.W.kIn_of Y) ?F ?S ?C
 case F =>
  intro w mg fa h KX G hmg
  have T:∃ t,My.Txt (L2.KOf KX) t:=by
   dsimp only [L2.KOf]                          -- K must stand as «<heap const> w.params» for k_is
   refine' My.txt_mk ?e1 ?e2 ?e3 ..
   (case e1=>PySem.W.k_is)                    -- in the order: a name -> its address -> its object -> its parts
   (case e2=>PySem.W.k_is)
   ..
  obtain ⟨t,T⟩:=T
  have e0:=hmg.symm.trans (PySem.W.mg_of KX G T.law)
  cases e0                                       -- fa is the law's own address
  exact ⟨_,fun s u=>.of_eq rfl,fun base kb nb=>My.law_fn T kb nb⟩     -- if «.of_eq rfl» comes too early: refine' ⟨_,?b,fun base kb nb=>My.law_fn T kb nb⟩; exact fun s u=>.of_eq rfl
 case S=>exact fun w H a ns hl hO hS=>..
 case C=>exact ..
(the tactic k_is has no namespace: write k_is) -/
namespace L2
open PySem PySem.Spec PyProof.Rows
def iy(s:Stmt):Arguments:=match s with
 |.FunctionDef _ a _ _ _ _ _ _ _ _=>a
 |_=>{ posonlyargs:=[],args:=[],vararg:=none,kwonlyargs:=[],kw_defaults:=[],kwarg:=none,defaults:=[] }
def dN(s:Stmt):List Stmt:=match s with
 |.FunctionDef _ _ b _ _ _ _ _ _ _=>b
 |_=>[]
def aj(s:Stmt):Scope:=match s with
 |.FunctionDef _ _ _ _ _ _ sc _ _ _=>sc
 |_=>{ kind:=.function,names:=[],isGenerator:=false,isCoroutine:=false }
abbrev CX0:CXT:=fun _ _ _ _ _ _=>False
abbrev E0:XK:=fun _ _ _=>False
theorem Cp{X:Cx}:xo CX0 X E0:=fun _ _ _ _ _ _ _ h=>h.elim
structure Fun(K:PySem.W.Frag)(x qual:Str)(st:Stmt)(f:Addr)(fd:FuncData):Prop where
 ex:∃(oc:Value) (od:Option Addr) (kV doc pm:Value) (an:Option Addr) (cdv ct:Value) (osl:Array (Option Value)),
  fd=PySem.W.fnOf x qual (iy st) (dN st) (aj st) .none kV doc pm an cdv ct/\K.lookup f=some ⟨oc,od,.func fd,osl⟩/\PySem.W.codeIn K cdv qual=true
 kp:PySem.W.keepIn K (.ref f)=true
section
variable{P:Program}{w:World}{K:PySem.W.Frag}{mg:Str->Option Value}{base:Heap}
theorem Fun.ok{x qual:Str}{st:Stmt}{f:Addr}{fd:FuncData}{N ps:List Str}{k:Nat}{sp:Sp}(F:Fun K x qual st f fd)(S:FnScope N ps (aj st))(len:∀vs H Q E,sp vs H Q E->vs.length=ps.length)
  (hbody:∀(cdv:Value) (A:Around) (outer:List Env) (s:Shared) (H:Hp) (vs:List V) (Q:VK) (E:XK),Room k (A.deeper (envOfC qual (aj st) s.heap.objs.size f cdv))->sp vs H Q E ->
   ∃t,PSs (cxOf CX0 P w K mg base N qual (aj st) f cdv A outer s H E).nox (dN st) t/\t { nx:=fun _ H'=>Q .non H',rt:=Q } (start N vs) H):FnOk P w K mg base CX0 (k+1) f fd ps sp:=by
 obtain⟨oc,od,kV,doc,pm,an,cdv,ct,osl,rfl,lk,hcd⟩:=F.ex
 refine Gq lk hcd S len fun A outer s H vs Q E hr hsp=>?_
 obtain⟨t,h,q⟩:=hbody cdv A outer s H vs Q E hr hsp
 exact⟨t,h.nox,q⟩
theorem Fun.binds{x qual:Str}{st:Stmt}{f:Addr}{fd:FuncData}{ps:List Str}(F:Fun K x qual st f fd)
  (h:∀(kV doc pm:Value) (an:Option Addr) (cdv ct:Value) (us:List Value),us.length=ps.length->bindArgs (PySem.W.fnOf x qual (iy st) (dN st) (aj st) .none kV doc pm an cdv ct) ⟨us,[]⟩=pure (ps.zip us)):Binds K fd ps []:=by
 obtain⟨oc,od,kV,doc,pm,an,cdv,ct,osl,rfl,lk,hcd⟩:=F.ex
 exact .all (h kV doc pm an cdv ct)
theorem EK{x qual:Str}{st:Stmt}{f:Addr}{oc:Value}{od an:Option Addr}{osl:Array (Option Value)}{kV doc pm cdv ct:Value}(l:K.lookup f=some ⟨oc,od,.func (PySem.W.fnOf x qual (iy st) (dN st) (aj st) .none kV doc pm an cdv ct),osl⟩)
  (c:PySem.W.codeIn K cdv qual=true) (k:PySem.W.keepIn K (.ref f)=true):Fun K x qual st f (PySem.W.fnOf x qual (iy st) (dN st) (aj st) .none kV doc pm an cdv ct):=⟨⟨oc,od,kV,doc,pm,an,cdv,ct,osl,rfl,l,c⟩,k⟩
end
section
variable{X:Cx}
theorem pv(i:Nat){x:Str}{pos:Pos}(hN:X.N[i]? = some x:=by rfl)(hv:Vis X.env.scope x:=by first|exact Or.inl rfl|exact Or.inr (Or.inl rfl)|exact Or.inr (Or.inr rfl))(hd:(x == ("__debug__" : Str))=false:=by decide)
  (hcd:(x == ("__classdict__" : Str))=false:=by decide):PE X (.Name x pos) (tVar i):=DV hN hv hd hcd
end
theorem iteF{A B:Prop}(h:B):if false=true then A else B:=by
 rw[if_neg zzo]
 exact h
theorem iteT{A B:Prop}(h:A):if true=true then A else B:=by
 rw[if_pos rfl]
 exact h
theorem ite2{c A B:Prop}[Decidable c](h1:c->A)(h2:¬c->B):if c then A else B:=by
 by_cases h:c
 ·rw[if_pos h]
  exact h1 h
 ·rw[if_neg h]
  exact h2 h
def Same(H H':Hp):Prop:=∀b o,H b=some o->H' b=some o
section
variable{X:Cx}{pos:Pos}
def gLs(K:PySem.W.Frag)(n:Nat)(t:TGs):TG:=fun v σ H Q=>∃a xs,v=.ref a/\SqL K H a xs/\xs.length=n/\t xs σ H Q
theorem Gx{es:List Expr}{k:Nat}{t:TGs}{n:Nat}(hc:X.calm=true)(h:PGs X es t)
  (hn:(assignEach es X.env).length=n:=by rfl) (hst:(assignEach es X.env).findIdx? (·.1)=none:=by rfl):PG X (.Tuple es k pos) (gLs X.K n t):=by
 intro pins s σ H v u Q I r hw
 obtain⟨a,xs,e1,hq,hl,hw⟩:=hw
 subst e1
 cases r
 obtain⟨its,rv,pl,hz⟩:=I.list hq
 rw[assign_Tuple]
 refine wpAny_bind (wpAny_standAt ?_)
 unfold unpack
 rw[show (assignEach es X.env).length=its.toArray.size by simp[hn,←hl,rv.length],hst]
 refine wpAny_bind (wpAny_holding (PySem.W.kun_itemsOf (I.ok.hd hc) pl.isList fun h' hx=>?_))
 have I1:Inv X pins σ H { s with heap:=h' }:=I.kept (t':=s.toks) fun b o e=>hx b o (zzJ (zzr e)) e
 exact h pins _ σ H xs _ Q I1 (by simpa using rv) hw
def knV(H:Hp):V->Prop
 |.non=>True|.bl _=>True|.int _=>True|.str _=>True
 |.ref a=>(∃xs,H a=some (.lst xs))∨(∃o xs,H a=some (.frz o (.lst xs)))∨(∃xs,H a=some (.tup xs))∨(∃kvs,H a=some (.dK kvs))∨(∃kvs,H a=some (.dT kvs))
 |_=>False
def Bg:V->Bool
 |.int _=>true|.bl _=>true|_=>false
def EL:V->Bool
 |.bl _=>true|_=>false
def isTupO:Option HO->Bool
 |some (.tup _)=>true|_=>false
def EM:Option HO->Bool
 |some (.lst _)=>true|some (.frz _ (.lst _))=>true|_=>false
def bz(H:Hp):V->Bool
 |.ref a=>isTupO (H a)|_=>false
def dH(H:Hp):V->Bool
 |.ref a=>EM (H a)|_=>false
theorem bq{K:PySem.W.Frag}{t T:String}{b:Bool}
  (h:(if (Value.type t == Value.type T)=true then some true else if PySem.W.kitMeta T=true then(PySem.fastBuiltinMro t).map (·.contains (.type T)) else none)=some b):PySem.W.kitOne K (.type t) (.type T)=some b:=h
theorem kc{T:String}{f:Hp->V->Bool}
  (hn:∀(H:Hp),PySem.W.kitOne X.K (.type "NoneType") (.type T)=some (f H .non)) (hb:∀(H:Hp) c,PySem.W.kitOne X.K (.type "bool") (.type T)=some (f H (.bl c)))
  (hi:∀(H:Hp) i,PySem.W.kitOne X.K (.type "int") (.type T)=some (f H (.int i))) (hs:∀(H:Hp) x,PySem.W.kitOne X.K (.type "str") (.type T)=some (f H (.str x)))
  (hl:∀(H:Hp) a xs,H a=some (.lst xs)->PySem.W.kitOne X.K (.type "list") (.type T)=some (f H (.ref a)))
  (hf:∀(H:Hp) a o xs,H a=some (.frz o (.lst xs))->PySem.W.kitOne X.K (.type "list") (.type T)=some (f H (.ref a)))
  (ht:∀(H:Hp) a xs,H a=some (.tup xs)->PySem.W.kitOne X.K (.type "tuple") (.type T)=some (f H (.ref a)))
  (hd:∀(H:Hp) a kvs,H a=some (.dK kvs)->PySem.W.kitOne X.K (.type "dict") (.type T)=some (f H (.ref a)))
  (hd':∀(H:Hp) a kvs,H a=some (.dT kvs)->PySem.W.kitOne X.K (.type "dict") (.type T)=some (f H (.ref a))) :
  eV X (.builtin "isinstance") (fun xs H Q=>∃x,xs=[x,.ty T]/\knV H x/\Q (.bl (f H x)) H):=by
 intro pins s σ H xs us Q I r h
 obtain⟨x,rfl,kn,q⟩:=h
 obtain⟨u1,u2,rfl,r1,r2⟩:=Cf r
 cases r2
 have fin:∀t,TyOf X.K H x t->PySem.W.kitOne X.K t (.type T)=some (f H x)->wpAny (model X.prog X.w) X.A (call (.builtin "isinstance") [u1,.type T]) (EP X pins σ Q) X.xe s :=
  fun t ty e=>xl I r1 ty e fun tk=>⟨.bl (f H x),H,I.tok tk,rfl,q⟩
 cases x with
 |non=>exact fin _ .non (hn H)
 |bl c=>exact fin _ (.bl c) (hb H c)
 |int i=>exact fin _ (.int i) (hi H i)
 |str y=>exact fin _ (.str y) (hs H y)
 |ref a =>
  rcases kn with ⟨ys,e⟩|⟨o,ys,e⟩|⟨ys,e⟩|⟨ys,e⟩|⟨ys,e⟩
  ·exact fin _ (.lst e) (hl H a ys e)
  ·exact fin _ (.frz e) (hf H a o ys e)
  ·exact fin _ (.tup e) (ht H a ys e)
  ·exact fin _ (.dK e) (hd H a ys e)
  ·exact fin _ (.dT e) (hd' H a ys e)
 |_=>exact kn.elim
theorem mF{K:PySem.W.Frag}:PySem.W.kitOne K (.type "NoneType") (.type "int")=some false:=bq (by decide +kernel)
theorem sQ{K:PySem.W.Frag}:PySem.W.kitOne K (.type "bool") (.type "int")=some true:=bq (by decide +kernel)
theorem vZ{K:PySem.W.Frag}:PySem.W.kitOne K (.type "int") (.type "int")=some true:=bq (by decide +kernel)
theorem wc{K:PySem.W.Frag}:PySem.W.kitOne K (.type "str") (.type "int")=some false:=bq (by decide +kernel)
theorem mG{K:PySem.W.Frag}:PySem.W.kitOne K (.type "list") (.type "int")=some false:=bq (by decide +kernel)
theorem qN{K:PySem.W.Frag}:PySem.W.kitOne K (.type "tuple") (.type "int")=some false:=bq (by decide +kernel)
theorem mH{K:PySem.W.Frag}:PySem.W.kitOne K (.type "dict") (.type "int")=some false:=bq (by decide +kernel)
theorem lK{K:PySem.W.Frag}:PySem.W.kitOne K (.type "NoneType") (.type "bool")=some false:=bq (by decide +kernel)
theorem qO{K:PySem.W.Frag}:PySem.W.kitOne K (.type "bool") (.type "bool")=some true:=bq (by decide +kernel)
theorem sR{K:PySem.W.Frag}:PySem.W.kitOne K (.type "int") (.type "bool")=some false:=bq (by decide +kernel)
theorem sS{K:PySem.W.Frag}:PySem.W.kitOne K (.type "str") (.type "bool")=some false:=bq (by decide +kernel)
theorem lq{K:PySem.W.Frag}:PySem.W.kitOne K (.type "list") (.type "bool")=some false:=bq (by decide +kernel)
theorem pH{K:PySem.W.Frag}:PySem.W.kitOne K (.type "tuple") (.type "bool")=some false:=bq (by decide +kernel)
theorem lr{K:PySem.W.Frag}:PySem.W.kitOne K (.type "dict") (.type "bool")=some false:=bq (by decide +kernel)
theorem eW{K:PySem.W.Frag}:PySem.W.kitOne K (.type "NoneType") (.type "tuple")=some false:=bq (by decide +kernel)
theorem jq{K:PySem.W.Frag}:PySem.W.kitOne K (.type "bool") (.type "tuple")=some false:=bq (by decide +kernel)
theorem lu{K:PySem.W.Frag}:PySem.W.kitOne K (.type "int") (.type "tuple")=some false:=bq (by decide +kernel)
theorem lw{K:PySem.W.Frag}:PySem.W.kitOne K (.type "str") (.type "tuple")=some false:=bq (by decide +kernel)
theorem dL{K:PySem.W.Frag}:PySem.W.kitOne K (.type "list") (.type "tuple")=some false:=bq (by decide +kernel)
theorem io{K:PySem.W.Frag}:PySem.W.kitOne K (.type "tuple") (.type "tuple")=some true:=bq (by decide +kernel)
theorem dM{K:PySem.W.Frag}:PySem.W.kitOne K (.type "dict") (.type "tuple")=some false:=bq (by decide +kernel)
theorem lL{K:PySem.W.Frag}:PySem.W.kitOne K (.type "NoneType") (.type "list")=some false:=bq (by decide +kernel)
theorem qP{K:PySem.W.Frag}:PySem.W.kitOne K (.type "bool") (.type "list")=some false:=bq (by decide +kernel)
theorem sU{K:PySem.W.Frag}:PySem.W.kitOne K (.type "int") (.type "list")=some false:=bq (by decide +kernel)
theorem sV{K:PySem.W.Frag}:PySem.W.kitOne K (.type "str") (.type "list")=some false:=bq (by decide +kernel)
theorem lx{K:PySem.W.Frag}:PySem.W.kitOne K (.type "list") (.type "list")=some true:=bq (by decide +kernel)
theorem pI{K:PySem.W.Frag}:PySem.W.kitOne K (.type "tuple") (.type "list")=some false:=bq (by decide +kernel)
theorem ly{K:PySem.W.Frag}:PySem.W.kitOne K (.type "dict") (.type "list")=some false:=bq (by decide +kernel)
theorem sX:eV X (.builtin "isinstance") (fun xs H Q=>∃x,xs=[x,.ty "int"]/\knV H x/\Q (.bl (Bg x)) H) :=
 kc (f:=fun _ x=>Bg x) (fun _=>mF) (fun _ _=>sQ) (fun _ _=>vZ) (fun _ _=>wc) (fun _ _ _ _=>mG) (fun _ _ _ _ _=>mG) (fun _ _ _ _=>qN) (fun _ _ _ _=>mH) (fun _ _ _ _=>mH)
theorem qQ:eV X (.builtin "isinstance") (fun xs H Q=>∃x,xs=[x,.ty "bool"]/\knV H x/\Q (.bl (EL x)) H) :=
 kc (f:=fun _ x=>EL x) (fun _=>lK) (fun _ _=>qO) (fun _ _=>sR) (fun _ _=>sS) (fun _ _ _ _=>lq) (fun _ _ _ _ _=>lq) (fun _ _ _ _=>pH) (fun _ _ _ _=>lr) (fun _ _ _ _=>lr)
theorem pJ:eV X (.builtin "isinstance") (fun xs H Q=>∃x,xs=[x,.ty "tuple"]/\knV H x/\Q (.bl (bz H x)) H) :=
 kc (f:=bz) (fun _=>eW) (fun _ _=>jq) (fun _ _=>lu) (fun _ _=>lw) (fun H a xs e=>by simp only[bz,e,isTupO];exact dL) (fun H a o xs e=>by simp only[bz,e,isTupO];exact dL) (fun H a xs e=>by simp only[bz,e,isTupO];exact io) (fun H a xs e=>by simp only[bz,e,isTupO];exact dM) (fun H a xs e=>by simp only[bz,e,isTupO];exact dM)
def Big(i:Int):Prop:=i.natAbs.log2<8000
theorem xE{i:Int}(h:i.natAbs<2^8000):Big i:=by
 unfold Big
 rcases Nat.eq_zero_or_pos i.natAbs with h0|hp
 ·rw[h0];decide
 ·exact(Nat.log2_lt (Nat.ne_of_gt hp)).mpr h
theorem Big.bits{i:Int}(h:Big i):Builtin.Int.intBits i <= 8000:=by
 unfold Builtin.Int.intBits
 unfold Big at h
 split
 ·exact zzH _
 ·omega
def CMulB(i j:Int):Prop:=(-(2^64)<i/\i<2^64)∨(-(2^64)<j/\j<2^64)∨(Big i/\Big j)
theorem CMulB.ok{i j:Int}(h:CMulB i j):IntMulOk i j:=by
 rcases h with ⟨h1,h2⟩|⟨h1,h2⟩|⟨h1,h2⟩
 ·exact .of_left (intBits_le_64 h1 h2)
 ·exact .of_right (intBits_le_64 h1 h2)
 ·have b1:=h1.bits
  have b2:=h2.bits
  unfold IntMulOk
  have:Builtin.Int.intTooBig (Builtin.Int.intBits i+Builtin.Int.intBits j)=false:=by
   unfold Builtin.Int.intTooBig
   refine decide_eq_false ?_
   have e:bitsLine=134217728:=by decide
   rw[e]
   omega
  rw[this]
  simp
theorem kf:OpR X (binaryOp .Mult) (rI CMulB fun i j=>.int (i*j)):=opI fun _ _ _ _ _ _ _ hc q=>mul_int q hc.ok
def EQ(_ j:Int):Prop:=0<j/\Big j
theorem pK:OpR X (binaryOp .FloorDiv) (rI EQ fun i j=>.int (i / j)):=opI fun i j _ _ _ _ _ hc q=>by
 have h1:(0:Int)<j:=hc.1
 exact floordiv_int (by omega) (by rw[Int.fdiv_eq_ediv_of_nonneg i (by omega)];exact q) (.inl (PyProof.noPylong_of_log2 (Nat.lt_trans hc.2 (by decide))))
end
structure Df(K:PySem.W.Frag)(mg:Str->Option Value)(x:Str)(st:Stmt)(ps:List Str)(f:Addr)(fd:FuncData):Prop where
 F:Fun K x x st f fd
 m:mg x=some (.ref f)
 b:Binds K fd ps []
def SBut(p:Addr)(H H':Hp):Prop:=∀b o,b≠p->H b=some o->H' b=some o
theorem SBut.trans{p:Addr}{H H1 H2:Hp}(x:SBut p H H1)(y:SBut p H1 H2):SBut p H H2:=fun b o n e=>y b o n (x b o n e)
theorem SBut.upd{p:Addr}{H:Hp}{o:HO}:SBut p H (upd H p o):=fun b u n e=>by rw[ao n];exact e
theorem uG{q:Addr}{H:Hp}{o:HO}(h:H q=none):Same H (upd H q o):=fun b u e=>by rw[ao (cP e h)];exact e
theorem kg{H:Hp}{p q:Addr}{o u:HO}(h:H p=none)(e:H q=some u):upd H p o q=some u:=by rw[ao (cP e h)];exact e
def Scr(K:PySem.W.Frag)(H:Hp)(a:Addr)(ns:List Int):Prop:=(∃o,H a=some (.frz o (.lst (ns.map V.int))))∨∀H',SqL K H' a (ns.map V.int)
theorem Scr.sq{K:PySem.W.Frag}{H:Hp}{a:Addr}{ns:List Int}(h:Scr K H a ns):SqL K H a (ns.map V.int):=by
 rcases h with ⟨o,h⟩|h
 ·exact .inl (.inr ⟨o,h⟩)
 ·exact h H
theorem ER{K:PySem.W.Frag}{H:Hp}{a:Addr}{ns:List Int}(h1:Only H)(h:SqL K H a (ns.map V.int)):Scr K H a ns:=by
 rcases h with (h|⟨o,h⟩)|h
 ·rcases h1 a with z|⟨o,xs,z⟩
  ·rw[z]at h;cases h
  ·rw[z]at h;cases h
 ·exact .inl ⟨o,h⟩
 ·exact .inr fun H'=>.inr h
structure Pen(K:PySem.W.Frag)(H:Hp)(p a:Addr)(ns:List Int)(t l:Int):Prop where
 lst:H p=some (.lst [.ref a,.int t,.int l])
 scr:Scr K H a ns
 t0:0 <= t
theorem Pen.put{K:PySem.W.Frag}{H:Hp}{p a:Addr}{ns:List Int}{t l t' l':Int}(h:Pen K H p a ns t l)(h0:0 <= t'):Pen K (upd H p (.lst [.ref a,.int t',.int l'])) p a ns t' l':=by
 refine⟨ak,?_,h0⟩
 rcases h.scr with ⟨o,e⟩|e
 ·refine .inl ⟨o,?_⟩
  rw[ao (jl e h.lst (by intro z;cases z))]
  exact e
 ·exact .inr e
theorem Pen.same{K:PySem.W.Frag}{H H':Hp}{p a:Addr}{ns:List Int}{t l:Int}(h:Pen K H p a ns t l)(s:Same H H'):Pen K H' p a ns t l:=by
 refine⟨s _ _ h.lst,?_,h.t0⟩
 rcases h.scr with ⟨o,e⟩|e
 ·exact .inl ⟨o,s _ _ e⟩
 ·exact .inr e
theorem xF{ns:List Int}{i:Int}(h0:0 <= i)(h:i<(ns.length:Int)):atI (ns.map V.int) i=some (.int (ns.getD i.toNat 0)):=by
 obtain⟨j,rfl⟩:=Int.eq_ofNat_of_zero_le h0
 have hj:j<ns.length:=by omega
 refine sL ?_
 simp[zzq,hj]
section
variable{X:Cx}{pos:Pos}
def Gy:R2:=fun x y H Q=>∃p xs i v,x=.ref p/\y=.int i/\H p=some (.tup xs)/\atI xs i=some v/\Q v H
def Gz:R2:=fun x y H Q=>∃p xs i v,x=.ref p/\y=.int i/\H p=some (.lst xs)/\atI xs i=some v/\Q v H
theorem Cq:IxR X Gy:=fun value slice pins s σ H x y v u Q I rx ry ⟨p,xs,i,z,e1,e2,h,e3,q⟩ hs=>Ey value slice pins s σ H x y v u Q I rx ry ⟨p,xs,i,z,e1,e2,SqT.of h,e3,q⟩ hs
theorem uH:IxR X Gz:=fun value slice pins s σ H x y v u Q I rx ry ⟨p,xs,i,z,e1,e2,h,e3,q⟩ hs=>pC value slice pins s σ H x y v u Q I rx ry ⟨p,xs,i,z,e1,e2,SqL.of h,e3,q⟩ hs
def lenO:Option HO->Option Nat
 |some (.lst xs)=>some xs.length|some (.tup xs)=>some xs.length|_=>none
def GA:List V->Hp->VK->Prop:=fun xs H Q=>∃p n,xs=[.ref p]/\lenO (H p)=some n/\Q (.int n) H
theorem xG:eV X (.builtin "len") GA:=by
 intro pins s σ H xs us Q I r h
 obtain⟨p,n,rfl,e,q⟩:=h
 cases o:H p with
 |none=>rw[o]at e;cases e
 |some ob =>
  rw[o]at e
  cases ob with
  |lst ys=>cases e;exact db pins s σ H _ us Q I r ⟨p,ys,rfl,.inl (SqL.of o),q⟩
  |tup ys=>cases e;exact db pins s σ H _ us Q I r ⟨p,ys,rfl,.inr (SqT.of o),q⟩
  |_=>cases e
def gLsH(n:Nat)(t:TGs):TG:=fun v σ H Q=>∃a xs,v=.ref a/\H a=some (.lst xs)/\xs.length=n/\t xs σ H Q
theorem ES{es:List Expr}{k:Nat}{t:TGs}{n:Nat}(hc:X.calm=true)(h:PGs X es t)
  (hn:(assignEach es X.env).length=n:=by rfl) (hst:(assignEach es X.env).findIdx? (·.1)=none:=by rfl):PG X (.Tuple es k pos) (gLsH n t) :=
 fun pins s σ H v u Q I r ⟨a,xs,e1,e2,e3,q⟩=>Gx hc h hn hst pins s σ H v u Q I r ⟨a,xs,e1,SqL.of e2,e3,q⟩
def GB(n:Nat)(t:TGs):TG:=fun v σ H Q=>∃a xs,v=.ref a/\H a=some (.tup xs)/\xs.length=n/\t xs σ H Q
theorem Cr{es:List Expr}{k:Nat}{t:TGs}{n:Nat}(hc:X.calm=true)(h:PGs X es t)
  (hn:(assignEach es X.env).length=n:=by rfl) (hst:(assignEach es X.env).findIdx? (·.1)=none:=by rfl):PG X (.Tuple es k pos) (GB n t) :=
 fun pins s σ H v u Q I r ⟨a,xs,e1,e2,e3,q⟩=>Eg hc h hn hst pins s σ H v u Q I r ⟨a,xs,e1,SqT.of e2,e3,q⟩
end
def xH(K:PySem.W.Frag):Sp:=fun vs H Q _=>∃(p a:Addr) (ns:List Int) (t l m:Int),vs=[.ref p,.int m]/\Pen K H p a ns t l/\1 <= m/\m <= 10^60 /\
 ∀(r t' l':Int) (H':Hp),0 <= r->r<m->Pen K H' p a ns t' l'->SBut p H H'->Q (.int r) H'
def Bh(K:PySem.W.Frag):Sp:=fun vs H Q _=>∃(a:Addr) (ns:List Int),vs=[.ref a]/\Scr K H a ns/\∀(p:Addr) (H':Hp),H p=none->Pen K H' p a ns 0 0->Same H H'->Q (.ref p) H'
theorem pL{x d y:Int}(h0:0<d)(h:d <= 18446744073709551616):CMulB (x % d) y:=by
 have h1:=zyP x (show d≠0 by omega)
 have h2:=zyB x h0
 exact .inl ⟨by omega,by omega⟩
theorem zW{c y:Int}(h : -18446744073709551616<c/\c<18446744073709551616:=by decide):CMulB c y:=.inl h
theorem ET{c y:Int}(h : -18446744073709551616<c/\c<18446744073709551616:=by decide):CMulB y c:=.inr (.inl h)
theorem mpos{c:Int}(h:0<c:=by decide):0<c:=h
theorem xI{c:Int}(h0:0 <= c)(h:c <= 10^60):Big c:=xE (zzz (zzC (show c.natAbs <= 10^60 by omega) (show 10^60<2^200 by decide)) (Nat.pow_le_pow_right (by decide) (by decide)))
theorem mI{c:Int}(h0:0 <= c)(h:c <= 18446744073709551616):Big c:=xE (zzz (zzC (show c.natAbs <= 18446744073709551616 by omega) (show 18446744073709551616<2^65 by decide)) (Nat.pow_le_pow_right (by decide) (by decide)))
def dc(cells:List (Str×Addr)):List (Str×NameKind)->List (Str×Addr)->Option (List (Str×Addr))
 |[],cs=>some cs
 | (n,k)::r,cs=>if k == .free then(match cells.lookup n with
  |some c=>dc cells r ((n,c)::cs)
  |none=>none) else dc cells r cs
theorem jr{scope:Scope}{env:Env}{cl:List (Str×Addr)}(h:dc env.cells scope.names []=some cl):closureFor scope env=pure cl:=by
 simp only[closureFor]
 generalize ([]:List (Str×Addr))=cs at h ⊢
 generalize scope.names=l at h ⊢
 induction l generalizing cs with
 |nil=>cases h;rfl
 |cons a r ih =>
  obtain⟨n,k⟩:=a
  unfold dc at h
  rw[List.forIn_cons]
  by_cases hk:(k == NameKind.free)=true
  ·rw[if_pos hk]at h
   cases e:env.cells.lookup n with
   |none=>rw[e]at h;cases h
   |some c =>
    rw[e]at h
    have:=ih _ h
    simp only[hk,if_true,cellOf,e,pure_bind]
    exact this
  ·rw[if_neg hk]at h
   have:=ih _ h
   simp only[hk,zyr,if_false,pure_bind]
   exact this
theorem kh{cells cl:List (Str×Addr)}:∀{l:List (Str×NameKind)}{cs:List (Str×Addr)},dc cells l cs=some cl->(∀y c,cs.lookup y=some c->cells.lookup y=some c)->∀y c,cl.lookup y=some c->cells.lookup y=some c
 |[],cs,h,hs,y,c,e=>by cases h;exact hs y c e
 | (n,k)::r,cs,h,hs,y,c,e=>by
  unfold dc at h
  by_cases hk:(k == NameKind.free)=true
  ·rw[if_pos hk]at h
   cases q:cells.lookup n with
   |none=>rw[q]at h;cases h
   |some c' =>
    rw[q]at h
    refine kh h (fun z d hz=>?_) y c e
    by_cases hzn:(z == n)=true
    ·rw[zys,hzn]at hz
     cases hz
     rw[eq_of_beq hzn];exact q
    ·rw[zys,(Bool.not_eq_true _).mp hzn]at hz
     exact hs z d hz
  ·rw[if_neg hk]at h
   exact kh h hs y c e
theorem gZ{cells cl:List (Str×Addr)}:∀{l:List (Str×NameKind)}{cs:List (Str×Addr)},dc cells l cs=some cl->∀y,((y,NameKind.free)∈l∨∃c,cs.lookup y=some c)->∃c,cl.lookup y=some c
 |[],cs,h,y,e=>by
  cases h
  rcases e with e|e
  ·simp at e
  ·exact e
 | (n,k)::r,cs,h,y,e=>by
  unfold dc at h
  by_cases hk:(k == NameKind.free)=true
  ·rw[if_pos hk]at h
   cases q:cells.lookup n with
   |none=>rw[q]at h;cases h
   |some c' =>
    rw[q]at h
    refine gZ h y ?_
    rcases e with e|⟨c,e⟩
    ·rcases zzj.mp e with e|e
     ·cases e
      exact .inr ⟨c',by rw[zys,beq_self_eq_true]⟩
     ·exact .inl e
    ·by_cases hyn:(y == n)=true
     ·exact .inr ⟨c',by rw[zys,hyn]⟩
     ·exact .inr ⟨c,by rw[zys,(Bool.not_eq_true _).mp hyn];exact e⟩
  ·rw[if_neg hk]at h
   refine gZ h y ?_
   rcases e with e|e
   ·rcases zzj.mp e with e|e
    ·cases e
     exact absurd rfl hk
    ·exact .inl e
   ·exact .inr e
inductive Cap(X:Cx)(scope:Scope):List Str->List (Option Nat)->Prop where
 |nil:Cap X scope [] []
 |own {x:Str}{N:List Str}{js:List (Option Nat)} (h:Cap X scope N js):Cap X scope (x::N) (none::js)
 |cap {x:Str}{j:Nat}{N:List Str}{js:List (Option Nat)} (h1:X.N[j]? = some x) (h2:X.env.kindOf x=some .cell∨X.env.kindOf x=some .free)
   (h3:scope.names.lookup x=some .free) (h:Cap X scope N js):Cap X scope (x::N) (some j::js)
def sub1(σ:St):Option Nat->Option V
 |none=>none
 |some j=>(σ[j]?).join
def sub(js:List (Option Nat))(σ:St):St:=js.map (sub1 σ)
theorem Cap.len{X:Cx}{scope:Scope}{N:List Str}{js:List (Option Nat)}(h:Cap X scope N js):js.length=N.length:=by induction h<;>simp[*]
theorem Cap.at{X:Cx}{scope:Scope}{N:List Str}{js:List (Option Nat)}(h:Cap X scope N js):∀{i:Nat}{x:Str}{σ:St}{v:V},N[i]? = some x->(sub js σ)[i]? = some (some v) ->
  ∃j:Nat,X.N[j]? = some x/\σ[j]? = some (some v)/\(X.env.kindOf x=some .cell∨X.env.kindOf x=some .free)/\scope.names.lookup x=some .free:=by
 induction h with
 |nil=>intro i x σ v h;simp at h
 |own h ih =>
  intro i x σ v h1 h2
  cases i with
  |zero=>simp[sub,sub1]at h2
  |succ i=>exact ih (by simpa using h1) (by simpa[sub]using h2)
 |@cap x j N js k1 k2 k3 h ih =>
  intro i y σ v h1 h2
  cases i with
  |zero =>
   simp at h1
   subst h1
   simp[sub,sub1]at h2
   refine⟨j,k1,?_,k2,k3⟩
   cases q:σ[j]? with
   |none=>rw[q]at h2;simp at h2
   |some o=>rw[q]at h2;simp at h2;rw[h2]
  |succ i=>exact ih (by simpa using h1) (by simpa[sub]using h2)
def eD(X:Cx)(scope:Scope)(cl:List (Str×Addr))(C:Addr)(N':List Str)(s₃:Shared)(H₃:Hp)(fp:List Addr)(pins:List (Addr×Obj)):Cx :=
 { X with N:=N',s₀:=s₃,H₀:=H₃,env:=compEnvC scope cl C X.env,outer:=X.stack,ex:=fp,fn:=fun y=>scope.names.lookup y == some .cell,pn:=X.pn++pins,xe:=fun _ _=>False }
structure Blk where
 C:Addr
 s3:Shared
 H3:Hp
 fp:List Addr
 pins:List (Addr×Obj)
abbrev cxB(X:Cx)(scope:Scope)(cl:List (Str×Addr))(N':List Str)(B:Blk):Cx:=eD X scope (cellsFrom (B.C+1) scope.names cl) B.C N' B.s3 B.H3 B.fp B.pins
def PTs(X:Cx)(ifs:List Expr)(t:TT):Prop :=
 ∀(pins:List (Addr×Obj)) (s:Shared) (σ:St) (H:Hp) (Q:Bool->Hp->Prop),Inv X pins σ H s->t σ H Q ->
  wpAny (model X.prog X.w) X.A (forIn ifs true fun c r=>if r=true then do let ok ←isTrue c X.env (eval c X.env);pure (ForInStep.yield ok) else pure (ForInStep.yield r)) (TP X pins σ Q) X.xe s
def Cs:TT:=fun _ H Q=>Q true H
theorem Ct{X:Cx}:PTs X [] Cs:=fun _ _ _ H _ I h=>wpAny_tests_nil ⟨H,I,h⟩
theorem Cu{X:Cx}{c:Expr}{t:TT}(h:PT X c t):PTs X [c] t:=fun pins s σ H Q I q=>wpAny_tests_one (h pins s σ H Q I q)
def Cv(wi:TI)(js:List (Option Nat))(g:Blk->TG)(tc:Blk->TT)(te:Blk->TE):TE:=fun σ H Q=>wi σ H fun J H1=>∀(B:Blk) D,H1 D=none->∃W:Nat->Nat->St->Hp->Prop,(∃m,W 0 m (sub js σ) (upd H1 D (.lst [])))/\∀i m σ' H',W i m σ' H' ->
 (J.stop i H'/\Q (.ref D) H')∨(J.go i H'/\∃N:St->Hp->Prop,(∀σ2 H2,N σ2 H2->∃m',m'<m/\W (i+1) m' σ2 H2)/\∀y H2,J.yld i H' y H2->g B y σ' H2 fun σ3 H3=>tc B σ3 H3 fun b H4 =>
  if b=true then te B σ3 H4 fun v H5=>∃ys,H5 D=some (.lst ys)/\ys.length<sizeLine/\N σ3 (upd H5 D (.lst (ys++[v]))) else N σ3 H4)
theorem qR{scope:Scope}{env:Env}{y:Str}(h:(relabel scope env).names.lookup y=some .cell∨(relabel scope env).names.lookup y=some .free):(y,NameKind.free)∈scope.names∨(y,NameKind.cell)∈scope.names:=by
 have key:∀k,(y,k)∈(relabel scope env).names->(k=.cell∨k=.free)->(y,NameKind.free)∈scope.names∨(y,NameKind.cell)∈scope.names:=by
  intro k hm hk
  obtain⟨⟨n,q⟩,hn,e⟩:=zze.mp hm
  dsimp only at e
  split at e
  ·rename_i c
   simp only[zzT]at c
   have:q=.free:=eq_of_beq c.1.1
   subst this
   cases e
   exact .inl hn
  ·cases e
   rcases hk with rfl|rfl
   ·exact .inr hn
   ·exact .inl hn
 rcases h with h|h
 ·exact key _ (zzS h) (.inl rfl)
 ·exact key _ (zzS h) (.inr rfl)
theorem mJ{scope:Scope}{env:Env}{y:Str}(h:scope.names.lookup y=some .free):(relabel scope env).names.lookup y=some .cell∨(relabel scope env).names.lookup y=some .free:=by
 show (List.lookup y (scope.names.map _))=_∨(List.lookup y (scope.names.map _))=_
 generalize scope.names=l at h
 induction l with
 |nil=>simp at h
 |cons a r ih =>
  obtain⟨n,k⟩:=a
  rw[zys]at h
  rw[zzc]
  cases e:y == n with
  |true =>
   rw[e]at h
   cases h
   dsimp only
   split
   ·left;rw[zys,e]
   ·right;rw[zys,e]
  |false =>
   rw[e]at h
   dsimp only
   split<;>(rw[zys,e];exact ih h)
theorem bW:∀(names:List (Str×NameKind)) (n:Nat) (acc:List (Str×Addr)),cellsFrom n names acc=cellsFrom n names []++acc
 |[],_,_=>rfl
 | (x,k)::r,n,acc=>by
  unfold cellsFrom
  split
  ·rw[bW r (n+1) ((x,n)::acc),bW r (n+1) [(x,n)],zym];rfl
  ·exact bW r n acc
theorem eO:∀(names:List (Str×NameKind)) (n:Nat) (y:Str) (c:Addr),(y,c)∈cellsFrom n names []->(y,NameKind.cell)∈names
 |[],_,_,_,h=>(nomatch h)
 | (x,k)::r,n,y,c,h=>by
  unfold cellsFrom at h
  split at h
  ·rename_i hk
   rw[bW]at h
   rcases zzw.mp h with h|h
   ·exact zzb _ (eO r _ y c h)
   ·have e:=zzx.mp h
    cases e
    rw[show k=.cell from eq_of_beq hk]
    exact zzd
  ·exact zzb _ (eO r _ y c h)
theorem jt:∀{l:List (Str×Addr)}{y:Str}{c:Addr},(y,c)∈l->∃d,l.lookup y=some d
 | (x,k)::r,y,c,h=>by
  rw[zys]
  cases e:y == x with
  |true=>exact⟨_,rfl⟩
  |false =>
   rcases zzj.mp h with h|h
   ·cases h;simp at e
   ·exact jt h
theorem fu:∀(names:List (Str×NameKind)) (n:Nat) (y:Str),(y,NameKind.cell)∈names->∃c,(y,c)∈cellsFrom n names []
 | (x,k)::r,n,y,h=>by
  unfold cellsFrom
  split
  ·rw[bW]
   rcases zzj.mp h with h|h
   ·cases h
    exact⟨n,zzV _ (zzx.mpr rfl)⟩
   ·obtain⟨c,q⟩:=fu r (n+1) y h
    exact⟨c,List.mem_append_left _ q⟩
  ·rename_i hk
   rcases zzj.mp h with h|h
   ·cases h;exact absurd rfl hk
   ·exact fu r n y h
theorem eX{l r:List (Str×Addr)}{y:Str}{c:Addr}(h:(l++r).lookup y=some c):l.lookup y=some c∨(l.lookup y=none/\r.lookup y=some c):=by
 rw[List.lookup_append]at h
 cases e:l.lookup y with
 |none=>rw[e]at h;exact .inr ⟨rfl,h⟩
 |some d=>rw[e]at h;exact .inl h
theorem mK{l r:List (Str×Addr)}{y:Str}{c:Addr}(h:l.lookup y=some c):(l++r).lookup y=some c:=by rw[List.lookup_append,h];rfl
theorem mL{l r:List (Str×Addr)}{y:Str}(h:l.lookup y=none):(l++r).lookup y=r.lookup y:=by rw[List.lookup_append,h];rfl
theorem lM{M:Model}{A:Around}{E:Value->Shared->Prop}{s:Shared}{scope:Scope}{globals:Addr}{cl:List (Str×Addr)}{qual:Str}{outer:Env}{Q:Env->Shared->Prop}
  (h:∀h₁:Heap,h₁.Ns s.heap.objs.size (fun _=>none)->(∀b o,s.heap.get? b=some o->h₁.get? b=some o)->CellsOk h₁ (s.heap.objs.size+1) (cellsFrom (s.heap.objs.size+1) scope.names []) ->
   Q (newEnv scope s.heap.objs.size globals (cellsFrom (s.heap.objs.size+1) scope.names cl) qual none .none (some outer) builtinsNs) { s with heap:=h₁ }) :
  wpAny M A (newFunctionEnv scope globals cl [] qual none .none (some outer)) Q E s:=by
 simp only[newFunctionEnv,Option.isSome_some,if_true]
 refine wpAny_bind (wpAny_alloc ?_)
 refine wpAny_bind (wpAny_layCells _ (fun name kind cells=>by cases hkc:kind == NameKind.cell<;>simp[hkc]) _ _ _ _ ?_)
 have ok:=cellsFrom_ok scope.names (s.heap.push { cls:=.type "dict",data:=.dict #[] }) (s.heap.objs.size+1) [] ⟨fun _ _ hm=>(nomatch hm),List.Pairwise.nil⟩ (by rw[zyg];exact zzh _)
 rw[zyg]at ok
 rw[show ({ s with heap:=s.heap.push { cls:=.type "dict",data:=.dict #[] } }:Shared).heap.objs.size=s.heap.objs.size+1 from zyg ..]
 rw[List.forIn_nil]
 exact wpAny_bind (wpAny_pure (wpAny_pure (h _ ((Heap.Ns.new s.heap (.type "dict")).keeps (pushCells_keeps _ _)) (fun b o e=>pushCells_keeps _ _ b o (zzf _ e)) ok)))
section
variable{X:Cx}{pins:List (Addr×Obj)}{σ:St}{H:Hp}{s:Shared}{scope:Scope}{cl:List (Str×Addr)}{N':List Str}{js:List (Option Nat)}
theorem zX{fp:List Addr}{h₁:Heap}(I:Inv X pins σ H s)(hclo:dc X.env.cells scope.names []=some cl)(hdis:∀y∈scope.names,y.2=.free->(y.1,NameKind.cell)∉scope.names)(hkind:scope.kind=.function)(cap:Cap X scope N' js)
  (hf:∀b∈fp,FpOk X pins H b) (ho:∀b∈fp,∃o,s.heap.get? b=some o)
  (hns:h₁.Ns s.heap.objs.size (fun _=>none)) (hk:∀b o,s.heap.get? b=some o->h₁.get? b=some o) (cok:CellsOk h₁ (s.heap.objs.size+1) (cellsFrom (s.heap.objs.size+1) scope.names [])) {t':Nat} :
  Inv (eD X scope (cellsFrom (s.heap.objs.size+1) scope.names cl) s.heap.objs.size N' s H fp pins) [] (sub js σ) H { s with heap:=h₁,toks:=t' }:=by
 have sb:=kh hclo (fun y c e=>by simp at e)
 rw[bW]
 generalize hnw:cellsFrom (s.heap.objs.size+1) scope.names []=nw at cok ⊢
 have nk:∀y c,(y,c)∈nw->(y,NameKind.cell)∈scope.names:=fun y c h=>by rw[←hnw]at h;exact eO _ _ y c h
 have nh:∀y,(y,NameKind.cell)∈scope.names->∃c,nw.lookup y=some c:=fun y h=>by
  obtain⟨c,q⟩:=fu scope.names (s.heap.objs.size+1) y h
  rw[hnw]at q
  exact jt q
 have ng:∀y c,nw.lookup y=some c->h₁.IsCell c none/\s.heap.objs.size+1 <= c:=fun y c h=>cok.empty y c (zzS h)
 have old:∀y c,cl.lookup y=some c->c<s.heap.objs.size:=fun y c h=>by
  obtain⟨v,o,q1,q2⟩:=I.cell y c (sb y c h)
  exact zzr q1
 have nf:∀y,(y,NameKind.free)∈scope.names->nw.lookup y=none:=fun y h=>by
  cases e:nw.lookup y with
  |none=>rfl
  |some c=>exact absurd (nk y c (zzS e)) (hdis _ h rfl)
 refine⟨⟨I.ok.mod,hkind,I.ok.glob,I.ok.blt,zzh _,fun y z c h1 h2=>?_,fun y hy=>?_,fun y c z h=>?_,I.ok.hd,I.ok.frames,.inl rfl,fun b hb=>⟨?_,fun y c h=>?_⟩,I.bs,zzk I.ok.bsz I.sz,fun b o e hb=>?_,fun b hb=>?_,I.stack,I.stkFree⟩,
  rfl,I.bare,Un.kept hk,⟨_,hns,fun i y v h1 h2 h3=>?_⟩,fun y c h=>?_,I.hok.fresh (zzh _),fun y c h=>?_,fun p hp=>?_,I.hok.kept hk,?_⟩
 ·rcases eX h1 with a|⟨_,a⟩<;>rcases eX h2 with b|⟨_,b⟩
  ·exact name_of_addr cok.apart (zzS a) (zzS b)
  ·exact absurd (zzz (old z c b) (Nat.le_of_succ_le (ng y c a).2)) (zyn _)
  ·exact absurd (zzz (old y c a) (Nat.le_of_succ_le (ng z c b).2)) (zyn _)
  ·exact I.ok.inj y z c (sb y c a) (sb z c b)
 ·show ∃c,(nw++cl).lookup y=some c
  rcases qR hy with q|q
  ·obtain⟨c,e⟩:=gZ hclo y (.inl q)
   exact⟨c,by rw[mL (nf y q)];exact e⟩
  ·obtain⟨c,e⟩:=nh y q
   exact⟨c,mK e⟩
 ·have z:(y,NameKind.cell)∈scope.names:=zzS (eq_of_beq z)
  obtain⟨d,e⟩:=nh y z
  have h:(nw++cl).lookup y=some c:=h
  rw[mK e]at h
  have h:d=c:=zyh h
  rw[←h]
  exact Nat.le_of_succ_le (ng y d e).2
 ·obtain⟨o,e⟩:=ho b hb
  exact zzJ (zzr e)
 ·rcases eX h with a|⟨_,a⟩
  ·obtain⟨o,e⟩:=ho b hb
   rintro rfl
   exact absurd (zzz (zzr e) (Nat.le_of_succ_le (ng y c a).2)) (zyn _)
  ·exact(hf b hb).2.2.2.2.1 y c (sb y c a)
 ·have fb:=hf b hb
  rcases fb.2.2.2.1 with z|z
  ·exact I.ok.noex b o e z
  ·have h1:b<X.base.objs.size:=zzr e
   exact absurd (zzz h1 (zzk I.ok.bsz z)) (zyn _)
 ·intro z
  have:=I.stkSub b z
  rcases zzj.mp this with z|z
  ·exact(hf b hb).2.1 z
  ·exact(hf b hb).2.2.1 z
 ·obtain⟨j,k1,k2,k3,k4⟩:=cap.at h1 h2
  obtain⟨m,hm,hl⟩:=I.loc
  have vis:Vis X.env.scope y:=by
   rcases k3 with k|k
   ·exact .inr (.inl k)
   ·exact .inr (.inr k)
  obtain⟨u,r,lk⟩:=hl j y v k1 k2 vis
  refine⟨u,r,.inr ⟨mJ k4,?_⟩⟩
  have q4:(y,NameKind.free)∈scope.names:=zzS k4
  rcases lk with ⟨k5,_⟩|⟨_,c,e1,e2⟩
  ·rcases k3 with k|k<;>(rw[k]at k5;cases k5)
  ·obtain⟨c',e3⟩:=gZ hclo y (.inl q4)
   have:=sb y c' e3
   rw[e1]at this
   cases this
   refine⟨c,by show (nw++cl).lookup y=some c;rw[mL (nf y q4)];exact e3,?_⟩
   obtain⟨o,q1,q2⟩:=e2
   exact⟨o,hk _ _ q1,q2⟩
 ·rcases eX h with a|⟨_,a⟩
  ·exact⟨_,(ng y c a).1⟩
  ·obtain⟨v,o,q1,q2⟩:=I.cell y c (sb y c a)
   exact⟨v,o,hk _ _ q1,q2⟩
 ·rcases eX h with a|⟨_,a⟩
  ·exact I.hok.fresh (Nat.le_of_succ_le (ng y c a).2)
  ·exact I.freeC y c (sb y c a)
 ·have hp:p∈X.pn++pins:=by simpa[eD]using hp
  obtain⟨q1,q2,q3,q4,q5⟩:=I.pin p hp
  refine⟨hk _ _ q1,q2,zzJ (zzr q1),fun z=>?_,q5⟩
  have:=I.stkSub p.1 z
  rcases zzj.mp this with z|z
  ·exact q3 z
  ·exact q4 z
 ·simp[sub,cap.len];rfl
theorem EU{fs ex:List Addr}{H:Hp}{h h':Heap}{C:Addr}(hC:C∈ex)(hs:Heap.SameBut C h h'):Un fs ex H H h h' where
 keep:=fun b o e _ _ nx=>by rw[hs.2 b (by rintro rfl;exact nx hC)];exact e
 slot:=fun b o e _ _ nx=>⟨o.slots,by rw[hs.2 b (by rintro rfl;exact nx hC)];exact e⟩
 free:=fun b o _ n _=>n
 there:=fun b o e nx=>⟨o,by rw[hs.2 b (by rintro rfl;exact nx hC)];exact e⟩
 tups:=fun _ _ h=>h
 frzs:=fun _ _ _ h=>h
 tbls:=fun b ps h=>⟨#[],by simpa using h⟩
theorem Inv.but{C:Addr}{h':Heap}(I:Inv X pins σ H s)(f:FpOk X pins H C)(hs:Heap.SameBut C s.heap h'):Inv X pins σ H { s with heap:=h' }:=by
 refine I.call' (s':={ s with heap:=h' }) (ch:=[C]) rfl (EU zzd hs) ?_ I.bare (fun b hb=>?_)
 ·intro a o e
  refine ObjOk.stay (I.hok a o e) (fun b u hb q=>?_) (fun _ h=>h) (fun _ _ h=>h)
  show h'.get? b=some u
  rw[hs.2 b]
  ·exact q
  ·rintro rfl
   rcases hb with rfl|hb
   ·rw[f.1]at e;cases e
   ·rw[f.1]at hb;cases hb
 ·have:b=C:=by simpa using hb
  subst this
  exact⟨f.2.2.2.1,f.2.1,f.2.2.2.2.1,f.2.2.2.2.2⟩
variable{elt iter:Expr}{x:Str}{pos:Pos}{ifs:List Expr}{wi:TI}{g:TG}{tc:TT}{te:TE}{Q:VK}{gB:Blk->TG}{tcB:Blk->TT}{teB:Blk->TE}
theorem xJ{prog:Program}{w:World}{A:Around}{R:Result->Shared->Prop}{e tg it0:Expr}{cs:List Expr}{sc:Scope}{ps:Pos}{itv av:Value}{cenv:Env}{z:Shared}(J:Nat->Shared->Prop)
  (turn:∀k z,J k z->wpAny (model prog w) A (pyNext itv) (fun r z1=>match r with
   |none=>R (.ok .next) z1
   |some u=>wpAny (model prog w) A (letOwnedTupleGo tg itv u) (fun _ z2=>wpAny (model prog w) A (assign tg cenv u) (fun _ z3 =>
     wpAny (model prog w) A (forIn cs true fun c r=>if r=true then do let ok ←isTrue c cenv (eval c cenv);pure (ForInStep.yield ok) else pure (ForInStep.yield r)) (fun b z4 =>
      if b=true then wpAny (model prog w) A (eval e cenv) (fun y z5 =>
       wpAny (model prog w) A (call (.builtin "list.append") [av,y]) (fun _ z6=>∃m,m<k/\J m z6) (fun _ _=>False) z5) (fun _ _=>False) z4
      else ∃m,m<k/\J m z4) (fun _ _=>False) z3) (fun _ _=>False) z2) (fun _ _=>False) z1) (fun _ _=>False) z)
  (k:Nat) (h:J k z):codeAny (model prog w) A (.compLoop (.ListComp e [⟨tg,it0,cs,0⟩] sc ps) 0 itv av cenv) R z:=by
 have no:∀{α:Type}{m:Sem α}{P:α->Shared->Prop}{E:Value->Shared->Prop}{z:Shared},wpAny (model prog w) A m P (fun _ _=>False) z->wpAny (model prog w) A m P E z:=fun h=>wpAny_mono h (fun _ _ q=>q) fun _ _ q=>q.elim
 refine codeAny_loop rfl J (fun k z hJ=>?_) k h
 show wpAny _ A ((compTurn (.ListComp e [⟨tg,it0,cs,0⟩] sc ps) 0 itv av cenv).onRaise (fun x=>do noteFrame x cenv;theTreesLotGoes x)) _ _ z
 refine wpAny_noted ?_
 rw[compTurn_list]
 refine wpAny_bind (wpAny_standAt (wpAny_bind (no (thn (turn k z hJ) fun r z1 q1=>?_))))
 cases r with
 |none=>exact wpAny_pure q1
 |some u =>
  refine wpAny_bind (no (thn q1 fun _ z2 q2=>wpAny_bind (no (thn q2 fun _ z3 q3=>wpAny_bind (no (thn q3 fun b z4 q4=>?_))))))
  cases b with
  |false=>exact wpAny_pure ⟨rfl,q4⟩
  |true=>exact wpAny_bind (wpAny_bind (no (thn q4 fun y z5 q5=>wpAny_bind (no (thn q5 fun _ z6 q6=>wpAny_pure (wpAny_pure ⟨rfl,q6⟩))))))
theorem wd{RR:Value->Addr->Result->Shared->Prop}{s3:Shared}{H3:Hp}{D it:Addr}{fp:List Addr}{tn:Nat->Heap->Prop}{J:It}{W:Nat->Nat->St->Hp->Prop}{m0 t':Nat}{h₁:Heap}{tg:Expr}
  (hc:X.calm=true) (hclo:dc X.env.cells scope.names []=some cl) (hdis:∀y∈scope.names,y.2=.free->(y.1,NameKind.cell)∉scope.names) (hkind:scope.kind=.function) (cap:Cap X scope N' js)
  (hb:PG (eD X scope (cellsFrom (s3.heap.objs.size+1) scope.names cl) s3.heap.objs.size N' s3 H3 fp pins) tg g/\PTs (eD X scope (cellsFrom (s3.heap.objs.size+1) scope.names cl) s3.heap.objs.size N' s3 H3 fp pins) ifs tc/\PE (eD X scope (cellsFrom (s3.heap.objs.size+1) scope.names cl) s3.heap.objs.size N' s3 H3 fp pins) elt te)
  (I3:Inv X pins σ H3 s3) (T:Turn X.prog X.w X.K tg J fp it tn) (st3:tn 0 s3.heap) (f3:∀b∈fp,FpOk X pins H3 b) (w0:W 0 m0 (sub js σ) H3)
  (turn:∀i m σ' H',W i m σ' H'->(J.stop i H'/\Q (.ref D) H')∨(J.go i H'/\∃N:St->Hp->Prop,(∀σ2 H2,N σ2 H2->∃m',m'<m/\W (i+1) m' σ2 H2)/\∀y H2,J.yld i H' y H2->g y σ' H2 fun σ3 H3=>tc σ3 H3 fun b H4 =>
   if b=true then te σ3 H4 fun v H5=>∃ys,H5 D=some (.lst ys)/\ys.length<sizeLine/\N σ3 (upd H5 D (.lst (ys++[v]))) else N σ3 H4))
  (hns:h₁.Ns s3.heap.objs.size (fun _=>none)) (hk:∀b o,s3.heap.get? b=some o->h₁.get? b=some o) (cok:CellsOk h₁ (s3.heap.objs.size+1) (cellsFrom (s3.heap.objs.size+1) scope.names []))
  (hR:∀s' H' m,Inv X pins σ H' s'->FpOk X pins H' s3.heap.objs.size->s'.heap.Ns s3.heap.objs.size m->Q (.ref D) H'->RR (.ref D) s3.heap.objs.size (.ok .next) s') :
  codeAny (model X.prog X.w) X.A (.compStart (.ListComp elt [⟨tg,iter,ifs,0⟩] scope pos) 0 (.ref it) (.ref D) (compEnvC scope (cellsFrom (s3.heap.objs.size+1) scope.names cl) s3.heap.objs.size X.env)) (RR (.ref D) s3.heap.objs.size) { s3 with heap:=h₁,toks:=t' }:=by
 have ob3:∀b∈fp,∃o,s3.heap.get? b=some o:=fun b hb=>let ⟨o,e,_⟩:=T.obj _ _ st3 b hb;⟨o,e⟩
 have I0:Inv (eD X scope (cellsFrom (s3.heap.objs.size+1) scope.names cl) s3.heap.objs.size N' s3 H3 fp pins) [] (sub js σ) H3 { s3 with heap:=h₁,toks:=t' }:=zX I3 hclo hdis hkind cap f3 ob3 hns hk cok
 have tn0:tn 0 h₁:=T.keep _ _ _ st3 fun b _ o e=>hk b o e
 have hC:FpOk X pins H3 s3.heap.objs.size:=I3.fpOk (zzh _) (I3.hok.fresh (zzh _))
 obtain⟨bg,bt,be⟩:=hb
 have stat:∀{H':Hp},(∀b∈fp,H' b=none)->∀b∈fp,FpOk (eD X scope (cellsFrom (s3.heap.objs.size+1) scope.names cl) s3.heap.objs.size N' s3 H3 fp pins) [] H' b:=fun {H'} hn b hb=>by
  obtain⟨o,e⟩:=ob3 b hb
  refine⟨hn b hb,zzJ (zzr e),I0.ok.exfs b hb,.inl hb,fun y c h=>(I0.ok.exf b hb).2 y c h,fun p hp=>?_⟩
  exact(f3 b hb).2.2.2.2.2 p (by simpa[eD]using hp)
 have loop:codeAny (model X.prog X.w) X.A (.compLoop (.ListComp elt [⟨tg,iter,ifs,0⟩] scope pos) 0 (.ref it) (.ref D) (compEnvC scope (cellsFrom (s3.heap.objs.size+1) scope.names cl) s3.heap.objs.size X.env)) (RR (.ref D) s3.heap.objs.size) { s3 with heap:=h₁,toks:=t' }:=by
  refine xJ (fun n s'=>∃i σ' H',Inv (eD X scope (cellsFrom (s3.heap.objs.size+1) scope.names cl) s3.heap.objs.size N' s3 H3 fp pins) [] σ' H' s'/\tn i s'.heap/\(∀b∈fp,H' b=none)/\W i n σ' H') (fun n s4 hJ=>?_) m0 ⟨0,sub js σ,H3,I0,tn0,fun b hb=>(f3 b hb).1,w0⟩
  obtain⟨i,σ4,H4,I4,st4,fr4,w4⟩:=hJ
  rcases turn i n σ4 H4 w4 with ⟨stop,q⟩|⟨go,N,hN,step⟩
  ·refine thn (T.done (eD X scope (cellsFrom (s3.heap.objs.size+1) scope.names cl) s3.heap.objs.size N' s3 H3 fp pins) rfl rfl rfl hc i [] s4 σ4 H4 _ I4 (stat fr4) st4 stop) fun r s5 ⟨hr,I5⟩=>?_
   subst hr
   have u:Un (frs X.stack) fp H3 H4 s3.heap s5.heap:=I5.base
   have free:H4 s3.heap.objs.size=none:=I5.free
   have back:Inv X pins σ H4 s5:=by
    refine I3.call' (s':=s5) (ch:=s3.heap.objs.size::fp) I5.os (u.mono (fun _ h=>h) fun b h=>zzb _ h) I5.hok I5.bare (fun b hb=>?_)
    rcases zzj.mp hb with rfl|hb
    ·exact⟨hC.2.2.2.1,hC.2.1,hC.2.2.2.2.1,hC.2.2.2.2.2⟩
    ·have:=f3 b hb
     exact⟨this.2.2.2.1,this.2.1,this.2.2.2.2.1,this.2.2.2.2.2⟩
   obtain⟨m,hm,_⟩:=I5.loc
   exact hR s5 H4 m back ⟨free,hC.2⟩ hm q
  ·refine thn (T.item (eD X scope (cellsFrom (s3.heap.objs.size+1) scope.names cl) s3.heap.objs.size N' s3 H3 fp pins) rfl rfl rfl hc i [] s4 σ4 H4 _ I4 (stat fr4) st4 go) fun r s5 ⟨u,hr,h5⟩=>?_
   subst hr
   refine thn h5 fun _ s6 ⟨y,H6,I6,r6,y6,st6,fr6⟩=>?_
   have I6':=I6.pinned (stat fr6) (T.obj _ _ st6)
   refine thn (bg _ s6 σ4 H6 y u _ I6' r6 (step y H6 y6)) fun _ s7 ⟨σ7,H7,I7,q7⟩=>?_
   refine thn (bt _ s7 σ7 H7 _ I7 q7) fun b s8 ⟨H8,I8,q8⟩=>?_
   have again:∀{H':Hp}{s':Shared},Inv (eD X scope (cellsFrom (s3.heap.objs.size+1) scope.names cl) s3.heap.objs.size N' s3 H3 fp pins) ([]++qA fp s6.heap) σ7 H' s'->N σ7 H'->∃m,m<n/\∃i σ' H',Inv (eD X scope (cellsFrom (s3.heap.objs.size+1) scope.names cl) s3.heap.objs.size N' s3 H3 fp pins) [] σ' H' s'/\tn i s'.heap/\(∀b∈fp,H' b=none)/\W i m σ' H':=fun {H' s'} I9 n9=>by
    obtain⟨m',hm,w9⟩:=hN σ7 H' n9
    refine⟨m',hm,i+1,σ7,H',I9.unpinned,T.keep _ _ _ st6 fun b hb o e=>(I9.pin (b,o) (zzV _ (zzV _ (gX hb e)))).1,fun b hb=>?_,w9⟩
    obtain⟨o,e,d⟩:=T.obj _ _ st6 b hb
    exact(I9.pin (b,o) (zzV _ (zzV _ (gX hb e)))).2.1
   cases b with
   |false=>exact iteF (again I8 q8)
   |true =>
    refine iteT (thn (be _ s8 σ7 H8 _ I8 q8) fun yv s9 ⟨v9,H9,I9,r9,ys,hD,hl,n9⟩=>?_)
    exact thn (jp _ s9 σ7 H9 (.ref D) [v9] (.ref D) [yv] (fun _ H'=>H'=upd H9 D (.lst (ys++[v9]))) I9 rfl (.cons r9 .nil) ⟨D,ys,v9,rfl,rfl,hD,hl,rfl⟩) fun _ s10 ⟨_,H10,I10,_,e10⟩=>by
     subst e10
     exact again I10 n9
 exact codeAny_compStart_list loop (T.self _ 0 _ _ _ tn0 loop)
theorem uI{RR:Value->Addr->Result->Shared->Prop}{tg:Expr}(hc:X.calm=true)(hclo:dc X.env.cells scope.names []=some cl)(hdis:∀y∈scope.names,y.2=.free->(y.1,NameKind.cell)∉scope.names)(hkind:scope.kind=.function)(cap:Cap X scope N' js)
  (hi:PI X tg iter wi)
  (hb:∀B:Blk,PG (cxB X scope cl N' B) tg (gB B)/\PTs (cxB X scope cl N' B) ifs (tcB B)/\PE (cxB X scope cl N' B) elt (teB B))
  (I:Inv X pins σ H s) (h:Cv wi js gB tcB teB σ H Q)
  (hR:∀D C s' H' m,Inv X pins σ H' s'->FpOk X pins H' C->s'.heap.Ns C m->Q (.ref D) H'->RR (.ref D) C (.ok .next) s') :
  wpAny (model X.prog X.w) X.A (eval iter X.env) (fun v s1=>wpAny (model X.prog X.w) X.A (pyIter v) (fun it s2=>wpAny (model X.prog X.w) X.A (newList []) (fun acc s3 =>
   wpAny (model X.prog X.w) X.A (newFunctionEnv scope X.env.globals cl [] X.env.qual none .none (some X.env)) (fun cenv s4 =>
    codeAny (model X.prog X.w) X.A (.compStart (.ListComp elt [⟨tg,iter,ifs,0⟩] scope pos) 0 it acc { cenv with scope:=relabel scope X.env }) (RR acc cenv.locals) s4) X.xe s3) X.xe s2) X.xe s1) X.xe s:=by
 refine thn (hi pins s σ H _ I h) fun v s1 h1=>thn h1 fun itv s2 h2=>?_
 obtain⟨it,fp,tn,J,H2,e,I2,T,st2,f2,h2⟩:=h2
 subst e
 have hD0:H2 s2.heap.objs.size=none:=I2.hok.fresh (zzh _)
 obtain⟨W,⟨m0,w0⟩,turn⟩:=h2 ⟨(s2.heap.push { cls:=.type "list",data:=.seq ([]:List Value).toArray }).objs.size,{ s2 with heap:=s2.heap.push { cls:=.type "list",data:=.seq ([]:List Value).toArray } },upd H2 s2.heap.objs.size (.lst []),fp,pins⟩ s2.heap.objs.size hD0
 refine wpAny_newObj_type (lM (fun h₁ hns₁ hk₁ cok₁=>?_))
 have I3:Inv X pins σ (upd H2 s2.heap.objs.size (.lst [])) { s2 with heap:=s2.heap.push { cls:=.type "list",data:=.seq ([]:List Value).toArray } }:=I2.lnew .nil (zzH _)
 refine wd (s3:={ s2 with heap:=s2.heap.push { cls:=.type "list",data:=.seq ([]:List Value).toArray } }) (cl:=cl) (fp:=fp) hc hclo hdis hkind cap (hb ⟨(s2.heap.push { cls:=.type "list",data:=.seq ([]:List Value).toArray }).objs.size,{ s2 with heap:=s2.heap.push { cls:=.type "list",data:=.seq ([]:List Value).toArray } },upd H2 s2.heap.objs.size (.lst []),fp,pins⟩) I3 T ?_ (fun b hb=>?_) w0 turn hns₁ hk₁ cok₁ (fun s' H' m=>hR _ _ s' H' m)
 ·exact T.keep _ _ _ st2 fun b _ o e=>zzf _ e
 ·have:=f2 b hb
  obtain⟨o,e,_⟩:=T.obj _ _ st2 b hb
  exact⟨by show upd H2 s2.heap.objs.size (.lst []) b=none;rw[ao (zzJ (zzr e))];exact this.1,this.2⟩
theorem xK{tg:Expr}(hc:X.calm=true)(hclo:dc X.env.cells scope.names []=some cl)(hdis:∀y∈scope.names,y.2=.free->(y.1,NameKind.cell)∉scope.names)(hkind:scope.kind=.function)(cap:Cap X scope N' js)
  (hnames:∀y∈scope.names,y.2=.local->scope.names.lookup y.1=some .local) (hi:PI X tg iter wi)
  (hb:∀B:Blk,PG (cxB X scope cl N' B) tg (gB B)/\PTs (cxB X scope cl N' B) ifs (tcB B)/\PE (cxB X scope cl N' B) elt (teB B))
  (hs:∀v,foldedSetIterable iter X.env v=pure v:=by intro _;rfl):PE X (.ListComp elt [⟨tg,iter,ifs,0⟩] scope pos) (Cv wi js gB tcB teB):=by
 intro pins s σ H Q I h
 rw[eval_ListComp]
 refine wpAny_comprehension_free (use:=none) rfl hs (jr hclo) hkind hnames (uI (RR:=fun acc C=>compPost (model X.prog X.w) X.A X.xe none (EP X pins σ Q) acc C) hc hclo hdis hkind cap hi hb I h ?_)
 intro D C s' H' m I' f hm q
 exact⟨m,hm,fun h' hs'=>⟨.ref D,H',I'.but f hs',rfl,q⟩⟩
theorem xL{tg:Expr}{i:Nat}{y:Str}{py spos:Pos}(hN:X.N.Nodup)(hy:X.N[i]? = some y)(hl:X.env.scope.names.lookup y=some .local)(hc:X.calm=true)(hclo:dc X.env.cells scope.names []=some cl)(hdis:∀y∈scope.names,y.2=.free->(y.1,NameKind.cell)∉scope.names)(hkind:scope.kind=.function)(cap:Cap X scope N' js)
  (hnames:∀y∈scope.names,y.2=.local->scope.names.lookup y.1=some .local) (hi:PI X tg iter wi)
  (hb:∀B:Blk,PG (cxB X scope cl N' B) tg (gB B)/\PTs (cxB X scope cl N' B) ifs (tcB B)/\PE (cxB X scope cl N' B) elt (teB B))
  (hsw:swapsWith (.ListComp elt [⟨tg,iter,ifs,0⟩] scope pos) (some (.Name y py)) spos.line X.env=pure true:=by rfl)
  (hs:∀v,foldedSetIterable iter X.env v=pure v:=by intro _;rfl):PS X (.Assign [.Name y py] (.ListComp elt [⟨tg,iter,ifs,0⟩] scope pos) spos) (tAsg (Cv wi js gB tcB teB) (sJ i)):=by
 intro pins s σ H D I h
 rw[exec_Assign_Name_used _ _ _ _ hsw]
 refine wpAny_bind (wpAny_standAt (wpAny_bind ?_))
 show wpAny _ X.A (do let _ ←comprehension (.ListComp elt [⟨tg,iter,ifs,0⟩] scope pos) scope X.env _ (newList []) false (eval iter X.env) (some (assign (.Name y py) X.env))) _ _ s
 refine wpAny_bind (thn (wpAny_comprehension_free (use:=some (assign (.Name y py) X.env)) (Q:=fun _ s'=>SP X pins D .next s') rfl hs (jr hclo) hkind hnames
  (uI (RR:=fun acc C=>compPost (model X.prog X.w) X.A X.xe (some (assign (.Name y py) X.env)) (fun _ s'=>SP X pins D .next s') acc C) hc hclo hdis hkind cap hi hb I h ?_)) fun _ s' q=>wpAny_pure (wpAny_pure q))
 intro Dl C s' H' m I' f hm q
 show wpAny _ X.A (assign (.Name y py) X.env (.ref Dl)) _ _ _
 refine wpAny_assign_Name (qx I' hN hy (.inl hl) (v:=.ref Dl) rfl (fun s2 I2 hch=>?_) (.inr hl))
 obtain⟨a,hsb,ha⟩:=hch
 have hCa:C≠a:=by
  rcases ha with rfl|ha
  ·exact f.2.1
  ·exact fun z=>f.2.2.2.2.1 y a ha z.symm
 refine⟨m,hm.sameBut hsb hCa,fun h' hs'=>⟨_,H',I2.but f hs',q⟩⟩
end
def excA(C:Addr)(dd:Option Addr)(ea:Addr):HO:=.ext fun h=>∃o,h.get? ea=some o/\o.cls=.ref C/\o.dict=dd/\∃vs,o.data=.fields vs
abbrev excO(C ea:Addr):HO:=excA C none ea
open PySem.W (Looks)
def exD(fs:List (Str×V))(dx:Addr):HO:=.ext fun h=>∃mA,h.Ns1 dx mA/\(∀f,RelO (fs.lookup f) (mA f))/\PySem.Within mA (fs.map (·.1))/\fs.length <= 1000
end L2
namespace DL
open PySem PySem.Spec L2
open PyProof.Rows hiding St
inductive D where
 |non|bl (b:Bool)|int (i:Int)|str (x:Str)|ty (n:String)|tup (ds:List D)|lst (ds:List D)
 |dK (ks:List Key) (ds:List D)|dT (ks:List (List Key)) (ds:List D)|pen|exc (C:Addr)|cls (C:Addr)|exa (C:Addr) (fs:List (Str×V))
inductive O where
 |val (d:D)|lst (os:List O)|dct (ks:List (List Key)) (os:List O)|tup (os:List O)|dck (ks:List Key) (os:List O)
inductive Sl where
 |nil|val (d:D)|own (ds:List D)|obj (o:O)|pin (v:V) (d:D)
section
variable(K:PySem.W.Frag)(pp:Option Addr)(M:List Addr)(H:Hp)
mutual
def Rep:D->V->Prop
 |.non,v=>v=.non
 |.bl b,v=>v=.bl b
 |.int i,v=>v=.int i
 |.str x,v=>v=.str x
 |.ty n,v=>v=.ty n
 |.tup ds,v=>∃a xs,v=.ref a/\H a=some (.tup xs)/\Reps ds xs
 |.lst ds,v=>∃a xs,v=.ref a/\a∉M/\pp≠some a/\H a=some (.lst xs)/\Reps ds xs
 |.dK ks ds,v=>∃a kvs,v=.ref a/\a∉M/\pp≠some a/\H a=some (.dK kvs)/\kvs.map (·.1)=ks/\Reps ds (kvs.map (·.2))
 |.dT ks ds,v=>∃a kvs,v=.ref a/\a∉M/\pp≠some a/\Rd H a (.dT kvs)/\kvs.map (·.1)=ks/\Reps ds (kvs.map (·.2))
 |.pen,v=>∃p,v=.ref p/\pp=some p/\∃a ns t l,Pen K H p a ns t l
 |.exc C,v=>∃a,v=.ref a/\a∉M/\pp≠some a/\H a=some (excO C a)
 |.cls C,v=>v=.ref C
 |.exa C fs,v=>∃a dx,v=.ref a/\a∉M/\pp≠some a/\H a=some (excA C (some dx) a)/\dx∉M/\pp≠some dx/\H dx=some (exD fs dx)
def Reps:List D->List V->Prop
 |[],xs=>xs=[]
 |d::ds,xs=>∃x r,xs=x::r/\Rep d x/\Reps ds r
end
end
section
variable{K:PySem.W.Frag}{pp:Option Addr}{M M' M'':List Addr}{H H' H'':Hp}
class TB where
 tb:List (Addr×Str)
instance(priority:=low) TB.none:TB:=⟨[]⟩
def Tabs[TB](H:Hp):Prop:=∀P ql,TB.tb.lookup P=some ql->∃ps,H P=some (.tbl ps)/\TriplesOk ps.toList /\
 ∀pos cv,codeAmong pos ps.toList=some cv->∃c oc u vs t,cv=.ref c/\H c=some (.frz oc u)/\oc.data=.fields vs/\vs[1]? = some (.str ql t)
def TF(o:HO):Prop:=(∃ps,o=.tbl ps)∨∃ob u,o=.frz ob u
theorem Tabs.of[TB]{H H':Hp}(h:Tabs H)(k:∀b o,H b=some o->TF o->H' b=some o):Tabs H':=fun P ql hq =>
 let ⟨ps,e1,e2,e3⟩:=h P ql hq
 ⟨ps,k _ _ e1 (.inl ⟨_,rfl⟩),e2,fun pos cv e=>let ⟨c,oc,u,vs,t,f1,f2,f3⟩:=e3 pos cv e;⟨c,oc,u,vs,t,f1,k _ _ f2 (.inr ⟨_,_,rfl⟩),f3⟩⟩
theorem Tabs.upd[TB]{H:Hp}{l:Addr}{o o':HO}(h:Tabs H)(hl:H l=some o)(ht:¬TF o):Tabs (upd H l o') :=
 h.of fun b x e tf=>by
  rw[ao]
  ·exact e
  ·rintro rfl
   rw[hl]at e;cases e
   exact ht tf
theorem Tabs.new[TB]{H:Hp}{l:Addr}{o':HO}(h:Tabs H)(hl:H l=none):Tabs (L2.upd H l o') :=
 h.of fun b x e _=>kg hl e
theorem ki{xs:List V}:¬TF (.lst xs):=by rintro(⟨_,e⟩|⟨_,_,e⟩)<;>cases e
theorem Bi{xs:List (List Key×V)}:¬TF (.dT xs):=by rintro(⟨_,e⟩|⟨_,_,e⟩)<;>cases e
def NT(o:HO):Prop:=∀ps,o ≠ .tbl ps
def NP(pp:Option Addr)(a:Addr)(o:HO):Prop:=pp≠some a/\NT o
theorem np{pp:Option Addr}{a:Addr}{o:HO}(h:pp≠some a)(t:NT o:=by intro _ z;cases z):NP pp a o:=⟨h,t⟩
structure Mv[TB](K:PySem.W.Frag)(pp:Option Addr)(M:List Addr)(H:Hp)(M':List Addr)(H':Hp):Prop where
 tup:∀a xs,H a=some (.tup xs)->H' a=some (.tup xs)
 oth:∀a o,H a=some o->a∉M->NP pp a o->H' a=some o/\a∉M'
 pen:∀p,pp=some p->(∃a ns t l,Pen K H p a ns t l)->∃a ns t l,Pen K H' p a ns t l
 tb:Tabs H->Tabs H'
variable[TB]
theorem Mv.lst(m:Mv K pp M H M' H')(a:Addr)(xs:List V)(h:H a=some (.lst xs))(n:a∉M)(q:pp≠some a):H' a=some (.lst xs)/\a∉M':=m.oth a _ h n (np q)
theorem Mv.refl:Mv K pp M H M H:=⟨fun _ _ h=>h,fun _ _ h n _=>⟨h,n⟩,fun _ _ h=>h,fun h=>h⟩
theorem Mv.trans(x:Mv K pp M H M' H')(y:Mv K pp M' H' M'' H''):Mv K pp M H M'' H'' :=
 ⟨fun a xs h=>y.tup a xs (x.tup a xs h),fun a xs h n q=>y.oth a xs (x.oth a xs h n q).1 (x.oth a xs h n q).2 q,fun p e h=>y.pen p e (x.pen p e h),fun h=>y.tb (x.tb h)⟩
mutual
theorem Rep.mv(m:Mv K pp M H M' H'):∀(d:D) (v:V),Rep K pp M H d v->Rep K pp M' H' d v
 |.non,_,h=>by simp only[Rep]at h ⊢;exact h
 |.bl _,_,h=>by simp only[Rep]at h ⊢;exact h
 |.int _,_,h=>by simp only[Rep]at h ⊢;exact h
 |.str _,_,h=>by simp only[Rep]at h ⊢;exact h
 |.ty _,_,h=>by simp only[Rep]at h ⊢;exact h
 |.tup ds,_,h=>by
  simp only[Rep]at h ⊢
  obtain⟨a,xs,e,h1,h2⟩:=h
  exact⟨a,xs,e,m.tup a xs h1,Reps.mv m ds xs h2⟩
 |.lst ds,_,h=>by
  simp only[Rep]at h ⊢
  obtain⟨a,xs,e,h0,hp,h1,h2⟩:=h
  exact⟨a,xs,e,(m.lst a xs h1 h0 hp).2,hp,(m.lst a xs h1 h0 hp).1,Reps.mv m ds xs h2⟩
 |.dK ks ds,_,h=>by
  simp only[Rep]at h ⊢
  obtain⟨a,xs,e,h0,hp,h1,h2,h3⟩:=h
  exact⟨a,xs,e,(m.oth a _ h1 h0 (np hp)).2,hp,(m.oth a _ h1 h0 (np hp)).1,h2,Reps.mv m ds _ h3⟩
 |.dT ks ds,_,h=>by
  simp only[Rep]at h ⊢
  obtain⟨a,xs,e,h0,hp,h1,h2,h3⟩:=h
  rcases h1 with h1|⟨o,h1⟩
  ·exact⟨a,xs,e,(m.oth a _ h1 h0 (np hp)).2,hp,.inl (m.oth a _ h1 h0 (np hp)).1,h2,Reps.mv m ds _ h3⟩
  ·exact⟨a,xs,e,(m.oth a _ h1 h0 (np hp)).2,hp,.inr ⟨o,(m.oth a _ h1 h0 (np hp)).1⟩,h2,Reps.mv m ds _ h3⟩
 |.pen,_,h=>by
  simp only[Rep]at h ⊢
  obtain⟨p,e,e2,h⟩:=h
  exact⟨p,e,e2,m.pen p e2 h⟩
 |.exc C,_,h=>by
  simp only[Rep]at h ⊢
  obtain⟨a,e,h0,hp,h1⟩:=h
  exact⟨a,e,(m.oth a _ h1 h0 (np hp)).2,hp,(m.oth a _ h1 h0 (np hp)).1⟩
 |.cls _,_,h=>by simp only[Rep]at h ⊢;exact h
 |.exa C fs,_,h=>by
  simp only[Rep]at h ⊢
  obtain⟨a,dx,e,h0,hp,h1,h2,h3,h4⟩:=h
  exact⟨a,dx,e,(m.oth a _ h1 h0 (np hp)).2,hp,(m.oth a _ h1 h0 (np hp)).1,(m.oth dx _ h4 h2 (np h3)).2,h3,(m.oth dx _ h4 h2 (np h3)).1⟩
theorem Reps.mv(m:Mv K pp M H M' H'):∀(ds:List D) (xs:List V),Reps K pp M H ds xs->Reps K pp M' H' ds xs
 |[],_,h=>by simp only[Reps]at h ⊢;exact h
 |d::ds,_,h=>by
  simp only[Reps]at h ⊢
  obtain⟨x,r,e,h1,h2⟩:=h
  exact⟨x,r,e,Rep.mv m d x h1,Reps.mv m ds r h2⟩
end
theorem Reps.length:∀{ds:List D}{xs:List V},Reps K pp M H ds xs->ds.length=xs.length
 |[],_,h=>by simp only[Reps]at h;subst h;rfl
 |_::_,_,h=>by
  simp only[Reps]at h
  obtain⟨x,r,rfl,_,h2⟩:=h
  simp[Reps.length h2]
theorem Reps.get':∀{ds:List D}{xs:List V}{i:Nat}{d:D},Reps K pp M H ds xs->ds[i]? = some d->∃x,xs[i]? = some x/\Rep K pp M H d x
 |[],_,_,_,h,e=>by simp at e
 |d::ds,_,0,x,h,e=>by
  simp only[Reps]at h
  obtain⟨y,r,rfl,h1,h2⟩:=h
  simp at e;subst e
  exact⟨y,rfl,h1⟩
 |d::ds,_,i+1,x,h,e=>by
  simp only[Reps]at h
  obtain⟨y,r,rfl,h1,h2⟩:=h
  obtain⟨d',e1,e2⟩:=Reps.get' (i:=i) h2 (by simpa using e)
  exact⟨d',by simpa using e1,e2⟩
theorem Reps.append:∀{ds es:List D}{xs ys:List V},Reps K pp M H ds xs->Reps K pp M H es ys->Reps K pp M H (ds++es) (xs++ys)
 |[],_,_,_,h,q=>by simp only[Reps]at h;subst h;exact q
 |d::ds,_,_,_,h,q=>by
  simp only[Reps]at h
  obtain⟨y,r,rfl,h1,h2⟩:=h
  simp only[List.cons_append,Reps]
  exact⟨y,_,rfl,h1,Reps.append h2 q⟩
theorem Reps.drop:∀{ds:List D}{xs:List V} (n:Nat),Reps K pp M H ds xs->Reps K pp M H (ds.drop n) (xs.drop n)
 |_,_,0,h=>h
 |[],_,n+1,h=>by simp only[Reps]at h;subst h;simp[Reps]
 |d::ds,_,n+1,h=>by
  simp only[Reps]at h
  obtain⟨y,r,rfl,h1,h2⟩:=h
  exact Reps.drop n h2
theorem Reps.take:∀{ds:List D}{xs:List V} (n:Nat),Reps K pp M H ds xs->Reps K pp M H (ds.take n) (xs.take n)
 |_,_,0,h=>by simp[Reps]
 |[],_,n+1,h=>by simp only[Reps]at h;subst h;simp[Reps]
 |d::ds,_,n+1,h=>by
  simp only[Reps]at h
  obtain⟨y,r,rfl,h1,h2⟩:=h
  simp only[List.take_succ_cons,Reps]
  exact⟨y,_,rfl,h1,Reps.take n h2⟩
theorem Reps.set{d:D}{x:V}(hd:Rep K pp M H d x):∀{ds:List D}{xs:List V} (n:Nat),Reps K pp M H ds xs->Reps K pp M H (ds.set n d) (xs.set n x)
 |[],_,n,h=>by simp only[Reps]at h;subst h;simp[Reps]
 |e::ds,_,0,h=>by
  simp only[Reps]at h
  obtain⟨y,r,rfl,h1,h2⟩:=h
  simp only[List.set_cons_zero,Reps]
  exact⟨x,r,rfl,hd,h2⟩
 |e::ds,_,n+1,h=>by
  simp only[Reps]at h
  obtain⟨y,r,rfl,h1,h2⟩:=h
  simp only[List.set_cons_succ,Reps]
  exact⟨y,_,rfl,h1,Reps.set hd n h2⟩
theorem Reps.one{d:D}{x:V}(h:Rep K pp M H d x):Reps K pp M H [d] [x]:=by simp only[Reps];exact⟨x,[],rfl,h,rfl⟩
theorem Reps.nil:Reps K pp M H [] []:=by simp only[Reps]
theorem Reps.cons{d:D}{x:V}{ds:List D}{xs:List V}(h:Rep K pp M H d x)(q:Reps K pp M H ds xs):Reps K pp M H (d::ds) (x::xs):=by simp only[Reps];exact⟨x,xs,rfl,h,q⟩
def NW(pp:Option Addr)(b:Addr)(o:HO):Prop:=(pp=some b->∀xs,o ≠ .lst xs)/\NT o
theorem nw{pp:Option Addr}{b:Addr}{o:HO}(h:pp≠some b)(t:NT o:=by intro _ z;cases z):NW pp b o:=⟨fun z=>absurd z h,t⟩
structure SameQ(K:PySem.W.Frag)(pp:Option Addr)(H H':Hp):Prop where
 keep:∀b o,H b=some o->NW pp b o->H' b=some o
 pen:∀p,pp=some p->(∃a ns t l,Pen K H p a ns t l)->∃a ns t l,Pen K H' p a ns t l
 live:∀b,H b≠none->H' b≠none
structure SameP(K:PySem.W.Frag)(pp:Option Addr)(H H':Hp):Prop extends SameQ K pp H H' where
 tb:Tabs H->Tabs H'
theorem SameQ.refl:SameQ K pp H H:=⟨fun _ _ h _=>h,fun _ _ h=>h,fun _ h=>h⟩
theorem SameP.refl:SameP K pp H H:=⟨.refl,fun h=>h⟩
theorem SameQ.trans(x:SameQ K pp H H')(y:SameQ K pp H' H''):SameQ K pp H H'' :=
 ⟨fun b o h n=>y.keep b o (x.keep b o h n) n,fun p e h=>y.pen p e (x.pen p e h),fun b h=>y.live b (x.live b h)⟩
theorem SameP.trans(x:SameP K pp H H')(y:SameP K pp H' H''):SameP K pp H H'':=⟨x.toSameQ.trans y.toSameQ,fun h=>y.tb (x.tb h)⟩
theorem SameP.of(s:Same H H'):SameP K pp H H':=⟨⟨fun b o h _=>s b o h,fun _ _ ⟨a,ns,t,l,h⟩=>⟨a,ns,t,l,h.same s⟩,fun b h e=>by
 cases q:H b with
 |none=>exact h q
 |some o=>rw[s b o q]at e;cases e⟩,fun h=>h.of fun b o e _=>s b o e⟩
theorem SameP.new{l:Addr}{o:HO}(h:H l=none):SameP K pp H (upd H l o):=.of (uG h)
theorem SameP.mv(s:SameP K pp H H'):Mv K pp M H M H' :=
 ⟨fun a xs h=>s.keep a _ h ⟨fun _ _ z=>(by cases z),fun _ z=>(by cases z)⟩,fun a xs h n q=>⟨s.keep a _ h ⟨fun z=>absurd z q.1,q.2⟩,n⟩,s.pen,s.tb⟩
theorem Mv.new{l:Addr}{o:HO}(h:H l=none):Mv K pp M H M (upd H l o):=(SameP.new h).mv
theorem Mv.newOwn{l:Addr}{o:HO}(h:H l=none):Mv K pp M H (l::M) (upd H l o) :=
 ⟨fun a xs e=>kg h e,fun a xs e n q=>⟨kg h e,by
  intro z
  rcases zzj.mp z with rfl|z
  ·rw[h]at e;cases e
  ·exact n z⟩,(SameP.new h).pen,fun t=>t.new h⟩
theorem Mv.less{l:List Addr}(h:∀a∈l,a∈M):Mv K pp M H l H:=⟨fun _ _ h=>h,fun a xs e n _=>⟨e,fun z=>n (h a z)⟩,fun _ _ h=>h,fun h=>h⟩
theorem Cw{p l:Addr}{xs ys:List V}(hl:H l=some (.lst xs))(hp:p≠l):(∃a ns t k,Pen K H p a ns t k)->∃a ns t k,Pen K (upd H l (.lst ys)) p a ns t k:=by
 rintro⟨a,ns,t,k,h⟩
 refine⟨a,ns,t,k,?_,?_,h.t0⟩
 ·rw[ao hp];exact h.lst
 ·rcases h.scr with ⟨o,e⟩|e
  ·refine .inl ⟨o,?_⟩
   rw[ao (jl e hl (by intro z;cases z))];exact e
  ·exact .inr e
theorem Mv.write{l:Addr}{xs ys:List V}(hl:H l=some (.lst xs))(hm:l∈M)(hp:pp≠some l):Mv K pp M H M (upd H l (.lst ys)) :=
 ⟨fun a zs e=>by rw[ao (jl e hl (by intro z;cases z))];exact e,
  fun a zs e n q=>⟨by rw[ao (by rintro rfl;exact n hm)];exact e,n⟩,
  fun p e h=>Cw hl (by rintro rfl;exact hp e) h,fun t=>t.upd hl ki⟩
end
section
variable(K:PySem.W.Frag)(pp:Option Addr)(M:List Addr)(H:Hp)
mutual
def RO:O->V->List Addr->Prop
 |.val d,v,A=>A=[]/\Rep K pp M H d v
 |.lst os,v,A=>∃a xs B,v=.ref a/\H a=some (.lst xs)/\A=a::B/\ROs os xs B
 |.dct ks os,v,A=>∃a kvs B,v=.ref a/\H a=some (.dT kvs)/\kvs.map (·.1)=ks/\A=a::B/\ROs os (kvs.map (·.2)) B
 |.tup os,v,A=>∃a xs,v=.ref a/\H a=some (.tup xs)/\ROs os xs A
 |.dck ks os,v,A=>∃a kvs B,v=.ref a/\H a=some (.dK kvs)/\kvs.map (·.1)=ks/\A=a::B/\ROs os (kvs.map (·.2)) B
def ROs:List O->List V->List Addr->Prop
 |[],xs,A=>xs=[]/\A=[]
 |o::os,xs,A=>∃x r B C,xs=x::r/\A=B++C/\RO o x B/\ROs os r C
end
end
section
variable{K:PySem.W.Frag}{pp:Option Addr}{M M':List Addr}{H H':Hp}[TB]
mutual
theorem RO.mv(m:Mv K pp M H M' H'):∀(q:O) (v:V) (A:List Addr),(∀a∈A,∀o,H a=some o->NT o->H' a=some o)->RO K pp M H q v A->RO K pp M' H' q v A
 |.val d,v,A,_,h=>by
  simp only[RO]at h ⊢
  exact⟨h.1,Rep.mv m d v h.2⟩
 |.lst os,v,A,k,h=>by
  simp only[RO]at h ⊢
  obtain⟨a,xs,B,e,ha,rfl,r⟩:=h
  exact⟨a,xs,B,e,k a zzd _ ha (by intro _ z;cases z),rfl,ROs.mv m os xs B (fun b hb=>k b (zzb _ hb)) r⟩
 |.dct ks os,v,A,k,h=>by
  simp only[RO]at h ⊢
  obtain⟨a,kvs,B,e,ha,e2,rfl,r⟩:=h
  exact⟨a,kvs,B,e,k a zzd _ ha (by intro _ z;cases z),e2,rfl,ROs.mv m os _ B (fun b hb=>k b (zzb _ hb)) r⟩
 |.tup os,v,A,k,h=>by
  simp only[RO]at h ⊢
  obtain⟨a,xs,e,ha,r⟩:=h
  exact⟨a,xs,e,m.tup a xs ha,ROs.mv m os xs A k r⟩
 |.dck ks os,v,A,k,h=>by
  simp only[RO]at h ⊢
  obtain⟨a,kvs,B,e,ha,e2,rfl,r⟩:=h
  exact⟨a,kvs,B,e,k a zzd _ ha (by intro _ z;cases z),e2,rfl,ROs.mv m os _ B (fun b hb=>k b (zzb _ hb)) r⟩
theorem ROs.mv(m:Mv K pp M H M' H'):∀(os:List O) (xs:List V) (A:List Addr),(∀a∈A,∀o,H a=some o->NT o->H' a=some o)->ROs K pp M H os xs A->ROs K pp M' H' os xs A
 |[],xs,A,_,h=>by simp only[ROs]at h ⊢;exact h
 |o::os,xs,A,k,h=>by
  simp only[ROs]at h ⊢
  obtain⟨x,r,B,C,e,rfl,h1,h2⟩:=h
  exact⟨x,r,B,C,e,rfl,RO.mv m o x B (fun b hb=>k b (zzw.mpr (.inl hb))) h1,ROs.mv m os r C (fun b hb=>k b (zzw.mpr (.inr hb))) h2⟩
end
mutual
def fzO:O->D
 |.val d=>d
 |.lst os=>.lst (fzOs os)
 |.dct ks os=>.dT ks (fzOs os)
 |.tup os=>.tup (fzOs os)
 |.dck ks os=>.dK ks (fzOs os)
def fzOs:List O->List D
 |[]=>[]
 |o::os=>fzO o::fzOs os
end
mutual
theorem RO.fz(m:Mv K pp M H M' H):∀(q:O) (v:V) (A:List Addr),(∀a∈A,a∉M'/\pp≠some a)->RO K pp M H q v A->Rep K pp M' H (fzO q) v
 |.val d,v,A,_,h=>by
  simp only[RO]at h
  simp only[fzO]
  exact Rep.mv m d v h.2
 |.lst os,v,A,k,h=>by
  simp only[RO]at h
  simp only[fzO,Rep]
  obtain⟨a,xs,B,e,ha,rfl,r⟩:=h
  exact⟨a,xs,e,(k a zzd).1,(k a zzd).2,ha,ROs.fz m os xs B (fun b hb=>k b (zzb _ hb)) r⟩
 |.dct ks os,v,A,k,h=>by
  simp only[RO]at h
  simp only[fzO,Rep]
  obtain⟨a,kvs,B,e,ha,e2,rfl,r⟩:=h
  exact⟨a,kvs,e,(k a zzd).1,(k a zzd).2,.inl ha,e2,ROs.fz m os _ B (fun b hb=>k b (zzb _ hb)) r⟩
 |.tup os,v,A,k,h=>by
  simp only[RO]at h
  simp only[fzO,Rep]
  obtain⟨a,xs,e,ha,r⟩:=h
  exact⟨a,xs,e,ha,ROs.fz m os xs A k r⟩
 |.dck ks os,v,A,k,h=>by
  simp only[RO]at h
  simp only[fzO,Rep]
  obtain⟨a,kvs,B,e,ha,e2,rfl,r⟩:=h
  exact⟨a,kvs,e,(k a zzd).1,(k a zzd).2,ha,e2,ROs.fz m os _ B (fun b hb=>k b (zzb _ hb)) r⟩
theorem ROs.fz(m:Mv K pp M H M' H):∀(os:List O) (xs:List V) (A:List Addr),(∀a∈A,a∉M'/\pp≠some a)->ROs K pp M H os xs A->Reps K pp M' H (fzOs os) xs
 |[],xs,A,_,h=>by simp only[ROs]at h;simp only[fzOs,Reps];exact h.1
 |o::os,xs,A,k,h=>by
  simp only[ROs]at h
  simp only[fzOs,Reps]
  obtain⟨x,r,B,C,e,rfl,h1,h2⟩:=h
  exact⟨x,r,e,RO.fz m o x B (fun b hb=>k b (zzw.mpr (.inl hb))) h1,ROs.fz m os r C (fun b hb=>k b (zzw.mpr (.inr hb))) h2⟩
end
theorem lV:∀os:List O,fzOs os=os.map fzO
 |[]=>rfl
 |o::os=>by simp only[fzOs,zzc,lV os]
end
structure Fx where
 pp:Option Addr
 M0:List Addr
 H0:Hp
abbrev DS:=List Sl
variable[TB]
class Frm where
 L:PySem.W.Frag->Fx->List Addr->Hp->Prop
 W:DS->Addr->Prop
 cl:∀K (F:Fx) M H M' H',L K F M H->Mv K F.pp M H M' H'->L K F M' H'
instance(priority:=low) Frm.free:Frm:=⟨fun _ _ _ _=>True,fun _ _=>False,fun _ _ _ _ _ _ h _=>h⟩
variable[Frm]
structure Lv0(pp:Option Addr)(M:List Addr)(H:Hp):Prop where
 m:∀a∈M,H a≠none
 p:∀p,pp=some p->H p≠none
structure Lv(pp:Option Addr)(M:List Addr)(H:Hp):Prop extends Lv0 pp M H where
 t:Tabs H
theorem Lv0.sameQ{K:PySem.W.Frag}{pp:Option Addr}{M:List Addr}{H H':Hp}(l:Lv0 pp M H)(s:SameQ K pp H H'):Lv0 pp M H' :=
 ⟨fun a ha=>s.live a (l.m a ha),fun p e=>s.live p (l.p p e)⟩
theorem Lv0.fresh{pp:Option Addr}{M:List Addr}{H:Hp}{a:Addr}(l:Lv0 pp M H)(h:H a=none):a∉M/\pp≠some a:=⟨fun z=>l.m a z h,fun z=>l.p a z h⟩
structure Lk(K:PySem.W.Frag)(F:Fx)(M:List Addr)(H:Hp):Prop where
 l:Frm.L K F M H
 t:Tabs H
theorem Lk.cl{K:PySem.W.Frag}{F:Fx}{M M':List Addr}{H H':Hp}(h:Lk K F M H)(m:Mv K F.pp M H M' H'):Lk K F M' H':=⟨Frm.cl _ _ _ _ _ _ h.l m,m.tb h.t⟩
section
variable(K:PySem.W.Frag)(F:Fx)(M:List Addr)(H:Hp)
def RSl:Sl->Option V->Prop
 |.nil,_=>True
 |.val d,o=>∃v,o=some v/\Rep K F.pp M H d v
 |.own ds,o=>∃l xs,o=some (.ref l)/\l∈M/\F.H0 l=none/\F.pp≠some l/\H l=some (.lst xs)/\Reps K F.pp M H ds xs
 |.obj _,o=>∃v,o=some v
 |.pin w d,o=>∃v,o=some v/\v=w/\Rep K F.pp M H d v
def Ow:Sl->Option V->List Addr->Prop
 |.own _,o,A=>∃l,o=some (.ref l)/\A=[l]
 |.obj q,o,A=>A.Nodup/\∃v,o=some v/\RO K F.pp M H q v A
 |_,_,_=>True
def OwF(σ:St)(ρ:DS):Prop:=∃As:Nat->List Addr,(∀(i:Nat) s o,ρ[i]? = some s->σ[i]? = some o->Ow K F M H s o (As i))/\(∀i,∀a∈As i,a∈M/\F.H0 a=none/\F.pp≠some a)/\∀i j,i≠j->∀a∈As i,a∉As j
structure RSt(σ:St)(ρ:DS):Prop where
 len:σ.length=ρ.length
 sl:∀(i:Nat) s o,ρ[i]? = some s->σ[i]? = some o->RSl K F M H s o
 ow:OwF K F M H σ ρ
 sub:∀a∈F.M0,a∈M
 same:SameQ K F.pp F.H0 H
 old:∀a∈F.M0,F.H0 a≠none
 liv0:Lv0 F.pp M H
 lk:Lk K F M H
end
section
variable{K:PySem.W.Frag}{F:Fx}{M M':List Addr}{H H':Hp}{σ:St}{ρ:DS}
theorem RSt.liv(r:RSt K F M H σ ρ):Lv F.pp M H:=⟨r.liv0,r.lk.t⟩
theorem RSt.sameT(r:RSt K F M H σ ρ):SameP K F.pp F.H0 H:=⟨r.same,fun _=>r.lk.t⟩
omit [Frm] in
theorem Ow.mv{s:Sl}{o:Option V}{A:List Addr}(m:Mv K F.pp M H M' H')(k:∀a∈A,∀x,H a=some x->NT x->H' a=some x)(h:Ow K F M H s o A):Ow K F M' H' s o A:=by
 cases s with
 |nil=>trivial
 |val d=>trivial
 |pin w d=>trivial
 |own ds=>exact h
 |obj q =>
  obtain⟨nd,v,e,h⟩:=h
  exact⟨nd,v,e,RO.mv m q v A k h⟩
omit [Frm] in
theorem OwF.keep(h:OwF K F M H σ ρ)(m:Mv K F.pp M H M' H')(k:∀a,a∈M->F.pp≠some a->F.H0 a=none->a∈M'/\∀x,H a=some x->NT x->H' a=some x):OwF K F M' H' σ ρ:=by
 obtain⟨As,h1,h2,h3⟩:=h
 refine⟨As,fun i s o e1 e2=>(h1 i s o e1 e2).mv m fun a ha=>(k a (h2 i a ha).1 (h2 i a ha).2.2 (h2 i a ha).2.1).2,fun i a ha=>⟨(k a (h2 i a ha).1 (h2 i a ha).2.2 (h2 i a ha).2.1).1,(h2 i a ha).2⟩,h3⟩
omit [Frm] in
theorem OwF.step{σ':St}{ρ':DS}(h:OwF K F M H σ ρ)(m:Mv K F.pp M H M' H')(i:Nat)(hσ:∀j,j≠i->σ'[j]? = σ[j]?)(hρ:∀j,j≠i->ρ'[j]? = ρ[j]?)
  (k:∀A,(∀s o,ρ[i]? = some s->σ[i]? = some o->Ow K F M H s o A)->(∀a∈A,a∈M/\F.H0 a=none/\F.pp≠some a)->∃B,(∀s o,ρ'[i]? = some s->σ'[i]? = some o->Ow K F M' H' s o B) /\
   (∀b∈B,b∈M'/\F.H0 b=none/\F.pp≠some b/\(b∈A∨b∉M))/\∀a,a∈M->F.pp≠some a->F.H0 a=none->a∉A->a∈M'/\∀x,H a=some x->NT x->H' a=some x):OwF K F M' H' σ' ρ':=by
 obtain⟨As,h1,h2,h3⟩:=h
 obtain⟨B,k1,k2,k3⟩:=k (As i) (h1 i) (h2 i)
 have old:∀j,j≠i->∀a∈As j,a∈M'/\∀x,H a=some x->NT x->H' a=some x:=fun j e a ha=>k3 a (h2 j a ha).1 (h2 j a ha).2.2 (h2 j a ha).2.1 (h3 j i e a ha)
 refine⟨fun j=>if j=i then B else As j,fun j s o e1 e2=>?_,fun j a ha=>?_,fun j l e a ha hb=>?_⟩
 ·show Ow K F M' H' s o (if j=i then B else As j)
  by_cases e:j=i
  ·subst e
   rw[if_pos rfl]
   exact k1 s o e1 e2
  ·rw[if_neg e]
   rw[hρ j e]at e1
   rw[hσ j e]at e2
   exact(h1 j s o e1 e2).mv m fun a ha=>(old j e a ha).2
 ·replace ha:a∈(if j=i then B else As j):=ha
  by_cases e:j=i
  ·subst e
   rw[if_pos rfl]at ha
   exact⟨(k2 a ha).1,(k2 a ha).2.1,(k2 a ha).2.2.1⟩
  ·rw[if_neg e]at ha
   exact⟨(old j e a ha).1,(h2 j a ha).2⟩
 ·replace ha:a∈(if j=i then B else As j):=ha
  replace hb:a∈(if l=i then B else As l):=hb
  by_cases e1:j=i
  ·subst e1
   rw[if_pos rfl]at ha
   rw[if_neg (Ne.symm e)]at hb
   rcases (k2 a ha).2.2.2 with z|z
   ·exact h3 j l e a z hb
   ·exact z (h2 l a hb).1
  ·rw[if_neg e1]at ha
   by_cases e2:l=i
   ·subst e2
    rw[if_pos rfl]at hb
    rcases (k2 a hb).2.2.2 with z|z
    ·exact h3 j l e a ha z
    ·exact z (h2 j a ha).1
   ·rw[if_neg e2]at hb
    exact h3 j l e a ha hb
omit [Frm] in
theorem OwF.none(h:∀(i:Nat) s,ρ[i]? = some s->(∀ds,s ≠ .own ds)/\∀q,s ≠ .obj q):OwF K F M H σ ρ:=by
 refine⟨fun _=>[],fun i s o e1 _=>?_,fun _ _ h=>(by simp at h),fun _ _ _ _ h=>(by simp at h)⟩
 cases s with
 |nil=>trivial
 |val d=>trivial
 |pin w d=>trivial
 |own ds=>exact absurd rfl ((h i _ e1).1 ds)
 |obj q=>exact absurd rfl ((h i _ e1).2 q)
theorem RSt.own(r:RSt K F M H σ ρ)(i j:Nat)(ds es:List D)(a:Addr)(h1:ρ[i]? = some (.own ds))(h2:ρ[j]? = some (.own es))(h3:σ[i]? = some (some (.ref a)))(h4:σ[j]? = some (some (.ref a))):i=j:=by
 obtain⟨As,k1,k2,k3⟩:=r.ow
 obtain⟨l,e,e2⟩:=k1 i _ _ h1 h3
 cases e
 obtain⟨l,e,e3⟩:=k1 j _ _ h2 h4
 cases e
 by_cases z:i=j
 ·exact z
 ·exact absurd (by rw[e3];simp) (k3 i j z a (by rw[e2];simp))
omit [Frm] in
theorem SameP.ow(s:SameP K F.pp H H')(a:Addr)(_:a∈M)(p:F.pp≠some a)(_:F.H0 a=none):a∈M/\∀x,H a=some x->NT x->H' a=some x:=⟨‹_›,fun x e n=>s.keep a x e (nw p n)⟩
theorem RSt.sameP(r:RSt K F M H σ ρ)(s:SameP K F.pp H H'):RSt K F M H' σ ρ:=by
 refine⟨r.len,fun i q o h1 h2=>?_,r.ow.keep s.mv fun a h1 h2 h3=>s.ow a h1 h2 h3,r.sub,r.same.trans s.toSameQ,r.old,r.liv0.sameQ s.toSameQ,r.lk.cl s.mv⟩
 have:=r.sl i q o h1 h2
 cases q with
 |nil=>trivial
 |val d=>obtain⟨v,e,h⟩:=this;exact⟨v,e,h.mv s.mv⟩
 |pin w d=>obtain⟨v,e,ew,h⟩:=this;exact⟨v,e,ew,h.mv s.mv⟩
 |own ds =>
  obtain⟨l,xs,e,hm,h0,hp,hl,hr⟩:=this
  exact⟨l,xs,e,hm,h0,hp,s.keep l _ hl (nw hp),hr.mv s.mv⟩
 |obj q=>exact this
theorem RSt.at(r:RSt K F M H σ ρ){i:Nat}{s:Sl}(h:ρ[i]? = some s):∃o,σ[i]? = some o/\RSl K F M H s o:=by
 have hi:i<σ.length:=by rw[r.len];exact(zzm.mp h).1
 exact⟨σ[i],by simp[hi],r.sl i s _ h (by simp[hi])⟩
omit [Frm] in
theorem OwF.drop{σ':St}{ρ':DS}(h:OwF K F M H σ ρ)(i:Nat)(hσ:∀j,j≠i->σ'[j]? = σ[j]?)(hρ:∀j,j≠i->ρ'[j]? = ρ[j]?)(hn:∀s,ρ'[i]? = some s->(∀ds,s ≠ .own ds)/\∀q,s ≠ .obj q):OwF K F M H σ' ρ' :=
 h.step .refl i hσ hρ fun A _ _=>⟨[],fun s o e _=>(by
  cases s with
  |nil=>trivial
  |val d=>trivial
  |pin w d=>trivial
  |own ds=>exact absurd rfl ((hn _ e).1 ds)
  |obj q=>exact absurd rfl ((hn _ e).2 q)),fun _ h=>(by simp at h),fun a ha _ _ _=>⟨ha,fun _ e _=>e⟩⟩
omit [Frm] in
theorem aS{α:Type}{l:List α}{i:Nat}{x y:α}(h:(l.set i x)[i]? = some y):y=x:=by
 have hi:i<l.length:=by have:=(zzm.mp h).1;simpa using this
 simp[hi]at h
 exact h.symm
theorem RSt.set(r:RSt K F M H σ ρ){d:D}{v:V}(h:Rep K F.pp M H d v)(i:Nat):RSt K F M H (σ.set i (some v)) (ρ.set i (.val d)):=by
 refine⟨by simp[r.len],fun j s o h1 h2=>?_,r.ow.drop i (fun j e=>zzG (Ne.symm e)) (fun j e=>zzG (Ne.symm e)) (fun s e=>?_),r.sub,r.same,r.old,r.liv0,r.lk⟩
 ·by_cases e:i=j
  ·subst e
   rw[aS h1,aS h2]
   exact⟨v,rfl,h⟩
  ·rw[zzG e]at h1 h2
   exact r.sl j s o h1 h2
 ·rw[aS e]
  exact⟨fun ds z=>(by cases z),fun q z=>(by cases z)⟩
end
abbrev DE:=DS->(D->DS->Prop)->Prop
abbrev DT:=DS->(Bool->DS->Prop)->Prop
abbrev DA:=DS->(List D->DS->Prop)->Prop
structure DEnds where
 nx:DS->Prop
 rt:D->Prop
 bk:DS->Prop:=fun _=>False
 ct:DS->Prop:=fun _=>False
abbrev DTS:=DEnds->DS->Prop
def slot:DS->Nat->Sl
 |[],_=>.nil
 |s::_,0=>s
 |_::r,n+1=>slot r n
theorem aF:∀{ρ:DS}{i:Nat}{s:Sl},slot ρ i=s->s ≠ .nil->ρ[i]? = some s
 |[],_,_,h,n=>absurd h.symm n
 |_::_,0,_,h,_=>by subst h;rfl
 |_::r,i+1,s,h,n=>by simpa using aF (ρ:=r) (i:=i) h n
section
variable{X:Cx}{F:Fx}
structure PED(X:Cx)(e:Expr)(t:DE):Prop where
 mono:∀ρ P P',(∀d ρ',P d ρ'->P' d ρ')->t ρ P->t ρ P'
 run:∃T:TE,PE X e T/\∀{F:Fx} M H σ ρ (Q:VK),RSt X.K F M H σ ρ ->
  (t ρ fun d ρ'=>∀M' H' v,Mv X.K F.pp M H M' H'->RSt X.K F M' H' σ ρ'->Rep X.K F.pp M' H' d v->Q v H')->T σ H Q
structure PTD(X:Cx)(e:Expr)(t:DT):Prop where
 mono:∀ρ P P',(∀b ρ',P b ρ'->P' b ρ')->t ρ P->t ρ P'
 run:∃T:TT,PT X e T/\∀{F:Fx} M H σ ρ (Q:Bool->Hp->Prop),RSt X.K F M H σ ρ ->
  (t ρ fun b ρ'=>∀M' H',Mv X.K F.pp M H M' H'->RSt X.K F M' H' σ ρ'->Q b H')->T σ H Q
structure PWD(X:Cx)(e:Expr)(t:DT):Prop where
 mono:∀ρ P P',(∀b ρ',P b ρ'->P' b ρ')->t ρ P->t ρ P'
 run:∃T:TT,PW X e T/\∀{F:Fx} M H σ ρ (Q:Bool->Hp->Prop),RSt X.K F M H σ ρ ->
  (t ρ fun b ρ'=>∀M' H',Mv X.K F.pp M H M' H'->RSt X.K F M' H' σ ρ'->Q b H')->T σ H Q
structure PAD(X:Cx)(es:List Expr)(t:DA):Prop where
 mono:∀ρ P P',(∀d ρ',P d ρ'->P' d ρ')->t ρ P->t ρ P'
 run:∃T:TA,PA X es T/\∀{F:Fx} M H σ ρ (Q:List V->Hp->Prop),RSt X.K F M H σ ρ ->
  (t ρ fun ds ρ'=>∀M' H' vs,Mv X.K F.pp M H M' H'->RSt X.K F M' H' σ ρ'->Reps X.K F.pp M' H' ds vs->Q vs H')->T σ H Q
abbrev dC(d:D):DE:=fun ρ Q=>Q d ρ
theorem PED.con{e:Expr}{d:D}{v:V}(h:PE X e (tC v))(r:∀pp M H,Rep X.K pp M H d v):PED X e (dC d) :=
 ⟨fun _ _ _ f h=>f _ _ h,_,h,fun {F} M H _ _ _ rs q=>q M H v .refl rs (r _ M H)⟩
theorem af{i j pos}:PED X (.Constant (.int i) j pos) (dC (.int i)):=.con bZ fun _ _ _=>by simp only[Rep]
theorem kj{i j pos}:PED X (.Constant (.bool i) j pos) (dC (.bl i)):=.con Ga fun _ _ _=>by simp only[Rep]
theorem uJ{j pos}:PED X (.Constant .none j pos) (dC .non):=.con DW fun _ _ _=>by simp only[Rep]
theorem ip{i j pos}:PED X (.Constant (.str i) j pos) (dC (.str i)):=.con DX fun _ _ _=>by simp only[Rep]
theorem ou{x:Str}{n:String}{pos:Pos}(hg:Gl X x)(hm:X.mg x=none)(hv:bootBuiltins x=some (.type n))(hn:x ≠ "__name__":=by decide)(hd:(x == ("__debug__" : Str))=false:=by decide):PED X (.Name x pos) (dC (.ty n)) :=
 .con (BY (v:=.ty n) hg hm hv rfl hn hd) fun _ _ _=>by simp only[Rep]
def GC(i:Nat)(ρ:DS)(Q:D->DS->Prop):Sl->Prop
 |.val d=>Q d ρ
 |.own ds=>Q (.lst ds) (ρ.set i (.val (.lst ds)))
 |.obj q=>Q (fzO q) (ρ.set i (.val (fzO q)))
 |.pin _ d=>Q d ρ
 |.nil=>False
abbrev dVar(i:Nat):DE:=fun ρ Q=>GC i ρ Q (slot ρ i)
theorem RSt.freeze{K:PySem.W.Frag}{M:List Addr}{H:Hp}{σ:St}{ρ:DS}{i:Nat}{ds:List D}(r:RSt K F M H σ ρ)(h:ρ[i]? = some (.own ds)) :
  ∃M' v,σ[i]? = some (some v)/\Mv K F.pp M H M' H/\RSt K F M' H σ (ρ.set i (.val (.lst ds)))/\Rep K F.pp M' H (.lst ds) v:=by
 obtain⟨o,ho,l,xs,rfl,hm,h0,hp,hl,hr⟩:=r.at h
 have m:Mv K F.pp M H (M.filter fun a=>decide (a≠l)) H:=.less fun a ha=>(zzp.mp ha).1
 have rl:Rep K F.pp (M.filter fun a=>decide (a≠l)) H (.lst ds) (.ref l):=by
  simp only[Rep]
  exact⟨l,xs,rfl,by simp,hp,hl,hr.mv m⟩
 refine⟨_,_,ho,m,⟨by simp[r.len],fun j s o h1 h2=>?_,r.ow.step m i (fun _ _=>rfl) (fun j e=>zzG (Ne.symm e)) (fun A hA _=>⟨[],fun s o e _=>?_,fun _ h=>(by simp at h),fun a ha _ _ hn=>⟨?_,fun _ e _=>e⟩⟩),fun a ha=>?_,r.same,r.old,?_,r.lk.cl m⟩,rl⟩
 ·by_cases e:i=j
  ·subst e
   rw[ho]at h2
   rw[aS h1]
   cases h2
   exact⟨_,rfl,rl⟩
  ·rw[zzG e]at h1
   have q:=r.sl j s o h1 h2
   cases s with
   |nil=>trivial
   |val d=>obtain⟨v,e,q⟩:=q;exact⟨v,e,q.mv m⟩
   |pin w d=>obtain⟨v,e,ew,q⟩:=q;exact⟨v,e,ew,q.mv m⟩
   |own es =>
    obtain⟨l',ys,rfl,hm',h0',hp',hl',hr'⟩:=q
    refine⟨l',ys,rfl,zzp.mpr ⟨hm',?_⟩,h0',hp',hl',hr'.mv m⟩
    by_cases z:l'=l
    ·subst z
     exact absurd (r.own i j _ _ _ h h1 ho h2) e
    ·simpa using z
   |obj q=>exact ‹_›
 ·rw[aS e]
  trivial
 ·obtain⟨l2,e2,e3⟩:=hA _ _ h ho
  cases e2
  refine zzp.mpr ⟨ha,?_⟩
  by_cases z:a=l
  ·subst z
   exact absurd (by rw[e3];simp) hn
  ·simpa using z
 ·refine zzp.mpr ⟨r.sub a ha,?_⟩
  by_cases z:a=l
  ·subst z
   exact absurd h0 (r.old a ha)
  ·simpa using z
 ·exact⟨fun a ha=>r.liv.m a (zzp.mp ha).1,r.liv.p⟩
theorem RSt.objAt{K:PySem.W.Frag}{M:List Addr}{H:Hp}{σ:St}{ρ:DS}{i:Nat}{q:O}(r:RSt K F M H σ ρ)(h:ρ[i]? = some (.obj q)) :
  ∃v A,σ[i]? = some (some v)/\A.Nodup/\RO K F.pp M H q v A/\(∀a∈A,a∈M/\F.H0 a=none/\F.pp≠some a)/\∀(j:Nat) s o,j≠i->ρ[j]? = some s->σ[j]? = some o->∀l,(∃ds,s=.own ds)->o=some (.ref l)->l∉A:=by
 obtain⟨o,ho,_⟩:=r.at h
 obtain⟨As,k1,k2,k3⟩:=r.ow
 obtain⟨nd,v,rfl,hq⟩:=k1 i _ _ h ho
 refine⟨v,As i,ho,nd,hq,k2 i,fun j s o e h1 h2 l hs ho' hl=>?_⟩
 obtain⟨ds,rfl⟩:=hs
 subst ho'
 obtain⟨l2,e2,e3⟩:=k1 j _ _ h1 h2
 cases e2
 exact k3 j i e l (by rw[e3];simp) hl
theorem RSt.freezeO{K:PySem.W.Frag}{M:List Addr}{H:Hp}{σ:St}{ρ:DS}{i:Nat}{q:O}(r:RSt K F M H σ ρ)(h:ρ[i]? = some (.obj q)) :
  ∃M' v,σ[i]? = some (some v)/\Mv K F.pp M H M' H/\RSt K F M' H σ (ρ.set i (.val (fzO q)))/\Rep K F.pp M' H (fzO q) v:=by
 obtain⟨As,k1,k2,k3⟩:=r.ow
 obtain⟨o,ho,_⟩:=r.at h
 obtain⟨nd,v,rfl,hq⟩:=k1 i _ _ h ho
 have m:Mv K F.pp M H (M.filter fun a=>decide (a∉As i)) H:=.less fun a ha=>(zzp.mp ha).1
 have rl:Rep K F.pp (M.filter fun a=>decide (a∉As i)) H (fzO q) v:=RO.fz m q v (As i) (fun a ha=>⟨fun z=>absurd ha (by simpa using(zzp.mp z).2),(k2 i a ha).2.2⟩) hq
 refine⟨_,_,ho,m,⟨by simp[r.len],fun j s o h1 h2=>?_,⟨fun j=>if j=i then[] else As j,fun j s o e1 e2=>?_,fun j a ha=>?_,fun j l e a ha hb=>?_⟩,fun a ha=>?_,r.same,r.old,?_,r.lk.cl m⟩,rl⟩
 ·by_cases e:i=j
  ·subst e
   rw[ho]at h2
   rw[aS h1]
   cases h2
   exact⟨_,rfl,rl⟩
  ·rw[zzG e]at h1
   have q':=r.sl j s o h1 h2
   cases s with
   |nil=>trivial
   |val d=>obtain⟨v,e,q⟩:=q';exact⟨v,e,q.mv m⟩
   |pin w d=>obtain⟨v,e,ew,q⟩:=q';exact⟨v,e,ew,q.mv m⟩
   |own es =>
    obtain⟨l',ys,rfl,hm',h0',hp',hl',hr'⟩:=q'
    refine⟨l',ys,rfl,zzp.mpr ⟨hm',?_⟩,h0',hp',hl',hr'.mv m⟩
    obtain⟨l2,e2,e3⟩:=k1 j _ _ h1 h2
    cases e2
    simpa using k3 j i (Ne.symm e) l' (by rw[e3];simp)
   |obj q=>exact ‹_›
 ·show Ow K F _ H s o (if j=i then[] else As j)
  by_cases e:j=i
  ·subst e
   rw[aS e1]
   trivial
  ·rw[if_neg e]
   rw[zzG (Ne.symm e)]at e1
   exact(k1 j s o e1 e2).mv m fun a _ x z _=>z
 ·replace ha:a∈(if j=i then[] else As j):=ha
  by_cases e:j=i
  ·rw[if_pos e]at ha;simp at ha
  ·rw[if_neg e]at ha
   exact⟨zzp.mpr ⟨(k2 j a ha).1,by simpa using k3 j i e a ha⟩,(k2 j a ha).2⟩
 ·replace ha:a∈(if j=i then[] else As j):=ha
  replace hb:a∈(if l=i then[] else As l):=hb
  by_cases e1:j=i
  ·rw[if_pos e1]at ha;simp at ha
  ·by_cases e2:l=i
   ·rw[if_pos e2]at hb;simp at hb
   ·rw[if_neg e1]at ha
    rw[if_neg e2]at hb
    exact k3 j l e a ha hb
 ·refine zzp.mpr ⟨r.sub a ha,?_⟩
  have:a∉As i:=fun z=>r.old a ha (k2 i a z).2.1
  simpa using this
 ·exact⟨fun a ha=>r.liv.m a (zzp.mp ha).1,r.liv.p⟩
theorem ac(i:Nat){e:Expr}(h:PE X e (tVar i)):PED X e (dVar i):=by
 refine⟨fun ρ P P' f h=>?_,_,h,fun {F} M H σ ρ Q rs h=>?_⟩
 ·unfold dVar at h ⊢
  cases e:slot ρ i with
  |nil=>rw[e]at h;exact h
  |val d=>rw[e]at h;exact f _ _ h
  |own ds=>rw[e]at h;exact f _ _ h
  |obj q=>rw[e]at h;exact f _ _ h
  |pin w d=>rw[e]at h;exact f _ _ h
 ·unfold dVar at h
  cases e:slot ρ i with
  |nil=>rw[e]at h;exact h.elim
  |val d =>
   rw[e]at h
   obtain⟨o,ho,v,rfl,r⟩:=rs.at (aF e (by intro z;cases z))
   exact⟨v,ho,h M H v .refl rs r⟩
  |pin w d =>
   rw[e]at h
   obtain⟨o,ho,v,rfl,_,r⟩:=rs.at (aF e (by intro z;cases z))
   exact⟨v,ho,h M H v .refl rs r⟩
  |own ds =>
   rw[e]at h
   obtain⟨M',v,ho,m,rs',r⟩:=rs.freeze (aF e (by intro z;cases z))
   exact⟨v,ho,h M' H v m rs' r⟩
  |obj q =>
   rw[e]at h
   obtain⟨M',v,ho,m,rs',r⟩:=rs.freezeO (aF e (by intro z;cases z))
   exact⟨v,ho,h M' H v m rs' r⟩
structure OpD(X:Cx)(f:Value->Value->Sem Value)(g:D->D->(D->Prop)->Prop):Prop where
 mono:∀x y P P',(∀d,P d->P' d)->g x y P->g x y P'
 run:∃r:R2,OpR X f r/\∀{pp:Option Addr} M H x y v u (Q:VK),Lv pp M H->Rep X.K pp M H x v->Rep X.K pp M H y u ->
  g x y (fun d=>∀H' w,SameP X.K pp H H'->Rep X.K pp M H' d w->Q w H')->r v u H Q
abbrev dOp(g:D->D->(D->Prop)->Prop)(ta tb:DE):DE:=fun ρ Q=>ta ρ fun x ρ1=>tb ρ1 fun y ρ2=>g x y fun d=>Q d ρ2
variable{a b c:Expr}{ta tb tc:DE}{pos:Pos}{g g':D->D->(D->Prop)->Prop}
theorem ju{g:D->D->(D->Prop)->Prop}(hg:∀x y P P',(∀d,P d->P' d)->g x y P->g x y P')(ha:PED X a ta)(hb:PED X b tb):∀ρ P P',(∀d ρ',P d ρ'->P' d ρ')->dOp g ta tb ρ P->dOp g ta tb ρ P' :=
 fun ρ _ _ f h=>ha.mono _ _ _ (fun _ _ h=>hb.mono _ _ _ (fun _ _ h=>hg _ _ _ _ (fun _ h=>f _ _ h) h) h) h
theorem pM{g:D->D->(D->Prop)->Prop}{r:R2}{Ta Tb:TE}(hg:∀M H x y v u (Q:VK),Lv F.pp M H->Rep X.K F.pp M H x v->Rep X.K F.pp M H y u ->
   g x y (fun d=>∀H' w,SameP X.K F.pp H H'->Rep X.K F.pp M H' d w->Q w H')->r v u H Q)
  (hgm:∀x y P P',(∀d,P d->P' d)->g x y P->g x y P') (ha:PED X a ta) (hb:PED X b tb)
  (ra:∀M H σ ρ (Q:VK),RSt X.K F M H σ ρ->(ta ρ fun d ρ'=>∀M' H' v,Mv X.K F.pp M H M' H'->RSt X.K F M' H' σ ρ'->Rep X.K F.pp M' H' d v->Q v H')->Ta σ H Q)
  (rb:∀M H σ ρ (Q:VK),RSt X.K F M H σ ρ->(tb ρ fun d ρ'=>∀M' H' v,Mv X.K F.pp M H M' H'->RSt X.K F M' H' σ ρ'->Rep X.K F.pp M' H' d v->Q v H')->Tb σ H Q)
  {M:List Addr}{H:Hp}{σ:St}{ρ:DS}{Q:VK} (rs:RSt X.K F M H σ ρ)
  (h:dOp g ta tb ρ fun d ρ'=>∀M' H' v,Mv X.K F.pp M H M' H'->RSt X.K F M' H' σ ρ'->Rep X.K F.pp M' H' d v->Q v H'):tOp r Ta Tb σ H Q:=by
 refine ra M H σ ρ _ rs (ha.mono _ _ _ (fun x ρ1 h M1 H1 v m1 rs1 r1=>?_) h)
 refine rb M1 H1 σ ρ1 _ rs1 (hb.mono _ _ _ (fun y ρ2 h M2 H2 u m2 rs2 r2=>?_) h)
 refine hg M2 H2 x y v u _ rs2.liv (r1.mv m2) r2 (hgm _ _ _ _ (fun d h H' w s r=>?_) h)
 exact h M2 H' w ((m1.trans m2).trans s.mv) (rs2.sameP s) r
theorem bL{op:Operator}(ho:OpD X (binaryOp op) g)(ha:PED X a ta)(hb:PED X b tb):PED X (.BinOp a op b pos) (dOp g ta tb):=by
 obtain⟨r,hr,hg⟩:=ho.run
 obtain⟨Ta,pa,ra⟩:=ha.run
 obtain⟨Tb,pb,rb⟩:=hb.run
 exact⟨ju ho.mono ha hb,_,dJ hr pa pb,fun {F} M H σ ρ Q rs h=>pM hg ho.mono ha hb ra rb rs h⟩
theorem dO{op:CmpOp}(ho:OpD X (compareOp op) g)(ha:PED X a ta)(hb:PED X b tb)(hm:behindInMarks op b=false):PED X (.Compare a [op] [b] pos) (dOp g ta tb):=by
 obtain⟨r,hr,hg⟩:=ho.run
 obtain⟨Ta,pa,ra⟩:=ha.run
 obtain⟨Tb,pb,rb⟩:=hb.run
 exact⟨ju ho.mono ha hb,_,Ce hr pa pb hm,fun {F} M H σ ρ Q rs h=>pM hg ho.mono ha hb ra rb rs h⟩
def blD:D->(Bool->Prop)->Prop
 |.bl b,P=>P b
 |_,_=>False
theorem lW{d:D}{P P':Bool->Prop}(f:∀b,P b->P' b)(h:blD d P):blD d P':=by cases d<;>first|exact h|exact f _ h
abbrev dB(t:DE):DT:=fun ρ Q=>t ρ fun d ρ'=>blD d fun b=>Q b ρ'
theorem mM{K:PySem.W.Frag}{pp:Option Addr}{M:List Addr}{H:Hp}{d:D}{v:V}{P:Bool->Prop}(r:Rep K pp M H d v)(h:blD d P):∃k,v=.bl k/\P k:=by
 cases d<;>first|exact h.elim | (simp only[Rep]at r;exact⟨_,r,h⟩)
theorem xM(ha:PED X a ta):∀ρ P P',(∀b ρ',P b ρ'->P' b ρ')->dB ta ρ P->dB ta ρ P':=fun _ _ _ f h=>ha.mono _ _ _ (fun _ _ h=>lW (fun _ h=>f _ _ h) h) h
theorem aG{op:CmpOp}(ho:OpD X (compareOp op) g)(ha:PED X a ta)(hb:PED X b tb)(hm:behindInMarks op b=false):PTD X (.Compare a [op] [b] pos) (dB (dOp g ta tb)):=by
 obtain⟨r,hr,hg⟩:=ho.run
 obtain⟨Ta,pa,ra⟩:=ha.run
 obtain⟨Tb,pb,rb⟩:=hb.run
 refine⟨xM (X:=X) (a:=.Compare a [op] [b] pos) (dO ho ha hb hm),_,mC hr pa pb hm,fun {F} M H σ ρ Q rs h=>?_⟩
 refine pM hg ho.mono ha hb ra rb rs (ju ho.mono ha hb _ _ _ (fun d ρ' h M' H' v m rs' r=>?_) h)
 obtain⟨k,e,h⟩:=mM r h
 exact⟨k,e,h M' H' m rs'⟩
theorem cE{e:Expr}{t:DE}(h:PED X e t)(he:∀whole,isTrue e X.env whole=(do let v ←whole;standAt e.pos;holding [v] (truthy v)):=by intro _;rfl):PTD X e (dB t):=by
 obtain⟨T,p,r⟩:=h.run
 refine⟨xM h,_,DY p he,fun {F} M H σ ρ Q rs q=>?_⟩
 refine r M H σ ρ _ rs (h.mono _ _ _ (fun d ρ' h M' H' v m rs' r=>?_) q)
 obtain⟨k,e,h⟩:=mM r h
 exact⟨k,e,h M' H' m rs'⟩
structure Br(b:Bool)(A B:Prop):Prop where
 yes:b=true->A
 no:b=false->B
theorem Br.t{A B:Prop}(h:A):Br true A B:=⟨fun _=>h,fun e=>nomatch e⟩
theorem Br.f{A B:Prop}(h:B):Br false A B:=⟨(fun e=>nomatch e),fun _=>h⟩
abbrev dNot(t:DT):DT:=fun ρ Q=>t ρ fun b ρ'=>Q (!b) ρ'
abbrev dAnd(t u:DT):DT:=fun ρ Q=>t ρ fun b ρ'=>Br b (u ρ' Q) (Q false ρ')
abbrev dOr(t u:DT):DT:=fun ρ Q=>t ρ fun b ρ'=>Br b (Q true ρ') (u ρ' Q)
variable{tA tB:DT}{rest:List Expr}
theorem de(h:PTD X a tA):PTD X (.UnaryOp .Not a pos) (dNot tA):=by
 obtain⟨T,p,r⟩:=h.run
 exact⟨fun _ _ _ f q=>h.mono _ _ _ (fun _ _ q=>f _ _ q) q,_,Eb p,fun {F} M H σ ρ Q rs q=>r M H σ ρ _ rs q⟩
theorem PWD.pt{e:Expr}{t:DT}(h:PWD X e t):PTD X e t:=by
 obtain⟨T,p,r⟩:=h.run
 exact⟨h.mono,T,p.pt,r⟩
theorem mO(h:PTD X a tA):PWD X (.BoolOp .And [a] pos) tA:=by
 obtain⟨T,p,r⟩:=h.run
 exact⟨h.mono,T,BZ p,r⟩
theorem fY(h:PTD X a tA):PWD X (.BoolOp .Or [a] pos) tA:=by
 obtain⟨T,p,r⟩:=h.run
 exact⟨h.mono,T,Be p,r⟩
theorem oI(ha:PTD X a tA)(hb:PWD X (.BoolOp .And (b::rest) pos) tB):PWD X (.BoolOp .And (a::b::rest) pos) (dAnd tA tB):=by
 obtain⟨T,p,r⟩:=ha.run
 obtain⟨U,q,s⟩:=hb.run
 refine⟨fun _ _ _ f h=>ha.mono _ _ _ (fun _ _ h=>⟨fun e=>hb.mono _ _ _ f (h.yes e),fun e=>f _ _ (h.no e)⟩) h,_,DZ p q,fun {F} M H σ ρ Q rs h=>?_⟩
 refine r M H σ ρ _ rs (ha.mono _ _ _ (fun c ρ1 h M1 H1 m1 rs1=>?_) h)
 cases c with
 |true=>exact iteT (s M1 H1 σ ρ1 _ rs1 (hb.mono _ _ _ (fun c ρ2 h M2 H2 m2 rs2=>h M2 H2 (m1.trans m2) rs2) (h.yes rfl)))
 |false=>exact iteF (h.no rfl M1 H1 m1 rs1)
theorem lN(ha:PTD X a tA)(hb:PWD X (.BoolOp .Or (b::rest) pos) tB):PWD X (.BoolOp .Or (a::b::rest) pos) (dOr tA tB):=by
 obtain⟨T,p,r⟩:=ha.run
 obtain⟨U,q,s⟩:=hb.run
 refine⟨fun _ _ _ f h=>ha.mono _ _ _ (fun _ _ h=>⟨fun e=>f _ _ (h.yes e),fun e=>hb.mono _ _ _ f (h.no e)⟩) h,_,Ea p q,fun {F} M H σ ρ Q rs h=>?_⟩
 refine r M H σ ρ _ rs (ha.mono _ _ _ (fun c ρ1 h M1 H1 m1 rs1=>?_) h)
 cases c with
 |true=>exact iteT (h.yes rfl M1 H1 m1 rs1)
 |false=>exact iteF (s M1 H1 σ ρ1 _ rs1 (hb.mono _ _ _ (fun c ρ2 h M2 H2 m2 rs2=>h M2 H2 (m1.trans m2) rs2) (h.no rfl)))
abbrev GD(t:DE):DE:=fun ρ Q=>t ρ fun d ρ'=>blD d fun b=>Q (.bl (!b)) ρ'
abbrev GE(t u:DE):DE:=fun ρ Q=>t ρ fun d ρ'=>blD d fun b=>Br b (u ρ' Q) (Q (.bl false) ρ')
theorem eY{K:PySem.W.Frag}{pp:Option Addr}{M:List Addr}{H:Hp}{b:Bool}:Rep K pp M H (.bl b) (.bl b):=by simp only[Rep]
theorem bM{K:PySem.W.Frag}{pp:Option Addr}{M:List Addr}{H:Hp}{b:Int}:Rep K pp M H (.int b) (.int b):=by simp only[Rep]
theorem oJ{op}{t:DE}(h:PED X a t):PED X (.BoolOp op [a] pos) t:=by
 obtain⟨T,p,r⟩:=h.run
 exact⟨h.mono,T,Ec p,r⟩
theorem EV(h:PED X a ta):PED X (.UnaryOp .Not a pos) (GD ta):=by
 obtain⟨T,p,r⟩:=h.run
 refine⟨fun _ _ _ f q=>h.mono _ _ _ (fun _ _ q=>lW (fun _ q=>f _ _ q) q) q,_,Ee p,fun {F} M H σ ρ Q rs q=>r M H σ ρ _ rs (h.mono _ _ _ (fun d ρ' q M' H' v m rs' r=>?_) q)⟩
 obtain⟨k,e,q⟩:=mM r q
 exact⟨k,e,q M' H' _ m rs' eY⟩
theorem oK(ha:PED X a ta)(hb:PED X (.BoolOp .And (b::rest) pos) tb):PED X (.BoolOp .And (a::b::rest) pos) (GE ta tb):=by
 obtain⟨T,p,r⟩:=ha.run
 obtain⟨U,q,s⟩:=hb.run
 refine⟨fun _ _ _ f h=>ha.mono _ _ _ (fun _ _ h=>lW (fun _ h=>⟨fun e=>hb.mono _ _ _ f (h.yes e),fun e=>f _ _ (h.no e)⟩) h) h,_,Ed p q,fun {F} M H σ ρ Q rs h=>?_⟩
 refine r M H σ ρ _ rs (ha.mono _ _ _ (fun d ρ1 h M1 H1 v m1 rs1 r1=>?_) h)
 obtain⟨c,e,h⟩:=mM r1 h
 refine⟨c,e,?_⟩
 cases c with
 |true=>exact iteT (s M1 H1 σ ρ1 _ rs1 (hb.mono _ _ _ (fun c ρ2 h M2 H2 v m2 rs2=>h M2 H2 v (m1.trans m2) rs2) (h.yes rfl)))
 |false=>exact iteF (h.no rfl M1 H1 _ m1 rs1 eY)
abbrev dIf(t:DT)(ta tb:DE):DE:=fun ρ Q=>t ρ fun b ρ'=>Br b (ta ρ' Q) (tb ρ' Q)
theorem uK{c:Expr}(hc:PTD X c tA)(ha:PED X a ta)(hb:PED X b tb):PED X (.IfExp c a b pos) (dIf tA ta tb):=by
 obtain⟨T,p,r⟩:=hc.run
 obtain⟨U,q,s⟩:=ha.run
 obtain⟨U',q',s'⟩:=hb.run
 refine⟨fun _ _ _ f h=>hc.mono _ _ _ (fun _ _ h=>⟨fun e=>ha.mono _ _ _ f (h.yes e),fun e=>hb.mono _ _ _ f (h.no e)⟩) h,_,zL p q q',fun {F} M H σ ρ Q rs h=>?_⟩
 refine r M H σ ρ _ rs (hc.mono _ _ _ (fun c ρ1 h M1 H1 m1 rs1=>?_) h)
 cases c with
 |true=>exact iteT (s M1 H1 σ ρ1 _ rs1 (ha.mono _ _ _ (fun c ρ2 h M2 H2 v m2 rs2=>h M2 H2 v (m1.trans m2) rs2) (h.yes rfl)))
 |false=>exact iteF (s' M1 H1 σ ρ1 _ rs1 (hb.mono _ _ _ (fun c ρ2 h M2 H2 v m2 rs2=>h M2 H2 v (m1.trans m2) rs2) (h.no rfl)))
abbrev uL(g g':D->D->(D->Prop)->Prop)(ta tb tc:DE):DE:=fun ρ Q=>ta ρ fun x ρ1=>tb ρ1 fun y ρ2=>g x y fun d=>blD d fun k=>Br k (tc ρ2 fun z ρ3=>g' y z fun d=>Q d ρ3) (Q (.bl false) ρ2)
theorem sY(ho:∀x y P P',(∀d,P d->P' d)->g x y P->g x y P')(ho':∀x y P P',(∀d,P d->P' d)->g' x y P->g' x y P')(ha:PED X a ta)(hb:PED X b tb)(hc:PED X c tc) :
  ∀ρ P P',(∀d ρ',P d ρ'->P' d ρ')->uL g g' ta tb tc ρ P->uL g g' ta tb tc ρ P' :=
 fun _ _ _ f h=>ha.mono _ _ _ (fun _ _ h=>hb.mono _ _ _ (fun _ _ h=>ho _ _ _ _ (fun _ h=>lW (fun _ h=>⟨fun e=>hc.mono _ _ _ (fun _ _ h=>ho' _ _ _ _ (fun _ h=>f _ _ h) h) (h.yes e),fun e=>f _ _ (h.no e)⟩) h) h) h) h
theorem we{op op':CmpOp}(ho:OpD X (compareOp op) g)(ho':OpD X (compareOp op') g')(ha:PED X a ta)(hb:PED X b tb)(hc:PED X c tc)  :
  ∃(r r':R2) (Ta Tb Tc:TE),OpR X (compareOp op) r/\OpR X (compareOp op') r'/\PE X a Ta/\PE X b Tb/\PE X c Tc/\∀{F:Fx} M H σ ρ (Q:VK),RSt X.K F M H σ ρ ->
  (uL g g' ta tb tc ρ fun d ρ'=>∀M' H' v,Mv X.K F.pp M H M' H'->RSt X.K F M' H' σ ρ'->Rep X.K F.pp M' H' d v->Q v H')->Bf r r' Ta Tb Tc σ H Q:=by
 obtain⟨r,hr,hg⟩:=ho.run
 obtain⟨r',hr',hg'⟩:=ho'.run
 obtain⟨Ta,pa,ra⟩:=ha.run
 obtain⟨Tb,pb,rb⟩:=hb.run
 obtain⟨Tc,pc,rc⟩:=hc.run
 refine⟨r,r',Ta,Tb,Tc,hr,hr',pa,pb,pc,fun {F} M H σ ρ Q rs h=>?_⟩
 refine ra M H σ ρ _ rs (ha.mono _ _ _ (fun x ρ1 h M1 H1 v m1 rs1 r1=>?_) h)
 refine rb M1 H1 σ ρ1 _ rs1 (hb.mono _ _ _ (fun y ρ2 h M2 H2 u m2 rs2 r2=>?_) h)
 refine hg M2 H2 x y v u _ rs2.liv (r1.mv m2) r2 (ho.mono _ _ _ _ (fun d h H' w s r=>?_) h)
 obtain⟨k,e,h⟩:=mM r h
 refine⟨k,e,?_⟩
 have rs3:=rs2.sameP s
 have m3:Mv X.K F.pp M H M2 H':=(m1.trans m2).trans s.mv
 cases k with
 |false=>exact iteF (h.no rfl M2 H' _ m3 rs3 eY)
 |true =>
  refine iteT (rc M2 H' σ ρ2 _ rs3 (hc.mono _ _ _ (fun z ρ3 h M4 H4 w' m4 rs4 r4=>?_) (h.yes rfl)))
  refine hg' M4 H4 y z u w' _ rs4.liv ((r2.mv s.mv).mv m4) r4 (ho'.mono _ _ _ _ (fun d h H5 w s r=>?_) h)
  exact h M4 H5 w ((m3.trans m4).trans s.mv) (rs4.sameP s) r
theorem uM{op op':CmpOp}(ho:OpD X (compareOp op) g)(ho':OpD X (compareOp op') g')(ha:PED X a ta)(hb:PED X b tb)(hc:PED X c tc)
  (hm:lastMarks [op,op'] [b,c]=false:=by with_unfolding_all rfl):PED X (.Compare a [op,op'] [b,c] pos) (uL g g' ta tb tc):=by
 obtain⟨r,r',Ta,Tb,Tc,hr,hr',pa,pb,pc,h⟩:=we ho ho' ha hb hc
 exact⟨sY ho.mono ho'.mono ha hb hc,_,zP hr hr' pa pb pc hm,h⟩
variable{tL:DA}{es:List Expr}{e:Expr}
abbrev qS:DA:=fun ρ Q=>Q [] ρ
abbrev jv(t:DE)(u:DA):DA:=fun ρ Q=>t ρ fun x ρ1=>u ρ1 fun xs ρ2=>Q (x::xs) ρ2
theorem ad:PAD X [] qS:=⟨fun _ _ _ f h=>f _ _ h,_,da,fun {F} M H _ _ _ rs h=>h M H [] .refl rs .nil⟩
theorem aa(ha:PED X e ta)(hr:PAD X es tL)(hs:starEach (e::es) X.env=(false,eval e X.env)::starEach es X.env:=by rfl):PAD X (e::es) (jv ta tL):=by
 obtain⟨T,p,r⟩:=ha.run
 obtain⟨U,q,s⟩:=hr.run
 refine⟨fun _ _ _ f h=>ha.mono _ _ _ (fun _ _ h=>hr.mono _ _ _ (fun _ _ h=>f _ _ h) h) h,_,bC p q hs,fun {F} M H σ ρ Q rs h=>?_⟩
 refine r M H σ ρ _ rs (ha.mono _ _ _ (fun x ρ1 h M1 H1 v m1 rs1 r1=>?_) h)
 exact s M1 H1 σ ρ1 _ rs1 (hr.mono _ _ _ (fun ds ρ2 h M2 H2 vs m2 rs2 r2=>h M2 H2 (v::vs) (m1.trans m2) rs2 (.cons (r1.mv m2) r2)) h)
abbrev dTup(t:DA):DE:=fun ρ Q=>t ρ fun xs ρ1=>xs.length <= sizeLine/\Q (.tup xs) ρ1
theorem aR{x1}(h:PAD X es tL):PED X (.Tuple es x1 pos) (dTup tL):=by
 obtain⟨T,p,r⟩:=h.run
 refine⟨fun _ _ _ f q=>h.mono _ _ _ (fun _ _ q=>⟨q.1,f _ _ q.2⟩) q,_,Es p,fun {F} M H σ ρ Q rs q=>?_⟩
 refine r M H σ ρ _ rs (h.mono _ _ _ (fun ds ρ1 q M1 H1 vs m1 rs1 r1=>?_) q)
 refine⟨by rw[←r1.length];exact q.1,fun l hl=>?_⟩
 refine q.2 M1 _ _ (m1.trans (.new hl)) (rs1.sameP (.new hl)) ?_
 simp only[Rep]
 exact⟨l,vs,rfl,ak,r1.mv (.new hl)⟩
structure PLD(X:Cx)(e:Expr)(t:DA):Prop where
 mono:∀ρ P P',(∀d ρ',P d ρ'->P' d ρ')->t ρ P->t ρ P'
 run:∃T:TE,PE X e T/\∀{F:Fx} M H σ ρ (Q:VK),RSt X.K F M H σ ρ ->
  (t ρ fun ds ρ'=>∀M' H1 H' l xs,Mv X.K F.pp M H M' H1->RSt X.K F M' H1 σ ρ'->H1 l=none->H'=upd H1 l (.lst xs)->Reps X.K F.pp M' H1 ds xs->Q (.ref l) H')->T σ H Q
abbrev dLst(t:DA):DA:=fun ρ Q=>t ρ fun xs ρ1=>xs.length <= sizeLine/\Q xs ρ1
theorem bD(h:PAD X es tL):PLD X (.List es pos) (dLst tL):=by
 obtain⟨T,p,r⟩:=h.run
 refine⟨fun _ _ _ f q=>h.mono _ _ _ (fun _ _ q=>⟨q.1,f _ _ q.2⟩) q,_,uA p,fun {F} M H σ ρ Q rs q=>?_⟩
 refine r M H σ ρ _ rs (h.mono _ _ _ (fun ds ρ1 q M1 H1 vs m1 rs1 r1=>?_) q)
 exact⟨by rw[←r1.length];exact q.1,fun l hl=>q.2 M1 H1 _ l vs m1 rs1 hl rfl r1⟩
abbrev dFrz(t:DA):DE:=fun ρ Q=>t ρ fun xs ρ1=>Q (.lst xs) ρ1
theorem aN(h:PLD X e tL):PED X e (dFrz tL):=by
 obtain⟨T,p,r⟩:=h.run
 refine⟨fun _ _ _ f q=>h.mono _ _ _ (fun _ _ q=>f _ _ q) q,T,p,fun {F} M H σ ρ Q rs q=>?_⟩
 refine r M H σ ρ _ rs (h.mono _ _ _ (fun ds ρ1 q M1 H1 H' l xs m1 rs1 hl e r1=>?_) q)
 subst e
 refine q M1 _ _ (m1.trans (.new hl)) (rs1.sameP (.new hl)) ?_
 simp only[Rep]
 exact⟨l,xs,rfl,(rs1.liv.fresh hl).1,(rs1.liv.fresh hl).2,ak,r1.mv (.new hl)⟩
end
abbrev DSp:=List D->(D->Prop)->Prop
def spD(K:PySem.W.Frag)(n:Nat)(g:DSp):Sp:=fun vs H Q _=>∃pp M ds,Lv pp M H/\Reps K pp M H ds vs/\ds.length=n/\g ds (fun d=>∀H' v,SameP K pp H H'->Rep K pp M H' d v->Q v H')
def aY(g:DSp):Prop:=∀ds P P',(∀d,P d->P' d)->g ds P->g ds P'
structure CallD(X:Cx)(f:Value)(g:DSp):Prop where
 mono:aY g
 run:∃r:List V->Hp->VK->Prop,eV X f r/\∀{pp:Option Addr} M H ds vs (Q:VK),Lv pp M H->Reps X.K pp M H ds vs->g ds (fun d=>∀H' w,SameP X.K pp H H'->Rep X.K pp M H' d w->Q w H')->r vs H Q
abbrev dCB(g:DSp)(t:DA):DE:=fun ρ Q=>t ρ fun ds ρ1=>g ds fun d=>Q d ρ1
abbrev zY(n:Nat)(g:DSp)(t:DA):DE:=fun ρ Q=>t ρ fun ds ρ1=>ds.length=n/\g ds fun d=>Q d ρ1
section
variable{X:Cx}{F:Fx}{x:Str}{p pos:Pos}{e:Expr}{es:List Expr}{t:DA}{id T:String}{g:DSp}
theorem au(hc:CallD X (.builtin id) g)(hg:Gl X x)(hm:X.mg x=none)(hv:bootBuiltins x=some (.builtin id))(ha:PAD X (e::es) t)(hn:x ≠ "__name__":=by decide)(hdb:(x == ("__debug__" : Str))=false:=by decide)
  (he:starEach (e::es) X.env=(false,eval e X.env)::starEach es X.env:=by rfl) (hpl:(backTo pos (starEach es X.env)).any (·.1)=false:=by rfl):PED X (.Call (.Name x p) (e::es) [] pos) (dCB g t):=by
 obtain⟨r,hr,h⟩:=hc.run
 obtain⟨T,pa,ra⟩:=ha.run
 refine⟨fun _ _ _ f q=>ha.mono _ _ _ (fun _ _ q=>hc.mono _ _ _ (fun _ q=>f _ _ q) q) q,_,jn hr hg hm hv pa hn hdb he hpl,fun {F} M H σ ρ Q rs q=>?_⟩
 refine ra M H σ ρ _ rs (ha.mono _ _ _ (fun ds ρ1 q M1 H1 vs m1 rs1 r1=>?_) q)
 exact h M1 H1 ds vs _ rs1.liv r1 (hc.mono _ _ _ (fun d q H' w s r=>q M1 H' w (m1.trans s.mv) (rs1.sameP s) r) q)
theorem aU(hc:CallD X (.type T) g)(hg:Gl X x)(hm:X.mg x=none)(hv:bootBuiltins x=some (.type T))(ha:PAD X (e::es) t)(hn:x ≠ "__name__":=by decide)(hdb:(x == ("__debug__" : Str))=false:=by decide)
  (he:starEach (e::es) X.env=(false,eval e X.env)::starEach es X.env:=by rfl) (hpl:(backTo pos (starEach es X.env)).any (·.1)=false:=by rfl):PED X (.Call (.Name x p) (e::es) [] pos) (dCB g t):=by
 obtain⟨r,hr,h⟩:=hc.run
 obtain⟨T,pa,ra⟩:=ha.run
 refine⟨fun _ _ _ f q=>ha.mono _ _ _ (fun _ _ q=>hc.mono _ _ _ (fun _ q=>f _ _ q) q) q,_,qF hr hg hm hv pa hn hdb he hpl,fun {F} M H σ ρ Q rs q=>?_⟩
 refine ra M H σ ρ _ rs (ha.mono _ _ _ (fun ds ρ1 q M1 H1 vs m1 rs1 r1=>?_) q)
 exact h M1 H1 ds vs _ rs1.liv r1 (hc.mono _ _ _ (fun d q H' w s r=>q M1 H' w (m1.trans s.mv) (rs1.sameP s) r) q)
theorem ai{k n:Nat}{f:Addr}{fd:FuncData}{ps:List Str}(Fn:FnOk X.prog X.w X.K X.mg X.base CX0 k f fd ps (spD X.K n g))(gm:aY g)(hr:Room k X.A)(hg:Gl X x)(hm:X.mg x=some (.ref f))(hk:PySem.W.keepIn X.K (.ref f)=true)(hb:Binds X.K fd ps [])
  (ha:PAD X (e::es) t) (hdb:(x == ("__debug__" : Str))=false:=by decide) (he:starEach (e::es) X.env=(false,eval e X.env)::starEach es X.env:=by rfl) (hpl:(backTo pos (starEach es X.env)).any (·.1)=false:=by rfl) :
  PED X (.Call (.Name x p) (e::es) [] pos) (zY n g t):=by
 obtain⟨T,pa,ra⟩:=ha.run
 refine⟨fun _ _ _ f q=>ha.mono _ _ _ (fun _ _ q=>⟨q.1,gm _ _ _ (fun _ q=>f _ _ q) q.2⟩) q,_,sK Fn hr hg hm hk hb .nil Cp pa hdb he hpl,fun {F} M H σ ρ Q rs q=>?_⟩
 refine ra M H σ ρ _ rs (ha.mono _ _ _ (fun ds ρ1 q M1 H1 vs m1 rs1 r1=>?_) q)
 rw[zzy]
 exact⟨F.pp,M1,ds,rs1.liv,r1,q.1,gm _ _ _ (fun d q H' w s r=>q M1 H' w (m1.trans s.mv) (rs1.sameP s) r) q.2⟩
end
structure EO(K:PySem.W.Frag)(F:Fx)(M:List Addr)(H:Hp)(E:DEnds)(D:Ends):Prop where
 nx:∀M' H' σ' ρ',Mv K F.pp M H M' H'->RSt K F M' H' σ' ρ'->E.nx ρ'->D.nx σ' H'
 bk:∀M' H' σ' ρ',Mv K F.pp M H M' H'->RSt K F M' H' σ' ρ'->E.bk ρ'->D.bk σ' H'
 ct:∀M' H' σ' ρ',Mv K F.pp M H M' H'->RSt K F M' H' σ' ρ'->E.ct ρ'->D.ct σ' H'
 rt:∀M' H' σ' ρ' d v,Mv K F.pp M H M' H'->RSt K F M' H' σ' ρ'->Rep K F.pp M' H' d v->E.rt d->D.rt v H'
theorem EO.mv{K:PySem.W.Frag}{F:Fx}{M M1:List Addr}{H H1:Hp}{E:DEnds}{D:Ends}(o:EO K F M H E D)(m:Mv K F.pp M H M1 H1):EO K F M1 H1 E D :=
 ⟨fun _ _ _ _ m'=>o.nx _ _ _ _ (m.trans m'),fun _ _ _ _ m'=>o.bk _ _ _ _ (m.trans m'),fun _ _ _ _ m'=>o.ct _ _ _ _ (m.trans m'),fun _ _ _ _ _ _ m'=>o.rt _ _ _ _ _ _ (m.trans m')⟩
def PSD(X:Cx)(st:Stmt)(t:DTS):Prop:=∃T:TS,PS X st T/\∀{F:Fx} M H σ ρ (E:DEnds) (D:Ends),RSt X.K F M H σ ρ->EO X.K F M H E D->t E ρ->T D σ H
def PSsD(X:Cx)(st:List Stmt)(t:DTS):Prop:=∃T:TS,PSs X st T/\∀{F:Fx} M H σ ρ (E:DEnds) (D:Ends),RSt X.K F M H σ ρ->EO X.K F M H E D->t E ρ->T D σ H
section
variable{X:Cx}{F:Fx}{st:Stmt}{rest a b:List Stmt}{t u:DTS}{e c:Expr}{te:DE}{tc:DT}{tl:DA}{pos:Pos}
abbrev GF:DTS:=fun E ρ=>E.nx ρ
abbrev dSeq(t u:DTS):DTS:=fun E ρ=>t { E with nx:=u E } ρ
abbrev dMid(t u:DTS):DTS:=fun E ρ=>∃N:DS->Prop,t { E with nx:=N } ρ/\∀ρ',N ρ'->u E ρ'
theorem aA:PSsD X [] GF:=⟨_,pA,fun {F} M H σ ρ E D rs o h=>o.nx M H σ ρ .refl rs h⟩
theorem ag(h:PSD X st t):PSsD X [st] t:=by
 obtain⟨T,p,r⟩:=h
 exact⟨T,ft p,r⟩
theorem ah(h1:PSD X st t)(h2:PSsD X rest u):PSsD X (st::rest) (dSeq t u):=by
 obtain⟨T,p,r⟩:=h1
 obtain⟨U,q,s⟩:=h2
 refine⟨_,bI p q,fun {F} M H σ ρ E D rs o h=>r M H σ ρ { E with nx:=u E } { D with nx:=U D } rs ⟨fun M' H' σ' ρ' m rs' h=>?_,o.bk,o.ct,o.rt⟩ h⟩
 exact s M' H' σ' ρ' E D rs' (o.mv m) h
theorem aZ(h1:PSD X st t)(h2:PSsD X rest u):PSsD X (st::rest) (dMid t u):=by
 obtain⟨T,p,r⟩:=h1
 obtain⟨U,q,s⟩:=h2
 refine⟨_,bI p q,fun {F} M H σ ρ E D rs o h=>?_⟩
 obtain⟨N,h,hn⟩:=h
 refine r M H σ ρ { E with nx:=N } { D with nx:=U D } rs ⟨fun M' H' σ' ρ' m rs' h=>?_,o.bk,o.ct,o.rt⟩ h
 exact s M' H' σ' ρ' E D rs' (o.mv m) (hn _ h)
abbrev EW:DTS:=fun _ _=>False
theorem eE:PSD X st EW:=⟨_,zN,fun _ _ _ _ _ _ _ _ h=>h⟩
abbrev dRet(te:DE):DTS:=fun E ρ=>te ρ fun d _=>E.rt d
theorem ax(h:PED X e te):PSD X (.Return (some e) pos) (dRet te):=by
 obtain⟨T,p,r⟩:=h.run
 refine⟨_,mz p,fun {F} M H σ ρ E D rs o q=>r M H σ ρ _ rs (h.mono _ _ _ (fun d ρ' q M' H' v m rs' r'=>?_) q)⟩
 exact o.rt M' H' σ ρ' d v m rs' r' q
abbrev GG(te:DE):DTS:=fun E ρ=>te ρ fun _ ρ'=>E.nx ρ'
theorem gc(h:PED X e te)(hs:swapsWith e none pos.line X.env=pure false:=by rfl):PSD X (.Expr e pos) (GG te):=by
 obtain⟨T,p,r⟩:=h.run
 refine⟨_,jY p hs,fun {F} M H σ ρ E D rs o q=>r M H σ ρ _ rs (h.mono _ _ _ (fun d ρ' q M' H' v m rs' r'=>?_) q)⟩
 exact o.nx M' H' σ ρ' m rs' q
abbrev dIfS(c:DT)(t u:DTS):DTS:=fun E ρ=>c ρ fun b ρ'=>Br b (t E ρ') (u E ρ')
theorem bx(hc:PTD X c tc)(ha:PSsD X a t)(hb:PSsD X b u):PSD X (.If c a b pos) (dIfS tc t u):=by
 obtain⟨T,p,r⟩:=hc.run
 obtain⟨U,q,s⟩:=ha
 obtain⟨U',q',s'⟩:=hb
 refine⟨_,zM p q q',fun {F} M H σ ρ E D rs o h=>r M H σ ρ _ rs (hc.mono _ _ _ (fun k ρ1 h M1 H1 m1 rs1=>?_) h)⟩
 cases k with
 |true=>exact iteT (s M1 H1 σ ρ1 E D rs1 (o.mv m1) (h.yes rfl))
 |false=>exact iteF (s' M1 H1 σ ρ1 E D rs1 (o.mv m1) (h.no rfl))
abbrev dSet(i:Nat)(te:DE):DTS:=fun E ρ=>te ρ fun d ρ'=>E.nx (ρ'.set i (.val d))
theorem aM{i:Nat}{x:Str}{pos':Pos}(hN:X.N.Nodup)(hi:X.N[i]? = some x)(hx:Loc X.env.scope x)(h:PED X e te)(hs:swapsWith e (some (.Name x pos')) pos.line X.env=pure false:=by rfl)(hf:X.fn x=true∨X.env.scope.names.lookup x=some .local:=by first|exact .inl rfl|exact .inr rfl|assumption) :
  PSD X (.Assign [.Name x pos'] e pos) (dSet i te):=by
 obtain⟨T,p,r⟩:=h.run
 refine⟨_,jm hN hi hx p hs hf,fun {F} M H σ ρ E D rs o q=>r M H σ ρ _ rs (h.mono _ _ _ (fun d ρ' q M' H' v m rs' r'=>?_) q)⟩
 exact o.nx M' H' _ _ m (rs'.set r' i) q
abbrev dOwn(i:Nat)(t:DA):DTS:=fun E ρ=>t ρ fun ds ρ'=>E.nx (ρ'.set i (.own ds))
theorem RSt.newOwn{K:PySem.W.Frag}{M:List Addr}{H:Hp}{σ:St}{ρ:DS}{l:Addr}{xs:List V}{ds:List D}(r:RSt K F M H σ ρ)(hl:H l=none)(hd:Reps K F.pp M H ds xs)(i:Nat) :
  RSt K F (l::M) (upd H l (.lst xs)) (σ.set i (some (.ref l))) (ρ.set i (.own ds)):=by
 have m:Mv K F.pp M H (l::M) (upd H l (.lst xs)):=.newOwn hl
 have s:SameP K F.pp H (upd H l (.lst xs)):=.new hl
 have h0:F.H0 l=none:=by
  cases e:F.H0 l with
  |none=>rfl
  |some o=>exact absurd hl (r.same.live l (by rw[e];intro z;cases z))
 refine⟨by simp[r.len],fun j q o h1 h2=>?_,r.ow.step m i (fun j e=>zzG (Ne.symm e)) (fun j e=>zzG (Ne.symm e)) (fun A _ _=>⟨[l],fun s o e1 e2=>?_,fun b hb=>?_,fun a ha hp h0' _=>⟨zzb _ ha,fun x e _=>kg hl e⟩⟩),fun a ha=>zzb _ (r.sub a ha),r.same.trans s.toSameQ,r.old,?_,r.lk.cl m⟩
 ·by_cases e:i=j
  ·subst e
   rw[aS h1,aS h2]
   exact⟨l,xs,rfl,zzd,h0,(r.liv.fresh hl).2,ak,hd.mv m⟩
  ·rw[zzG e]at h1 h2
   have q':=r.sl j q o h1 h2
   cases q with
   |nil=>trivial
   |val d=>obtain⟨v,e,q⟩:=q';exact⟨v,e,q.mv m⟩
   |pin w d=>obtain⟨v,e,ew,q⟩:=q';exact⟨v,e,ew,q.mv m⟩
   |own es =>
    obtain⟨l',ys,rfl,hm',h0',hp',hl',hr'⟩:=q'
    exact⟨l',ys,rfl,zzb _ hm',h0',hp',kg hl hl',hr'.mv m⟩
   |obj q=>exact q'
 ·rw[aS e1,aS e2]
  exact⟨l,rfl,rfl⟩
 ·rw[zzx.mp hb]
  exact⟨zzd,h0,(r.liv.fresh hl).2,.inr (r.liv.fresh hl).1⟩
 ·refine⟨fun a ha=>?_,fun p e=>s.live p (r.liv.p p e)⟩
  rcases zzj.mp ha with rfl|ha
  ·rw[ak];intro z;cases z
  ·exact s.live a (r.liv.m a ha)
theorem jw{i:Nat}{x:Str}{pos':Pos}(hN:X.N.Nodup)(hi:X.N[i]? = some x)(hx:Loc X.env.scope x)(h:PLD X e tl)(hs:swapsWith e (some (.Name x pos')) pos.line X.env=pure false:=by rfl)(hf:X.fn x=true∨X.env.scope.names.lookup x=some .local:=by first|exact .inl rfl|exact .inr rfl|assumption) :
  PSD X (.Assign [.Name x pos'] e pos) (dOwn i tl):=by
 obtain⟨T,p,r⟩:=h.run
 refine⟨_,jm hN hi hx p hs hf,fun {F} M H σ ρ E D rs o q=>r M H σ ρ _ rs (h.mono _ _ _ (fun ds ρ' q M' H1 H' l xs m rs' hl e r'=>?_) q)⟩
 subst e
 exact o.nx _ _ _ _ (m.trans (.newOwn hl)) (rs'.newOwn hl r' i) q
abbrev DG:=D->DS->(DS->Prop)->Prop
structure PGD(X:Cx)(tg:Expr)(g:DG):Prop where
 mono:∀d ρ P P',(∀ρ',P ρ'->P' ρ')->g d ρ P->g d ρ P'
 run:∃G:TG,PG X tg G/\∀{F:Fx} M H σ ρ d v (Q:St->Hp->Prop),RSt X.K F M H σ ρ->Rep X.K F.pp M H d v->(g d ρ fun ρ'=>∀M' H' σ',Mv X.K F.pp M H M' H'->RSt X.K F M' H' σ' ρ'->Q σ' H')->G v σ H Q
abbrev ge(i:Nat):DG:=fun d ρ Q=>Q (ρ.set i (.val d))
theorem ar{i:Nat}{x:Str}(hN:X.N.Nodup)(hi:X.N[i]? = some x)(hx:Loc X.env.scope x)(hf:X.fn x=true∨X.env.scope.names.lookup x=some .local:=by first|exact .inl rfl|exact .inr rfl|assumption):PGD X (.Name x pos) (ge i) :=
 ⟨fun _ _ _ _ f h=>f _ h,_,pB hN hi hx hf,fun {F} M H σ ρ d v Q rs r h=>h M H _ .refl (rs.set r i)⟩
abbrev DGs:=List D->DS->(DS->Prop)->Prop
structure PGsD(X:Cx)(tg:List Expr)(g:DGs):Prop where
 mono:∀d ρ P P',(∀ρ',P ρ'->P' ρ')->g d ρ P->g d ρ P'
 run:∃G:TGs,PGs X tg G/\∀{F:Fx} M H σ ρ ds vs (Q:St->Hp->Prop),RSt X.K F M H σ ρ->Reps X.K F.pp M H ds vs->(g ds ρ fun ρ'=>∀M' H' σ',Mv X.K F.pp M H M' H'->RSt X.K F M' H' σ' ρ'->Q σ' H')->G vs σ H Q
def GH:DGs:=fun ds ρ Q=>match ds with
 |[]=>Q ρ
 |_=>False
def EX(g:DG)(u:DGs):DGs:=fun ds ρ Q=>match ds with
 |d::r=>g d ρ fun ρ'=>u r ρ' Q
 |[]=>False
theorem gf:PGsD X [] GH:=by
 refine⟨fun ds _ _ _ f h=>?_,_,wZ,fun {F} M H σ ρ ds vs Q rs r h=>?_⟩
 ·cases ds with
  |nil=>exact f _ h
  |cons=>exact h
 ·cases ds with
  |nil=>simp only[Reps]at r;exact⟨r,h M H σ .refl rs⟩
  |cons=>exact h.elim
theorem aX{e:Expr}{es:List Expr}{g:DG}{u:DGs}(h1:PGD X e g)(h2:PGsD X es u)
  (hs:(assignEach (e::es) X.env).map (·.2)=assign e X.env::(assignEach es X.env).map (·.2):=by rfl):PGsD X (e::es) (EX g u):=by
 obtain⟨G,p,r⟩:=h1.run
 obtain⟨G',p',r'⟩:=h2.run
 refine⟨fun ds _ _ _ f h=>?_,_,lU p p' hs,fun {F} M H σ ρ ds vs Q rs rd h=>?_⟩
 ·cases ds with
  |nil=>exact h
  |cons=>exact h1.mono _ _ _ _ (fun _ h=>h2.mono _ _ _ _ f h) h
 ·cases ds with
  |nil=>exact h.elim
  |cons d ds =>
   simp only[Reps]at rd
   obtain⟨v,vr,rfl,rd,rr⟩:=rd
   refine⟨v,vr,rfl,r M H σ ρ d v _ rs rd (h1.mono _ _ _ _ (fun ρ' h M1 H1 σ1 m1 rs1=>?_) h)⟩
   exact r' M1 H1 σ1 ρ' ds vr _ rs1 (rr.mv m1) (h2.mono _ _ _ _ (fun ρ2 h M2 H2 σ2 m2 rs2=>h M2 H2 σ2 (m1.trans m2) rs2) h)
def GI(n:Nat)(g:DGs):DG:=fun d ρ Q=>match d with
 |.tup ds=>ds.length=n/\g ds ρ Q
 |_=>False
theorem lA{es:List Expr}{k:Nat}{g:DGs}{n:Nat}(hc:X.calm=true)(h:PGsD X es g)
  (hn:(assignEach es X.env).length=n:=by rfl) (hst:(assignEach es X.env).findIdx? (·.1)=none:=by rfl):PGD X (.Tuple es k pos) (GI n g):=by
 obtain⟨G,p,r⟩:=h.run
 refine⟨fun d _ _ _ f q=>?_,_,Cr hc p hn hst,fun {F} M H σ ρ d v Q rs rd q=>?_⟩
 ·cases d<;>first|exact q.elim|exact⟨q.1,h.mono _ _ _ _ f q.2⟩
 ·cases d with
  |tup ds =>
   simp only[Rep]at rd
   obtain⟨a,xs,rfl,ha,rd⟩:=rd
   exact⟨a,xs,rfl,ha,by rw[←rd.length];exact q.1,r M H σ ρ ds xs _ rs rd q.2⟩
  |_=>exact q.elim
abbrev dAsg(te:DE)(g:DG):DTS:=fun E ρ=>te ρ fun d ρ'=>g d ρ' E.nx
theorem EY{tg:Expr}{g:DG}(he:PED X e te)(hg:PGD X tg g)(hs:swapsWithSole [tg] e pos.line X.env=pure false:=by rfl)(hw:swappedStores [tg] e X.env=pure none:=by rfl)(hh:PS X (.Assign [tg] e pos) (tAsg (Classical.choose he.run) (Classical.choose hg.run)):=by exact qy (zzA he.run).1 (zzA hg.run).1):PSD X (.Assign [tg] e pos) (dAsg te g):=by
 obtain⟨_,r⟩:=zzA he.run
 obtain⟨_,r'⟩:=zzA hg.run
 refine⟨_,hh,fun {F} M H σ ρ E D rs o q=>r M H σ ρ _ rs (he.mono _ _ _ (fun d ρ' q M' H' v m rs' rd=>?_) q)⟩
 exact r' M' H' σ ρ' d v _ rs' rd (hg.mono _ _ _ _ (fun ρ2 q M2 H2 σ2 m2 rs2=>o.nx M2 H2 σ2 ρ2 (m.trans m2) rs2 q) q)
def iz(g:DG)(b:DTS):List D->DEnds->DS->Prop
 |[],E,ρ=>E.nx ρ
 |d::r,E,ρ=>g d ρ fun ρ1=>b { E with nx:=fun ρ'=>iz g b r E ρ',ct:=fun ρ'=>iz g b r E ρ',bk:=E.nx } ρ1
structure ItOkV(K:PySem.W.Frag)(pp:Option Addr)(J:It)(M:List Addr)(H:Hp)(vs:List V):Prop where
 yld:∀M2 H2,Mv K pp M H M2 H2->∀i x H3,i<vs.length->J.yld i H2 x H3->H3=H2/\vs[i]? = some x
 go:∀M2 H2,Mv K pp M H M2 H2->∀i,i<vs.length->J.go i H2
 stop:∀M2 H2,Mv K pp M H M2 H2->∀i,vs.length <= i->J.stop i H2
structure ItOk(K:PySem.W.Frag)(pp:Option Addr)(J:It)(M:List Addr)(H:Hp)(ds:List D):Prop where
 yld:∀M2 H2,Mv K pp M H M2 H2->∀i d x H3,ds[i]? = some d->J.yld i H2 x H3->SameP K pp H2 H3/\Rep K pp M2 H3 d x
 go:∀M2 H2,Mv K pp M H M2 H2->∀i,i<ds.length->J.go i H2
 stop:∀M2 H2,Mv K pp M H M2 H2->∀i,ds.length <= i->J.stop i H2
theorem ItOkV.of{K:PySem.W.Frag}{pp:Option Addr}{J:It}{M:List Addr}{H:Hp}{vs:List V}{ds:List D}(o:ItOkV K pp J M H vs)(rd:Reps K pp M H ds vs):ItOk K pp J M H ds where
 yld:=fun M2 H2 m i d x H3 e y=>by
  obtain⟨v,e1,r⟩:=rd.get' e
  obtain⟨rfl,e2⟩:=o.yld M2 H2 m i x H3 (zzm.mp e1).1 y
  rw[e1]at e2
  cases e2
  exact⟨.refl,r.mv m⟩
 go:=fun M2 H2 m i h=>o.go M2 H2 m i (by rw[←rd.length];exact h)
 stop:=fun M2 H2 m i h=>o.stop M2 H2 m i (by rw[←rd.length];exact h)
structure PID(X:Cx)(tg iter:Expr)(t:DA):Prop where
 mono:∀ρ P P',(∀d ρ',P d ρ'->P' d ρ')->t ρ P->t ρ P'
 run:∃wi:TI,PI X tg iter wi/\∀{F:Fx} M H σ ρ (R:It->Hp->Prop),RSt X.K F M H σ ρ ->
  (t ρ fun ds ρ'=>∀M' H' J,Mv X.K F.pp M H M' H'->RSt X.K F M' H' σ ρ'->ItOk X.K F.pp J M' H' ds->R J H')->wi σ H R
abbrev dFor(t:DA)(g:DG)(b:DTS):DTS:=fun E ρ=>t ρ fun ds ρ'=>iz g b ds E ρ'
theorem bE{tg iter:Expr}{body:List Stmt}{t:DA}{g:DG}{tb:DTS}{pos:Pos}(hp:PassesOwn (model X.prog X.w) X.A X.env X.xe)(hc:X.calm=true)(hi:PID X tg iter t)(hg:PGD X tg g)(hb:PSsD X body tb)
  (hs:∀x,foldedSetIterable iter X.env x=pure x:=by intro _;rfl):PSD X (.For tg iter body [] pos) (dFor t g tb):=by
 obtain⟨wi,pi,ri⟩:=hi.run
 obtain⟨G,pg,rg⟩:=hg.run
 obtain⟨T,p,r⟩:=hb
 refine⟨_,Ej hp hc pi pg p hs,fun {F} M H σ ρ E D rs o h=>ri M H σ ρ _ rs (hi.mono _ _ _ (fun ds ρ1 h M1 H1 J m1 rs1 ok=>?_) h)⟩
 refine⟨fun i m σ2 H2=>∃M2 ρ2,m=ds.length - i/\i <= ds.length/\Mv X.K F.pp M1 H1 M2 H2/\RSt X.K F M2 H2 σ2 ρ2/\iz g tb (ds.drop i) E ρ2,⟨ds.length,M1,ρ1,rfl,zzH _,.refl,rs1,h⟩,?_⟩
 rintro i m σ2 H2 ⟨M2,ρ2,rfl,hi2,m2,rs2,h2⟩
 by_cases hlt:i<ds.length
 ·have e1:ds[i]? = some ds[i]:=by simp[hlt]
  rw[zyI hlt]at h2
  refine .inr ⟨ok.go M2 H2 m2 i hlt,fun σ' H'=>∃M' ρ',Mv X.K F.pp M1 H1 M' H'/\RSt X.K F M' H' σ' ρ'/\iz g tb (ds.drop (i+1)) E ρ',fun σ' H' ⟨M',ρ',mm,rs',h'⟩=>⟨ds.length - (i+1),by omega,M',ρ',rfl,hlt,mm,rs',h'⟩,fun x H3 y=>?_⟩
  obtain⟨sp,rx⟩:=ok.yld M2 H2 m2 i _ x H3 e1 y
  have m23:=m2.trans (sp.mv (M:=M2))
  refine rg M2 H3 σ2 ρ2 _ _ _ (rs2.sameP sp) rx (hg.mono _ _ _ _ (fun ρ3 h3 M3 H3 σ3 m3 rs3=>?_) h2)
  refine r M3 H3 σ3 ρ3 _ _ rs3 ⟨fun M4 H4 σ4 ρ4 m4 rs4 h4=>⟨M4,ρ4,(m23.trans m3).trans m4,rs4,h4⟩,fun M4 H4 σ4 ρ4 m4 rs4 h4=>?_,fun M4 H4 σ4 ρ4 m4 rs4 h4=>⟨M4,ρ4,(m23.trans m3).trans m4,rs4,h4⟩,fun M4 H4 σ4 ρ4 d' v m4 rs4 r4 h4=>?_⟩ h3
  ·exact o.nx M4 H4 σ4 ρ4 (((m1.trans m23).trans m3).trans m4) rs4 h4
  ·exact o.rt M4 H4 σ4 ρ4 d' v (((m1.trans m23).trans m3).trans m4) rs4 r4 h4
 ·have e:i=ds.length:=by omega
  refine .inl ⟨ok.stop M2 H2 m2 i (by omega),?_⟩
  have hd:ds.drop i=[]:=by rw[List.drop_eq_nil_iff];omega
  rw[hd]at h2
  exact o.nx M2 H2 σ2 ρ2 (m1.trans m2) rs2 h2
abbrev GJ(te:DE):DA:=fun ρ Q=>te ρ fun d ρ'=>match d with
 |.lst ds=>Q ds ρ'
 |_=>False
abbrev GK(te:DE):DA:=fun ρ Q=>te ρ fun d ρ'=>match d with
 |.tup ds=>Q ds ρ'
 |_=>False
theorem ba{tg l:Expr}(hl:PED X l te):PID X tg l (GJ te):=by
 obtain⟨T,p,r⟩:=hl.run
 refine⟨fun _ _ _ f h=>hl.mono _ _ _ (fun d _ h=>?_) h,_,Ca p,fun {F} M H σ ρ R rs h=>r M H σ ρ _ rs (hl.mono _ _ _ (fun d ρ' h M' H' v m rs' rd=>?_) h)⟩
 ·cases d<;>first|exact h.elim|exact f _ _ h
 ·cases d with
  |lst ds =>
   simp only[Rep]at rd
   obtain⟨a,xs,rfl,hm,hp,ha,rd⟩:=rd
   refine⟨a,rfl,⟨xs,SqL.of ha⟩,h M' H' _ m rs' (ItOkV.of (vs:=xs) ⟨fun M2 H2 m2 i x H3 _ y=>?_,fun M2 H2 m2 i hi=>?_,fun M2 H2 m2 i hi=>?_⟩ rd)⟩
   ·exact⟨y.1,y.2 xs (SqL.of (m2.lst a xs ha hm hp).1)⟩
   ·exact⟨xs,xs[i],SqL.of (m2.lst a xs ha hm hp).1,by simp[hi]⟩
   ·exact⟨xs,SqL.of (m2.lst a xs ha hm hp).1,hi⟩
  |_=>exact h.elim
theorem iq{tg l:Expr}(hl:PED X l te):PID X tg l (GK te):=by
 obtain⟨T,p,r⟩:=hl.run
 refine⟨fun _ _ _ f h=>hl.mono _ _ _ (fun d _ h=>?_) h,_,Ei p,fun {F} M H σ ρ R rs h=>r M H σ ρ _ rs (hl.mono _ _ _ (fun d ρ' h M' H' v m rs' rd=>?_) h)⟩
 ·cases d<;>first|exact h.elim|exact f _ _ h
 ·cases d with
  |tup ds =>
   simp only[Rep]at rd
   obtain⟨a,xs,rfl,ha,rd⟩:=rd
   refine⟨a,rfl,⟨xs,SqT.of ha⟩,h M' H' _ m rs' (ItOkV.of (vs:=xs) ⟨fun M2 H2 m2 i x H3 _ y=>?_,fun M2 H2 m2 i hi=>?_,fun M2 H2 m2 i hi=>?_⟩ rd)⟩
   ·exact⟨y.1,y.2 xs (SqT.of (m2.tup a xs ha))⟩
   ·exact⟨xs,xs[i],SqT.of (m2.tup a xs ha),by simp[hi]⟩
   ·exact⟨xs,SqT.of (m2.tup a xs ha),hi⟩
  |_=>exact h.elim
def iA(lo:Int):Nat->List D
 |0=>[]
 |n+1=>.int lo::iA (lo+1) n
theorem ko{K:PySem.W.Frag}{pp:Option Addr}{M:List Addr}{H:Hp}:∀(n:Nat) (lo:Int),Reps K pp M H (iA lo n) ((List.range n).map fun(i:Nat)=>V.int (lo+i))
 |0,_=>by simp[iA,Reps]
 |n+1,lo=>by
  rw[List.range_succ_eq_map,zzc,iA]
  refine .cons (by simp[Rep]) ?_
  have:=ko (K:=K) (pp:=pp) (M:=M) (H:=H) n (lo+1)
  rw[zzg]
  refine(congrArg (Reps K pp M H (iA (lo+1) n)) (zzv fun i _=>?_)).mp this
  simp only[Function.comp]
  congr 1
  omega
abbrev diR1(t:DA):DA:=fun ρ Q=>t ρ fun ds ρ'=>match ds with
 |[.int j]=>(-(2^62) <= j/\j<2^62)/\Q (iA 0 j.toNat) ρ'
 |_=>False
abbrev diR2(t:DA):DA:=fun ρ Q=>t ρ fun ds ρ'=>match ds with
 |[.int i,.int j]=>(-(2^62) <= i/\i<2^62/\-(2^62) <= j/\j<2^62)/\Q (iA i (j - i).toNat) ρ'
 |_=>False
theorem itOk_range{K:PySem.W.Frag}{pp:Option Addr}{M:List Addr}{H:Hp}{lo:Int}{n:Nat}:ItOkV K pp (Itr lo n) M H ((List.range n).map fun(i:Nat)=>V.int (lo+i)) where
 yld:=fun M2 H2 _ i x H3 hi y=>by
  obtain⟨e1,e2⟩:=y
  refine⟨e1,?_⟩
  have hi':i<n:=by simpa using hi
  simp[hi',e2]
 go:=fun _ _ _ i hi=>by show i<n;simpa using hi
 stop:=fun _ _ _ i hi=>by show n <= i;simpa using hi
variable{ea eb:Expr}
theorem bN{tg:Expr}{p:Pos}(hg:Gl X "range")(hm:X.mg "range" = none)(ha:PAD X [ea] tl)(hs:starEach [ea] X.env=[(false,eval ea X.env)]:=by rfl):PID X tg (.Call (.Name "range" p) [ea] [] pos) (diR1 tl):=by
 obtain⟨T,pa,r⟩:=ha.run
 refine⟨fun _ _ _ f h=>ha.mono _ _ _ (fun d _ h=>?_) h,_,xc hg hm pa hs,fun {F} M H σ ρ R rs h=>r M H σ ρ _ rs (ha.mono _ _ _ (fun d ρ' h M' H' v m rs' rd=>?_) h)⟩
 ·split at h
  ·exact⟨h.1,f _ _ h.2⟩
  ·exact h.elim
 ·split at h
  ·rename_i j
   simp only[Reps,Rep]at rd
   obtain⟨x,r,rfl,rfl,rfl⟩:=rd
   exact⟨j,rfl,h.1.1,h.1.2,h.2 M' H' _ m rs' (itOk_range.of (ko _ _))⟩
  ·exact h.elim
theorem xN{tg:Expr}{p:Pos}(hg:Gl X "range")(hm:X.mg "range" = none)(ha:PAD X [ea,eb] tl)(hs:starEach [ea,eb] X.env=[(false,eval ea X.env),(false,eval eb X.env)]:=by rfl)(hs2:starEach [eb] X.env=[(false,eval eb X.env)]:=by rfl):PID X tg (.Call (.Name "range" p) [ea,eb] [] pos) (diR2 tl):=by
 obtain⟨T,pa,r⟩:=ha.run
 refine⟨fun _ _ _ f h=>ha.mono _ _ _ (fun d _ h=>?_) h,_,xf hg hm pa hs hs2,fun {F} M H σ ρ R rs h=>r M H σ ρ _ rs (ha.mono _ _ _ (fun d ρ' h M' H' v m rs' rd=>?_) h)⟩
 ·split at h
  ·exact⟨h.1,f _ _ h.2⟩
  ·exact h.elim
 ·split at h
  ·rename_i i j
   simp only[Reps,Rep]at rd
   obtain⟨x,r,rfl,rfl,y,r',rfl,rfl,rfl⟩:=rd
   exact⟨i,j,rfl,h.1,h.2 M' H' _ m rs' (itOk_range.of (ko _ _))⟩
  ·exact h.elim
def gg(c:DT)(b:DTS):Nat->DEnds->DS->Prop
 |0,_,_=>False
 |n+1,E,ρ=>c ρ fun k ρ'=>Br k (b { E with nx:=fun ρ2=>gg c b n E ρ2,ct:=fun ρ2=>gg c b n E ρ2,bk:=E.nx } ρ') (E.nx ρ')
abbrev Bj(c:DT)(b:DTS):DTS:=fun E ρ=>∃n,gg c b n E ρ
theorem zZ{body:List Stmt}{tb:DTS}(hp:PassesOwn (model X.prog X.w) X.A X.env X.xe)(hc:PTD X c tc)(hb:PSsD X body tb):PSD X (.While c body [] pos) (Bj tc tb):=by
 obtain⟨C,pc,rc⟩:=hc.run
 obtain⟨T,p,r⟩:=hb
 refine⟨_,zO hp pc p,fun {F} M H σ ρ E D rs o h=>?_⟩
 obtain⟨n,h⟩:=h
 refine⟨fun m σ2 H2=>∃M2 ρ2,Mv X.K F.pp M H M2 H2/\RSt X.K F M2 H2 σ2 ρ2/\gg tc tb m E ρ2,⟨n,M,ρ,.refl,rs,h⟩,?_⟩
 rintro m σ2 H2 ⟨M2,ρ2,m2,rs2,h2⟩
 cases m with
 |zero=>exact h2.elim
 |succ m =>
  refine rc M2 H2 σ2 ρ2 _ rs2 (hc.mono _ _ _ (fun k ρ3 h3 M3 H3 m3 rs3=>?_) h2)
  cases k with
  |false=>exact iteF (o.nx M3 H3 σ2 ρ3 (m2.trans m3) rs3 (h3.no rfl))
  |true =>
   refine iteT ⟨fun σ' H'=>∃M' ρ',Mv X.K F.pp M H M' H'/\RSt X.K F M' H' σ' ρ'/\gg tc tb m E ρ',fun σ' H' h'=>⟨m,Nat.lt_succ_self _,h'⟩,?_⟩
   refine r M3 H3 σ2 ρ3 { E with nx:=fun ρ2=>gg tc tb m E ρ2,ct:=fun ρ2=>gg tc tb m E ρ2,bk:=E.nx } _ rs3 ⟨fun M4 H4 σ4 ρ4 m4 rs4 h4=>⟨M4,ρ4,(m2.trans m3).trans m4,rs4,h4⟩,fun M4 H4 σ4 ρ4 m4 rs4 h4=>o.nx M4 H4 σ4 ρ4 ((m2.trans m3).trans m4) rs4 h4,fun M4 H4 σ4 ρ4 m4 rs4 h4=>⟨M4,ρ4,(m2.trans m3).trans m4,rs4,h4⟩,fun M4 H4 σ4 ρ4 d' v m4 rs4 r4 h4=>o.rt M4 H4 σ4 ρ4 d' v ((m2.trans m3).trans m4) rs4 r4 h4⟩ (h3.yes rfl)
end
def qT(n:Nat)(ds:List D):DS:=ds.map .val++List.replicate (n - ds.length) .nil
theorem oM{K:PySem.W.Frag}{F:Fx}{M:List Addr}{H:Hp}:∀{ds:List D}{vs:List V},Reps K F.pp M H ds vs->∀(i:Nat) s o,(ds.map Sl.val)[i]? = some s->(vs.map some)[i]? = some o->RSl K F M H s o
 |[],_,_,_,_,_,h1,_=>by simp at h1
 |d::ds,_,h,0,s,o,h1,h2=>by
  simp only[Reps]at h
  obtain⟨x,r,rfl,h,_⟩:=h
  simp at h1 h2
  subst h1 h2
  exact⟨x,rfl,h⟩
 |d::ds,_,h,i+1,s,o,h1,h2=>by
  simp only[Reps]at h
  obtain⟨x,r,rfl,_,h⟩:=h
  exact oM h i s o (by simpa using h1) (by simpa using h2)
theorem sZ{ds:List D}{n i:Nat}{es:List D}(h:(ds.map Sl.val++List.replicate n Sl.nil)[i]? = some (.own es)):False:=by
 have:=zzM h
 rcases zzw.mp this with h|h
 ·obtain⟨d,_,e⟩:=zze.mp h;cases e
 ·have:=zyo h;cases this
theorem tj{ds:List D}{n i:Nat}{q:O}(h:(ds.map Sl.val++List.replicate n Sl.nil)[i]? = some (.obj q)):False:=by
 have:=zzM h
 rcases zzw.mp this with h|h
 ·obtain⟨d,_,e⟩:=zze.mp h;cases e
 ·have:=zyo h;cases this
theorem qU{K:PySem.W.Frag}{pp:Option Addr}{M:List Addr}{H:Hp}{ds:List D}{vs:List V}{N:List Str}(lv:Lv pp M H)(r:Reps K pp M H ds vs)(lk:Frm.L K ⟨pp,M,H⟩ M H):RSt K ⟨pp,M,H⟩ M H (L2.start N vs) (qT N.length ds):=by
 have hl:=r.length
 refine⟨by simp[L2.start,qT,hl],fun i s o h1 h2=>?_,OwF.none (fun i s e=>⟨fun ds z=>(sZ (z ▸ e)).elim,fun q z=>(tj (z ▸ e)).elim⟩),fun a h=>h,.refl,lv.m,lv.toLv0,⟨lk,lv.t⟩⟩
 unfold qT at h1
 unfold L2.start at h2
 by_cases hi:i<ds.length
 ·rw[zyk (by simpa using hi)]at h1
  rw[zyk (by simpa[←hl]using hi)]at h2
  exact oM (F:=⟨pp,M,H⟩) r i s o h1 h2
 ·rw[zzU (by simp;omega)]at h1
  have:=zyo (zzM h1)
  subst this
  trivial
omit [Frm] in
theorem fnD{P:Program}{w:World}{K:PySem.W.Frag}{mg:Str->Option Value}{base:Heap}{x qual:Str}{st:Stmt}{f:Addr}{fd:FuncData}{N ps:List Str}{k:Nat}{g:DSp}{t:DTS}(Fn:Fun K x qual st f fd)(S:FnScope N ps (aj st))
  (hb:∀(cdv:Value) (A:Around) (outer:List Env) (s:Shared) (H:Hp) (E:XK),Room k (A.deeper (envOfC qual (aj st) s.heap.objs.size f cdv)) -> @PSsD _ Frm.free (cxOf CX0 P w K mg base N qual (aj st) f cdv A outer s H E).nox (dN st) t)
  (hg:∀ds Q,ds.length=ps.length->g ds Q->t { nx:=fun _=>Q .non,rt:=Q } (qT N.length ds)):FnOk P w K mg base CX0 (k+1) f fd ps (spD K ps.length g):=by
 refine Fn.ok S (fun vs H Q E h=>?_) (fun cdv A outer s H vs Q E hr h=>?_)
 ·obtain⟨pp,M,ds,_,r,e,_⟩:=h
  rw[←r.length,e]
 ·obtain⟨pp,M,ds,lv,r,e,h⟩:=h
  obtain⟨T,p,run⟩:=hb cdv A outer s H E hr
  refine⟨T,p,run M H _ _ _ _ (qU lv r trivial) ⟨fun M' H' σ' ρ' m rs q=>?_,fun _ _ _ _ _ _ q=>q,fun _ _ _ _ _ _ q=>q,fun M' H' σ' ρ' d v m rs rd q=>?_⟩ (hg ds _ e h)⟩
  ·exact q H' .non rs.sameT (by simp only[Rep])
  ·exact q H' v rs.sameT (rd.mv (.less rs.sub))
section
variable{X:Cx}{pp:Option Addr}
def g2I(C:Int->Int->Prop)(f:Int->Int->D):D->D->(D->Prop)->Prop
 |.int i,.int j,P=>C i j/\P (f i j)
 |_,_,_=>False
def g2I0(f:Int->Int->D):D->D->(D->Prop)->Prop
 |.int i,.int j,P=>P (f i j)
 |_,_,_=>False
theorem OpD.ofI{f:Value->Value->Sem Value}{C:Int->Int->Prop}{h:Int->Int->V}{h':Int->Int->D}(o:OpR X f (rI C h))(e:∀pp M H i j,Rep X.K pp M H (h' i j) (h i j)):OpD X f (g2I C h'):=by
 refine⟨fun x y P P' f h=>?_,_,o,fun {pp} M H x y v u Q _ rx ry h=>?_⟩
 ·cases x<;>cases y<;>first|exact h.elim|exact⟨h.1,f _ h.2⟩
 ·cases x<;>first|exact h.elim|skip
  cases y<;>first|exact h.elim|skip
  simp only[Rep]at rx ry
  exact⟨_,_,rx,ry,h.1,h.2 H _ .refl (e _ M H _ _)⟩
theorem OpD.ofI0{f:Value->Value->Sem Value}{h:Int->Int->V}{h':Int->Int->D}(o:OpR X f (rI0 h))(e:∀pp M H i j,Rep X.K pp M H (h' i j) (h i j)):OpD X f (g2I0 h'):=by
 refine⟨fun x y P P' f h=>?_,_,o,fun {pp} M H x y v u Q _ rx ry h=>?_⟩
 ·cases x<;>cases y<;>first|exact h.elim|exact f _ h
 ·cases x<;>first|exact h.elim|skip
  cases y<;>first|exact h.elim|skip
  simp only[Rep]at rx ry
  exact⟨_,_,rx,ry,h H _ .refl (e _ M H _ _)⟩
theorem dP:OpD X (binaryOp .Add) (g2I0 fun i j=>.int (i+j)):=.ofI0 mB fun _ _ _ _ _=>bM
theorem qV:OpD X (binaryOp .Sub) (g2I0 fun i j=>.int (i - j)):=.ofI0 Ek fun _ _ _ _ _=>bM
theorem jx:OpD X (binaryOp .Mult) (g2I CMulB fun i j=>.int (i*j)):=.ofI kf fun _ _ _ _ _=>bM
theorem xO:OpD X (binaryOp .Mod) (g2I (fun _ j=>0<j) fun i j=>.int (i % j)):=.ofI lj fun _ _ _ _ _=>bM
theorem Cy:OpD X (binaryOp .FloorDiv) (g2I EQ fun i j=>.int (i / j)):=.ofI pK fun _ _ _ _ _=>bM
theorem EZ:OpD X (compareOp .Lt) (g2I0 fun i j=>.bl (decide (i<j))):=.ofI0 Eo fun _ _ _ _ _=>eY
theorem xP:OpD X (compareOp .LtE) (g2I0 fun i j=>.bl (decide (i <= j))):=.ofI0 Gm fun _ _ _ _ _=>eY
theorem lO:OpD X (compareOp .Gt) (g2I0 fun i j=>.bl (decide (j<i))):=.ofI0 Ep fun _ _ _ _ _=>eY
def Cz:D->Bool
 |.non=>true
 |_=>false
theorem xQ{K:PySem.W.Frag}{M:List Addr}{H:Hp}{d:D}{v:V}(r:Rep K pp M H d v):decide (v=.non)=Cz d:=by
 cases d<;>simp only[Rep]at r
 case non=>subst r;rfl
 case bl=>subst r;rfl
 case int=>subst r;rfl
 case str=>subst r;rfl
 case ty=>subst r;rfl
 case tup=>obtain⟨a,xs,rfl,_⟩:=r;rfl
 case lst=>obtain⟨a,xs,rfl,_⟩:=r;rfl
 case dK=>obtain⟨a,xs,rfl,_⟩:=r;rfl
 case dT=>obtain⟨a,xs,rfl,_⟩:=r;rfl
 case pen=>obtain⟨a,rfl,_⟩:=r;rfl
 case exc=>obtain⟨a,rfl,_⟩:=r;rfl
 case exa=>obtain⟨a,dx,rfl,_⟩:=r;rfl
 case cls=>subst r;rfl
def gIsN(n:Bool):D->D->(D->Prop)->Prop
 |x,.non,P=>P (.bl (if n then !Cz x else Cz x))
 |_,_,_=>False
theorem Bl:OpD X (compareOp .Is) (gIsN false):=by
 refine⟨fun x y P P' f h=>?_,_,Er,fun {pp} M H x y v u Q _ rx ry h=>?_⟩
 ·cases y<;>first|exact h.elim|exact f _ h
 ·cases y<;>first|exact h.elim|skip
  simp only[Rep]at ry
  exact⟨ry,h H _ .refl (by rw[xQ rx];exact eY)⟩
structure UnD(X:Cx)(f:Value->Sem Value)(g:D->(D->Prop)->Prop):Prop where
 mono:∀x P P',(∀d,P d->P' d)->g x P->g x P'
 run:∃r,UnR X f r/\∀{pp:Option Addr} M H x v (Q:VK),Lv pp M H->Rep X.K pp M H x v->g x (fun d=>∀H' w,SameP X.K pp H H'->Rep X.K pp M H' d w->Q w H')->r v H Q
abbrev dUn(g:D->(D->Prop)->Prop)(ta:DE):DE:=fun ρ Q=>ta ρ fun x ρ1=>g x fun d=>Q d ρ1
theorem mP{op:UnaryOp}{g:D->(D->Prop)->Prop}{a:Expr}{ta:DE}{pos:Pos}(ho:UnD X (unaryOp op) g)(ha:PED X a ta):PED X (.UnaryOp op a pos) (dUn g ta):=by
 obtain⟨r,hr,hg⟩:=ho.run
 obtain⟨Ta,pa,ra⟩:=ha.run
 refine⟨fun _ _ _ f h=>ha.mono _ _ _ (fun _ _ h=>ho.mono _ _ _ (fun _ h=>f _ _ h) h) h,_,Gj hr pa,fun {F} M H σ ρ Q rs h=>ra M H σ ρ _ rs (ha.mono _ _ _ (fun x ρ1 h M1 H1 v m1 rs1 r1=>?_) h)⟩
 exact hg M1 H1 x v _ rs1.liv r1 (ho.mono _ _ _ (fun d h H' w s r=>h M1 H' w (m1.trans s.mv) (rs1.sameP s) r) h)
def gNeg:D->(D->Prop)->Prop
 |.int i,P=>P (.int (-i))
 |_,_=>False
theorem gh:UnD X (unaryOp .USub) gNeg:=by
 refine⟨fun x P P' f h=>?_,_,Em,fun {pp} M H x v Q _ rx h=>?_⟩
 ·cases x<;>first|exact h.elim|exact f _ h
 ·cases x<;>first|exact h.elim|skip
  simp only[Rep]at rx
  exact⟨_,rx,h H _ .refl bM⟩
def Fa:D->Bool
 |.int _=>true
 |.bl _=>true
 |_=>false
def CA:D->Bool
 |.bl _=>true
 |_=>false
def qW:D->Bool
 |.tup _=>true
 |_=>false
def Fb:D->Bool
 |.lst _=>true
 |_=>false
def xR:D->Bool
 |.pen=>false
 |.exc _=>false
 |.exa _ _=>false
 |.cls _=>false
 |.ty _=>false
 |.dT _ _=>false
 |_=>true
theorem Bm{K:PySem.W.Frag}{M:List Addr}{H:Hp}{d:D}{v:V}(r:Rep K pp M H d v)(f:xR d=true):knV H v:=by
 cases d<;>first|cases f|skip
 all_goals simp only[Rep]at r
 case non=>subst r;trivial
 case bl=>subst r;trivial
 case int=>subst r;trivial
 case str=>subst r;trivial
 case tup=>obtain⟨a,xs,rfl,h,_⟩:=r;exact .inr (.inr (.inl ⟨xs,h⟩))
 case lst=>obtain⟨a,xs,rfl,_,_,h,_⟩:=r;exact .inl ⟨xs,h⟩
 case dK=>obtain⟨a,xs,rfl,_,_,h,_⟩:=r;exact .inr (.inr (.inr (.inl ⟨xs,h⟩)))
def gIs(T:String)(f:D->Bool):DSp:=fun ds P=>match ds with
 |[d,.ty T']=>T'=T/\xR d=true/\P (.bl (f d))
 |_=>False
theorem CallD.isOf{T:String}{f:Hp->V->Bool}{fD:D->Bool}(hc:eV X (.builtin "isinstance") (fun xs H Q=>∃x,xs=[x,.ty T]/\knV H x/\Q (.bl (f H x)) H))
  (e:∀pp M H d v,Rep X.K pp M H d v->xR d=true->f H v=fD d):CallD X (.builtin "isinstance") (gIs T fD):=by
 refine⟨fun ds P P' f h=>?_,_,hc,fun {pp} M H ds vs Q _ r h=>?_⟩
 ·unfold gIs at h ⊢;split at h
  ·exact⟨h.1,h.2.1,f _ h.2.2⟩
  ·exact h.elim
 ·unfold gIs at h;split at h
  case h_2=>exact h.elim
  ·rename_i d T'
   obtain⟨e1,e2,h⟩:=h
   simp only[Reps]at r
   obtain⟨x,r,rfl,rx,y,r',rfl,ry,rfl⟩:=r
   simp only[Rep]at ry
   subst ry e1
   exact⟨x,rfl,Bm rx e2,h H _ .refl (by rw[e _ M H d x rx e2];exact eY)⟩
theorem xS:CallD X (.builtin "isinstance") (gIs "int" Fa):=.isOf sX fun pp M H d v r _=>by
 cases d<;>simp only[Rep]at r
 case non=>subst r;rfl
 case bl=>subst r;rfl
 case int=>subst r;rfl
 case str=>subst r;rfl
 case ty=>subst r;rfl
 case tup=>obtain⟨a,xs,rfl,_⟩:=r;rfl
 case lst=>obtain⟨a,xs,rfl,_⟩:=r;rfl
 case dK=>obtain⟨a,xs,rfl,_⟩:=r;rfl
 case dT=>obtain⟨a,xs,rfl,_⟩:=r;rfl
 case pen=>obtain⟨a,rfl,_⟩:=r;rfl
 case exc=>obtain⟨a,rfl,_⟩:=r;rfl
 case exa=>obtain⟨a,dx,rfl,_⟩:=r;rfl
 case cls=>subst r;rfl
theorem wg:CallD X (.builtin "isinstance") (gIs "bool" CA):=.isOf qQ fun pp M H d v r _=>by
 cases d<;>simp only[Rep]at r
 case non=>subst r;rfl
 case bl=>subst r;rfl
 case int=>subst r;rfl
 case str=>subst r;rfl
 case ty=>subst r;rfl
 case tup=>obtain⟨a,xs,rfl,_⟩:=r;rfl
 case lst=>obtain⟨a,xs,rfl,_⟩:=r;rfl
 case dK=>obtain⟨a,xs,rfl,_⟩:=r;rfl
 case dT=>obtain⟨a,xs,rfl,_⟩:=r;rfl
 case pen=>obtain⟨a,rfl,_⟩:=r;rfl
 case exc=>obtain⟨a,rfl,_⟩:=r;rfl
 case exa=>obtain⟨a,dx,rfl,_⟩:=r;rfl
 case cls=>subst r;rfl
theorem fw:CallD X (.builtin "isinstance") (gIs "tuple" qW):=.isOf pJ fun pp M H d v r f=>by
 cases d<;>first|cases f|skip
 all_goals simp only[Rep]at r
 case non=>subst r;rfl
 case bl=>subst r;rfl
 case int=>subst r;rfl
 case str=>subst r;rfl
 case tup=>obtain⟨a,xs,rfl,h,_⟩:=r;simp[bz,h,isTupO,qW]
 case lst=>obtain⟨a,xs,rfl,_,_,h,_⟩:=r;simp[bz,h,isTupO,qW]
 case dK=>obtain⟨a,xs,rfl,_,_,h,_⟩:=r;simp[bz,h,isTupO,qW]
def gLen:DSp:=fun ds P=>match ds with
 |[.tup xs]=>P (.int xs.length)
 |[.lst xs]=>P (.int xs.length)
 |_=>False
theorem bF:CallD X (.builtin "len") gLen:=by
 refine⟨fun ds P P' f h=>?_,_,xG,fun {pp} M H ds vs Q _ r h=>?_⟩
 ·unfold gLen at h ⊢;split at h
  ·exact f _ h
  ·exact f _ h
  ·exact h.elim
 ·unfold gLen at h;split at h
  case h_3=>exact h.elim
  ·simp only[Reps,Rep]at r
   obtain⟨x,r,rfl,⟨a,ys,rfl,ha,ry⟩,rfl⟩:=r
   exact⟨a,ys.length,rfl,by rw[ha];rfl,h H _ .refl (by rw[←ry.length];exact bM)⟩
  ·simp only[Reps,Rep]at r
   obtain⟨x,r,rfl,⟨a,ys,rfl,_,_,ha,ry⟩,rfl⟩:=r
   exact⟨a,ys.length,rfl,by rw[ha];rfl,h H _ .refl (by rw[←ry.length];exact bM)⟩
def CB:DSp:=fun ds P=>match ds with
 |[.int i]=>P (.int i)
 |[.bl b]=>P (.int (if b then 1 else 0))
 |_=>False
theorem qX:CallD X (.type "int") CB:=by
 refine⟨fun ds P P' f h=>?_,_,xj,fun {pp} M H ds vs Q _ r h=>?_⟩
 ·unfold CB at h ⊢;split at h
  ·exact f _ h
  ·exact f _ h
  ·exact h.elim
 ·unfold CB at h;split at h
  case h_3=>exact h.elim
  ·rename_i i
   simp only[Reps,Rep]at r
   obtain⟨x,r,rfl,rfl,rfl⟩:=r
   exact .inl ⟨i,rfl,h H _ .refl bM⟩
  ·rename_i i
   simp only[Reps,Rep]at r
   obtain⟨x,r,rfl,rfl,rfl⟩:=r
   exact .inr ⟨i,rfl,h H _ .refl bM⟩
def uN:DSp:=fun ds P=>match ds with
 |[.tup xs]=>P (.tup xs)
 |[.lst xs]=>P (.tup xs)
 |_=>False
theorem cX:CallD X (.type "tuple") uN:=by
 refine⟨fun ds P P' f h=>?_,_,pG,fun {pp} M H ds vs Q _ r h=>?_⟩
 ·unfold uN at h ⊢;split at h
  ·exact f _ h
  ·exact f _ h
  ·exact h.elim
 ·unfold uN at h;split at h
  case h_3=>exact h.elim
  ·simp only[Reps]at r
   obtain⟨x,r,rfl,rx,rfl⟩:=r
   have rx':=rx
   simp only[Rep]at rx
   obtain⟨a,ys,rfl,ha,ry⟩:=rx
   exact⟨a,ys,rfl,.inr ⟨SqT.of ha,h H _ .refl rx'⟩⟩
  ·simp only[Reps,Rep]at r
   obtain⟨x,r,rfl,⟨a,ys,rfl,_,_,ha,ry⟩,rfl⟩:=r
   refine⟨a,ys,rfl,.inl ⟨SqL.of ha,fun l hl=>h _ _ (.new hl) ?_⟩⟩
   simp only[Rep]
   exact⟨l,ys,rfl,ak,ry.mv (.new hl)⟩
def opt(o:Option D)(P:D->Prop):Prop:=match o with
 |some d=>P d
 |none=>False
theorem uO{o:Option D}{P P':D->Prop}(f:∀d,P d->P' d)(h:opt o P):opt o P':=by cases o<;>first|exact h.elim|exact f _ h
theorem uP{o:Option D}{P:D->Prop}(h:opt o P):∃d,o=some d/\P d:=by cases o<;>first|exact h.elim|exact⟨_,rfl,h⟩
def gIx:D->D->(D->Prop)->Prop
 |.tup xs,.int i,P=>opt (atI xs i) P
 |.lst xs,.int i,P=>opt (atI xs i) P
 |_,_,_=>False
theorem tm{K:PySem.W.Frag}{M:List Addr}{H:Hp}{ds:List D}{xs:List V}{i:Int}{d:D}(r:Reps K pp M H ds xs)(h:atI ds i=some d):∃v,atI xs i=some v/\Rep K pp M H d v:=by
 unfold atI at h ⊢
 rw[r.length]at h
 cases q:ixN xs.length i with
 |none=>rw[q]at h;cases h
 |some j =>
  rw[q]at h
  obtain⟨v,e1,e2⟩:=r.get' (i:=j) h
  exact⟨v,e1,e2⟩
theorem aL{a b:Expr}{ta tb:DE}{pos:Pos}(ha:PED X a ta)(hb:PED X b tb)(hs:sM b):PED X (.Subscript a b pos) (dOp gIx ta tb):=by
 have gm:∀x y P P',(∀d,P d->P' d)->gIx x y P->gIx x y P':=fun x y P P' f h=>by
  cases x<;>first|exact h.elim|skip
  all_goals cases y<;>first|exact h.elim|exact uO f h
 obtain⟨Ta,pa,ra⟩:=ha.run
 obtain⟨Tb,pb,rb⟩:=hb.run
 refine⟨ju gm ha hb,_,xv (IxR.or Cq uH) pa pb hs,fun {F} M H σ ρ Q rs h=>pM (fun M H x y v u Q _ rx ry h=>?_) gm ha hb ra rb rs h⟩
 cases x<;>first|exact h.elim|skip
 all_goals cases y<;>first|exact h.elim|skip
 all_goals
  obtain⟨d,e,h⟩:=uP h
  simp only[Rep]at rx ry
 ·obtain⟨p,xs,rfl,hp,r⟩:=rx
  obtain⟨z,e2,rz⟩:=tm r e
  exact .inl ⟨p,xs,_,z,rfl,ry,hp,e2,h H z .refl rz⟩
 ·obtain⟨p,xs,rfl,_,_,hp,r⟩:=rx
  obtain⟨z,e2,rz⟩:=tm r e
  exact .inr ⟨p,xs,_,z,rfl,ry,hp,e2,h H z .refl rz⟩
end
section
variable{X:Cx}{F:Fx}
def GL(i:Nat)(E:DEnds)(ρ:DS)(d:D):Sl->Prop
 |.own ds=>ds.length<sizeLine/\E.nx (ρ.set i (.own (ds++[d])))
 |_=>False
def xT:Sl->Prop
 |.own _=>True
 |_=>False
abbrev dApp(i:Nat)(te:DE):DTS:=fun E ρ=>xT (slot ρ i)/\te ρ fun d ρ'=>GL i E ρ' d (slot ρ' i)
theorem RSt.write{K:PySem.W.Frag}{M:List Addr}{H:Hp}{σ:St}{ρ:DS}{l:Addr}{ys:List V}{ds es:List D}{i:Nat}(r:RSt K F M H σ ρ)(h:ρ[i]? = some (.own ds))(hl:σ[i]? = some (some (.ref l)))(hd:Reps K F.pp M H es ys) :
  Mv K F.pp M H M (upd H l (.lst ys))/\RSt K F M (upd H l (.lst ys)) σ (ρ.set i (.own es)):=by
 obtain⟨l',xs,e,hm,h0,hp,hl',hr⟩:=r.sl i _ _ h hl
 cases e
 have m:Mv K F.pp M H M (upd H l (.lst ys)):=.write hl' hm hp
 refine⟨m,⟨by simp[r.len],fun j q o h1 h2=>?_,r.ow.step m i (fun _ _=>rfl) (fun j e=>zzG (Ne.symm e)) (fun A hA hB=>⟨A,fun s o e1 e2=>?_,fun b hb=>⟨(hB b hb).1,(hB b hb).2.1,(hB b hb).2.2,.inl hb⟩,fun a ha _ _ hn=>⟨ha,fun x e _=>?_⟩⟩),r.sub,?_,r.old,?_,r.lk.cl m⟩⟩
 ·by_cases e:i=j
  ·subst e
   rw[hl]at h2
   rw[aS h1]
   cases h2
   exact⟨l,ys,rfl,hm,h0,hp,ak,hd.mv m⟩
  ·rw[zzG e]at h1
   have q':=r.sl j q o h1 h2
   cases q with
   |nil=>trivial
   |val d=>obtain⟨v,e,q⟩:=q';exact⟨v,e,q.mv m⟩
   |pin w d=>obtain⟨v,e,ew,q⟩:=q';exact⟨v,e,ew,q.mv m⟩
   |own es =>
    obtain⟨l',zs,rfl,hm',h0',hp',hl'',hr'⟩:=q'
    refine⟨l',zs,rfl,hm',h0',hp',?_,hr'.mv m⟩
    rw[ao]
    ·exact hl''
    ·rintro rfl
     exact e (r.own i j _ _ _ h h1 hl h2)
   |obj q=>exact q'
 ·rw[aS e1]
  exact hA _ _ h e2
 ·obtain⟨l2,e2,e3⟩:=hA _ _ h hl
  cases e2
  rw[ao (by rintro rfl;exact hn (by rw[e3];simp))]
  exact e
 ·refine⟨fun b o e n=>?_,fun p e h=>m.pen p e (r.same.pen p e h),fun b e=>?_⟩
  ·rw[ao (by rintro rfl;rw[h0]at e;cases e)]
   exact r.same.keep b o e n
  ·by_cases z:b=l
   ·subst z;rw[ak];intro z;cases z
   ·rw[ao z];exact r.same.live b e
 ·refine⟨fun a ha=>?_,fun p e=>?_⟩
  ·by_cases z:a=l
   ·subst z;rw[ak];intro z;cases z
   ·rw[ao z];exact r.liv.m a ha
  ·by_cases z:p=l
   ·subst z;rw[ak];intro z;cases z
   ·rw[ao z];exact r.liv.p p e
theorem qY{i:Nat}{o e:Expr}{apos cpos pos:Pos}{te:DE}(ho:PE X o (tVar i))(he:PED X e te)
  (hbase:attributeBase o "append" X.env (eval o X.env)=eval o X.env:=by rfl)
  (hfew:((backTo cpos (starEach [e] X.env)).all (fun x=>!x.1) && (backToKw cpos (keywordEach [] X.env)).all (fun x=>x.1.isSome)
   && decide ([e].length+([]:List Keyword).length+(if ([]:List Keyword).isEmpty then 0 else 1)<30))=true:=by rfl)
  (hline:(apos.endLine == cpos.line)=true:=by rfl) (hst:starEach [e] X.env=(false,eval e X.env)::starEach [] X.env:=by rfl) (hpl:(backTo cpos (starEach [] X.env)).any (·.1)=false:=by rfl)
  (hs:swapsWith (.Call (.Attribute o "append" apos) [e] [] cpos) none pos.line X.env=pure false:=by rfl):PSD X (.Expr (.Call (.Attribute o "append" apos) [e] [] cpos) pos) (dApp i te):=by
 have hm:PE X (.Call (.Attribute o "append" apos) [e] [] cpos) (tBM X.K "list" sN (tVar i) (xm (Classical.choose he.run) tNil)):=qH zyt PySem.F.slot_list_append PySem.F.type_list_append jp ho (bC (zzA he.run).1 da hst) hbase hfew hline hst hpl
 obtain⟨_,r⟩:=zzA he.run
 refine⟨_,jY hm hs,fun {F} M H σ ρ E D rs oo h=>?_⟩
 obtain⟨h0,h⟩:=h
 cases q:slot ρ i with
 |nil=>rw[q]at h0;exact h0.elim
 |val d=>rw[q]at h0;exact h0.elim
 |pin w d=>rw[q]at h0;exact h0.elim
 |obj z=>rw[q]at h0;exact h0.elim
 |own ds =>
  obtain⟨oo1,ho1,l,xs,rfl,hm1,h01,hp1,hl1,hr1⟩:=rs.at (aF q (by intro z;cases z))
  refine⟨.ref l,ho1,.inl ⟨rfl,xs,SqL.of hl1⟩,?_⟩
  refine r M H σ ρ _ rs (he.mono _ _ _ (fun d ρ' h M' H' v m rs' rd=>?_) h)
  cases q':slot ρ' i with
  |nil=>rw[q']at h;exact h.elim
  |val d=>rw[q']at h;exact h.elim
  |pin w d=>rw[q']at h;exact h.elim
  |obj z=>rw[q']at h;exact h.elim
  |own ds' =>
   rw[q']at h
   have g1:=aF q' (by intro z;cases z)
   obtain⟨l',xs',e',hm',h0',hp',hl',hr'⟩:=rs'.sl i _ _ g1 ho1
   cases e'
   obtain⟨m2,rs2⟩:=rs'.write g1 ho1 (hr'.append (.one rd))
   exact⟨l,xs',v,rfl,rfl,hl',by rw[←hr'.length];exact h.1,oo.nx M' _ _ _ (m.trans m2) rs2 h.2⟩
end
def wj:DSp:=fun ds P=>match ds with
 |[.pen,.int m]=>(1 <= m/\m <= 10^60)/\∀r,0 <= r->r<m->P (.int r)
 |_=>False
theorem xU:aY wj:=fun ds P P' f h=>by
 unfold wj at h ⊢
 split at h
 ·exact⟨h.1,fun r h0 h1=>f _ (h.2 r h0 h1)⟩
 ·exact h.elim
theorem CC{P:Program}{w:World}{K:PySem.W.Frag}{mg:Str->Option Value}{base:Heap}{k:Nat}{f:Addr}{fd:FuncData}{ps:List Str}(h:FnOk P w K mg base CX0 k f fd ps (xH K)):FnOk P w K mg base CX0 k f fd ps (spD K 2 wj) :=
 h.imp fun vs H Q E h=>by
  obtain⟨pp,M,ds,lv,r,e,h⟩:=h
  unfold wj at h
  split at h
  case h_2=>exact h.elim
  ·rename_i m
   obtain⟨⟨m1,m2⟩,h⟩:=h
   simp only[Reps,Rep]at r
   obtain⟨x,_,rfl,⟨p,rfl,ep,a,ns,t,l,pen⟩,y,_,rfl,rfl,rfl⟩:=r
   refine⟨p,a,ns,t,l,m,rfl,pen,m1,m2,fun r t' l' H' h0 h1 pen' sb=>h r h0 h1 H' _ ⟨⟨fun b o hb n=>?_,fun q e _=>?_,fun b hb=>?_⟩,fun tb=>tb.of fun b o e tf=>sb b o (by rintro rfl;rw[pen.lst]at e;cases e;exact ki tf) e⟩ bM⟩
   ·by_cases z:b=p
    ·subst z
     rw[pen.lst]at hb
     cases hb
     exact absurd rfl (n.1 ep _)
    ·exact sb b o z hb
   ·rw[ep]at e;cases e
    exact⟨a,ns,t',l',pen'⟩
   ·by_cases z:b=p
    ·subst z;rw[pen'.lst];intro z;cases z
    ·cases q:H b with
     |none=>exact absurd q hb
     |some o=>rw[sb b o z q];intro z;cases z
def spLaw(K:PySem.W.Frag):Sp:=fun vs H Q _=>∃a ns,vs=[.ref a]/\Scr K H a ns/\Tabs H/\∀H',Q (.bl true) H'
omit [TB] [Frm] in
theorem law_sp(K:PySem.W.Frag)(H:Hp)(a:Addr)(ns:List Int)(_:ns.length <= 63)(h1:Only H)(h:SqL K H a (ns.map V.int)) : @spLaw TB.none K [.ref a] H (fun v _=>v=.bl true) fun _ _ _=>False :=
 ⟨a,ns,rfl,ER h1 h,fun _ _ e=>(by cases e),fun _=>rfl⟩
omit [Frm] in
theorem lawD{P:Program}{w:World}{K:PySem.W.Frag}{mg:Str->Option Value}{base:Heap}{st:Stmt}{f:Addr}{fd:FuncData}{N:List Str}{x:Str}{k:Nat}{t:DTS}{s1:Stmt}{rest:List Stmt}(Fn:Fun K "law" "law" st f fd)(S:FnScope N [x] (aj st))(hs:dN st=s1::rest)(hN:2 <= N.length)
  (h1:∀(cdv:Value) (A:Around) (outer:List Env) (s:Shared) (H:Hp) (E:XK),Room k (A.deeper (envOfC "law" (aj st) s.heap.objs.size f cdv))->PS (cxOf CX0 P w K mg base N "law" (aj st) f cdv A outer s H E).nox s1 (tAsg (Et (Bh K) [] E0 (xm (tVar 0) tNil)) (sJ 1)))
  (hb:∀(cdv:Value) (A:Around) (outer:List Env) (s:Shared) (H:Hp) (E:XK),Room k (A.deeper (envOfC "law" (aj st) s.heap.objs.size f cdv)) -> @PSsD _ Frm.free (cxOf CX0 P w K mg base N "law" (aj st) f cdv A outer s H E).nox rest t)
  (hg:t { nx:=fun _=>False,rt:=fun d=>d=.bl true } (.nil :: .val .pen::List.replicate (N.length - 2) .nil)):FnOk P w K mg base CX0 (k+1) f fd [x] (spLaw K):=by
 refine Fn.ok S (fun vs H Q E h=>?_) (fun cdv A outer s H vs Q E hr h=>?_)
 ·obtain⟨a,ns,rfl,_⟩:=h
  rfl
 ·obtain⟨a,ns,rfl,hs',hT,h⟩:=h
  rw[hs]
  refine⟨_,bI (u:=fun D σ H'=>∃p:Addr,@RSt _ Frm.free K ⟨some p,[],H'⟩ [] H' σ (.nil :: .val .pen::List.replicate (N.length - 2) .nil)/\∀H'',D.rt (.bl true) H'') (h1 cdv A outer s H E hr) ?_,?_⟩
  ·intro pins s' σ H' D I ⟨p,rs,q⟩
   obtain⟨T,pT,run⟩:=hb cdv A outer s H E hr
   refine pT pins s' σ H' D I (run [] H' σ _ { nx:=fun _=>False,rt:=fun d=>d=.bl true } D rs ⟨fun _ _ _ _ _ _ q=>q.elim,fun _ _ _ _ _ _ q=>q.elim,fun _ _ _ _ _ _ q=>q.elim,fun M2 H2 σ2 ρ2 d v _ _ rd e=>?_⟩ hg)
   subst e
   simp only[Rep]at rd
   subst rd
   exact q H2
  ·refine⟨.ref a,?_,a,ns,rfl,hs',fun p H' hp pen sm=>⟨p,⟨?_,fun i s o e1 e2=>?_,OwF.none (fun i s e1=>?_),fun a z=>by simp at z,.refl,fun a z=>by simp at z,⟨fun a z=>by simp at z,fun q e=>?_⟩,⟨trivial,hT.of fun b o e _=>sm b o e⟩⟩,h⟩⟩
   ·simp[L2.start]
   ·simp[L2.start];omega
   ·match i,e1 with
    |0,e1=>simp at e1;subst e1;trivial
    |1,e1 =>
     simp at e1
     subst e1
     have hi:1<(L2.start N [V.ref a]).length:=by simp[L2.start];omega
     simp[hi]at e2
     subst e2
     refine⟨_,rfl,?_⟩
     simp only[Rep]
     exact⟨p,rfl,rfl,a,ns,0,0,pen⟩
    |i+2,e1 =>
     have:=zyo (zzM (by simpa using e1))
     subst this
     trivial
   ·have:=zzM e1
    simp at this
    rcases this with rfl|rfl|⟨_,rfl⟩<;>exact⟨fun ds z=>(by cases z),fun q z=>(by cases z)⟩
   ·cases e
    rw[pen.lst];intro z;cases z
mutual
def toPy:D->PyData
 |.non=>.none
 |.bl b=>.bool b
 |.int i=>.int i
 |.str x=>.str x
 |.tup ds=>.tuple (pN ds)
 |.lst ds=>.list (pN ds)
 |.ty _=>.none
 |.dK _ _=>.none
 |.dT _ _=>.none
 |.pen=>.none
 |.exc _=>.none
 |.exa _ _=>.none
 |.cls _=>.none
def pN:List D->List PyData
 |[]=>[]
 |d::ds=>toPy d::pN ds
def pln:D->Bool
 |.pen=>false
 |.exc _=>false
 |.exa _ _=>false
 |.cls _=>false
 |.ty _=>false
 |.dK _ _=>false
 |.dT _ _=>false
 |.tup ds=>plns ds
 |.lst ds=>plns ds
 |_=>true
def plns:List D->Bool
 |[]=>true
 |d::ds=>pln d && plns ds
end
def eqD(x y:D):Bool:=PyData.eqv (toPy x) (toPy y)
def shp(d:D):Bool:=pln d && SeqAt.shaped (toPy d)
mutual
theorem jy{P:Program}{w:World}{K:PySem.W.Frag}{pp:Option Addr}{M:List Addr}{H:Hp}{h:Heap}(ok:HOk P w H h):∀(d:D) (v:V) (u:Value),pln d=true->Rep K pp M H d v->RelV v u->∃as,Reads h u (toPy d) as
 |.non,_,_,_,r,q=>by simp only[Rep]at r;subst r;cases q;exact⟨_,.none⟩
 |.bl b,_,_,_,r,q=>by simp only[Rep]at r;subst r;cases q;exact⟨_,.bool b⟩
 |.int i,_,_,_,r,q=>by simp only[Rep]at r;subst r;obtain⟨t,rfl⟩:=q;exact⟨_,.int i t⟩
 |.str x,_,_,_,r,q=>by simp only[Rep]at r;subst r;obtain⟨t,rfl⟩:=q;exact⟨_,.str x t⟩
 |.tup ds,_,_,p,r,q=>by
  simp only[Rep]at r
  obtain⟨a,xs,rfl,ha,r⟩:=r
  cases q
  obtain⟨_,its,vs,o,ho,hc,n,hd⟩:=ok a _ ha
  obtain⟨as,z⟩:=mQ ok ds xs its (by simpa only[pln]using p) r vs
  exact⟨_,by rw[toPy];exact .tuple ho hc hd (by simpa using z)⟩
 |.lst ds,_,_,p,r,q=>by
  simp only[Rep]at r
  obtain⟨a,xs,rfl,_,_,ha,r⟩:=r
  cases q
  obtain⟨_,its,n,vs,ho⟩:=ok a _ ha
  obtain⟨as,z⟩:=mQ ok ds xs its (by simpa only[pln]using p) r vs
  exact⟨_,by rw[toPy];exact .list ho rfl rfl (by simpa using z)⟩
 |.ty _,_,_,p,_,_=>by simp[pln]at p
 |.dK _ _,_,_,p,_,_=>by simp[pln]at p
 |.dT _ _,_,_,p,_,_=>by simp[pln]at p
 |.pen,_,_,p,_,_=>by simp[pln]at p
 |.exc _,_,_,p,_,_=>by simp[pln]at p
 |.exa _ _,_,_,p,_,_=>by simp[pln]at p
 |.cls _,_,_,p,_,_=>by simp[pln]at p
theorem mQ{P:Program}{w:World}{K:PySem.W.Frag}{pp:Option Addr}{M:List Addr}{H:Hp}{h:Heap}(ok:HOk P w H h):∀(ds:List D) (vs:List V) (us:List Value),plns ds=true->Reps K pp M H ds vs->Vals vs us->∃as,ReadsAll h us (pN ds) as
 |[],_,_,_,r,q=>by simp only[Reps]at r;subst r;cases q;exact⟨_,.nil⟩
 |d::ds,_,_,p,r,q=>by
  simp only[Reps]at r
  obtain⟨x,r',rfl,r1,r2⟩:=r
  simp only[plns,zzT]at p
  cases q with
  |cons q1 q2 =>
   obtain⟨as,z1⟩:=jy ok d _ _ p.1 r1 q1
   obtain⟨bs,z2⟩:=mQ ok ds _ _ p.2 r2 q2
   exact⟨_,by rw[pN];exact .cons z1 z2⟩
end
section
variable{X:Cx}{pp:Option Addr}{k:Nat}
def rEqD(K:PySem.W.Frag)(n:Bool):R2:=fun x y H Q=>∃pp M dx dy,Rep K pp M H dx x/\Rep K pp M H dy y/\shp dx=true/\shp dy=true/\Q (.bl (if n then !eqD dx dy else eqD dx dy)) H
theorem Fc(hr:Room k X.A):OpR X (compareOp .Eq) (rEqD X.K false):=by
 intro pins s σ H x y v u Q I rx ry h
 obtain⟨pp,M,dx,dy,r1,r2,s1,s2,q⟩:=h
 unfold shp at s1 s2
 rw[zzT]at s1 s2
 obtain⟨as,z1⟩:=jy I.hok dx x v s1.1 r1 rx
 obtain⟨bs,z2⟩:=jy I.hok dy y u s2.1 r2 ry
 exact SeqAt.compareEq_shaped z1 z2 s1.2 s2.2 (by have:=hr.un;omega) (cO I q rfl)
theorem Fd(hr:Room k X.A):OpR X (compareOp .NotEq) (rEqD X.K true):=by
 intro pins s σ H x y v u Q I rx ry h
 obtain⟨pp,M,dx,dy,r1,r2,s1,s2,q⟩:=h
 unfold shp at s1 s2
 rw[zzT]at s1 s2
 obtain⟨as,z1⟩:=jy I.hok dx x v s1.1 r1 rx
 obtain⟨bs,z2⟩:=jy I.hok dy y u s2.1 r2 ry
 exact SeqAt.compareNe_shaped z1 z2 s1.2 s2.2 (by have:=hr.un;omega) (cO I q rfl)
def gEq(n:Bool):D->D->(D->Prop)->Prop:=fun x y P=>(shp x=true/\shp y=true)/\P (.bl (if n then !eqD x y else eqD x y))
theorem cf(hr:Room k X.A):OpD X (compareOp .Eq) (gEq false) :=
 ⟨fun _ _ _ _ f h=>⟨h.1,f _ h.2⟩,_,Fc hr,fun {pp} M H x y v u Q _ rx ry h=>⟨pp,M,x,y,rx,ry,h.1.1,h.1.2,h.2 H _ .refl eY⟩⟩
theorem lP(hr:Room k X.A):OpD X (compareOp .NotEq) (gEq true) :=
 ⟨fun _ _ _ _ f h=>⟨h.1,f _ h.2⟩,_,Fd hr,fun {pp} M H x y v u Q _ rx ry h=>⟨pp,M,x,y,rx,ry,h.1.1,h.1.2,h.2 H _ .refl eY⟩⟩
end
section
variable{X:Cx}{F:Fx}{pp:Option Addr}
def GM:D->D->(D->Prop)->Prop
 |.tup xs,.tup ys,P=>(xs≠[]/\xs.length+ys.length <= sizeLine)/\P (.tup (xs++ys))
 |_,_,_=>False
theorem CD:OpD X (binaryOp .Add) GM:=by
 refine⟨fun x y P P' f h=>?_,_,xr,fun {pp} M H x y v u Q _ rx ry h=>?_⟩
 ·cases x<;>first|exact h.elim|skip
  cases y<;>first|exact h.elim|exact⟨h.1,f _ h.2⟩
 ·cases x<;>first|exact h.elim|skip
  cases y<;>first|exact h.elim|skip
  rename_i xs ys
  have rx':=rx
  simp only[Rep]at rx ry
  obtain⟨a,us,rfl,ha,ra⟩:=rx
  obtain⟨b,ws,rfl,hb,rb⟩:=ry
  obtain⟨⟨h1,h2⟩,h⟩:=h
  refine⟨a,b,us,ws,rfl,rfl,SqT.of ha,SqT.of hb,?_,by rw[←ra.length,←rb.length];exact h2,fun e=>?_,fun e l hl=>?_⟩
  ·rintro rfl
   have:=ra.length
   exact h1 (zzK.mp this)
  ·subst e
   have:=rb.length
   have e2:ys=[]:=zzK.mp this
   subst e2
   rw[zzy]at h
   exact h H _ .refl rx'
  ·refine h _ _ (.new hl) ?_
   simp only[Rep]
   exact⟨l,_,rfl,ak,(ra.append rb).mv (.new hl)⟩
abbrev DO:=DS->(Option Int->DS->Prop)->Prop
structure POD(X:Cx)(e:Option Expr)(t:DO):Prop where
 mono:∀ρ P P',(∀b ρ',P b ρ'->P' b ρ')->t ρ P->t ρ P'
 run:∃T:TO,PO X e T/\∀{F:Fx} M H σ ρ (Q:Option Int->Hp->Prop),RSt X.K F M H σ ρ ->
  (t ρ fun o ρ'=>∀M' H',Mv X.K F.pp M H M' H'->RSt X.K F M' H' σ ρ'->Q o H')->T σ H Q
abbrev xV:DO:=fun ρ Q=>Q none ρ
abbrev xW(te:DE):DO:=fun ρ Q=>te ρ fun d ρ'=>match d with
 |.int i=>Q (some i) ρ'
 |_=>False
theorem iB:POD X none xV:=⟨fun _ _ _ f h=>f _ _ h,_,Ci,fun {F} M H σ ρ Q rs h=>h M H .refl rs⟩
theorem iC{e:Expr}{te:DE}(he:PED X e te):POD X (some e) (xW te):=by
 obtain⟨T,p,r⟩:=he.run
 refine⟨fun _ _ _ f h=>he.mono _ _ _ (fun d _ h=>?_) h,_,Cj p,fun {F} M H σ ρ Q rs h=>r M H σ ρ _ rs (he.mono _ _ _ (fun d ρ' h M' H' v m rs' rd=>?_) h)⟩
 ·cases d<;>first|exact h.elim|exact f _ _ h
 ·cases d<;>first|exact h.elim|skip
  simp only[Rep]at rd
  exact⟨_,rd,h M' H' m rs'⟩
def cutD(xs:List D)(lo hi:Option Int):List D:=(xs.drop (HT.sIx xs.length 0 lo)).take (HT.sIx xs.length xs.length hi - HT.sIx xs.length 0 lo)
theorem Reps.cut{K:PySem.W.Frag}{M:List Addr}{H:Hp}{ds:List D}{xs:List V}(lo hi:Option Int)(r:Reps K pp M H ds xs):Reps K pp M H (cutD ds lo hi) (cutV xs lo hi):=by
 unfold cutD cutV
 rw[r.length]
 exact(r.drop _).take _
end
theorem qZ{g:DG}{b:DTS}{E:DEnds}{ds:List D}(N:DS->Prop)(hn:∀ρ,N ρ->E.nx ρ)
  (hs:∀d∈ds,∀(ρ:DS) (X:DS->Prop),N ρ->(∀ρ',N ρ'->X ρ')->g d ρ fun ρ1=>b { E with nx:=X,ct:=X,bk:=E.nx } ρ1):∀ρ,N ρ->iz g b ds E ρ:=by
 induction ds with
 |nil=>exact hn
 |cons d r ih=>exact fun ρ h=>hs d zzd ρ _ h (ih fun d hd=>hs d (zzb _ hd))
theorem bO{g:DG}{b:DTS}{E:DEnds}{ds:List D}(N:List D->DS->Prop)(hn:∀ρ,N ds ρ->E.nx ρ)
  (hs:∀(pre:List D) (d:D) (post:List D) (ρ:DS) (X:DS->Prop),ds=pre++d::post->N pre ρ->(∀ρ',N (pre++[d]) ρ'->X ρ')->g d ρ fun ρ1=>b { E with nx:=X,ct:=X,bk:=E.nx } ρ1) (ρ:DS) (h:N [] ρ):iz g b ds E ρ:=by
 have key:∀(post pre:List D),ds=pre++post->∀ρ,N pre ρ->iz g b post E ρ:=by
  intro post
  induction post with
  |nil=>intro pre e ρ h;rw[zzy]at e;subst e;exact hn ρ h
  |cons d r ih=>intro pre e ρ h;exact hs pre d r ρ _ e h (ih (pre++[d]) (by rw[e,zym];rfl))
 exact key ds [] rfl ρ h
theorem wk{c:DT}{b:DTS}{E:DEnds}(N:DS->Prop)(μ:DS->Nat)
  (hs:∀(ρ:DS) (X:DS->Prop),N ρ->(∀ρ',N ρ'->μ ρ'<μ ρ->X ρ')->c ρ fun k ρ'=>Br k (b { E with nx:=X,ct:=X,bk:=E.nx } ρ') (E.nx ρ')) (ρ:DS) (h:N ρ):Bj c b E ρ:=by
 have key:∀n ρ,N ρ->μ ρ<n->gg c b n E ρ:=by
  intro n
  induction n with
  |zero=>intro ρ _ h;exact absurd h (zyq _)
  |succ n ih=>intro ρ h hl;exact hs ρ _ h fun ρ' h' hl'=>ih ρ' h' (by omega)
 exact⟨_,key _ ρ h (Nat.lt_succ_self _)⟩
theorem Bn{α:Type}{xs:List α}{r:Int}(h0:0 <= r)(h1:r<xs.length):∃d,atI xs r=some d/\xs[r.toNat]? = some d:=by
 obtain⟨j,rfl⟩:=Int.eq_ofNat_of_zero_le h0
 have hj:j<xs.length:=by omega
 exact⟨xs[j],sL (by simp[hj]),by simp[hj]⟩
theorem CF{xs:List D}{r:Int}{Q:D->Prop}(h0:0 <= r)(h1:r<xs.length)(h:∀d∈xs,Q d):opt (atI xs r) Q:=by
 obtain⟨d,e,e2⟩:=Bn h0 h1
 rw[e]
 exact h d (zzM e2)
theorem lB{xs:List D}{r:Int}{d:D}{Q:D->Prop}(h0:0 <= r)(e:xs[r.toNat]? = some d)(h:Q d):opt (atI xs r) Q:=by
 obtain⟨j,rfl⟩:=Int.eq_ofNat_of_zero_le h0
 rw[sL (show xs[j]? = some d from e)]
 exact h
theorem sz{n:Nat}(h:Nat.ble n 1000=true:=by rfl):n <= sizeLine:=zzk (Nat.le_of_ble_eq_true h) (by decide)
theorem aV{i j:Int}:eqD (.int i) (.int j)=decide (i=j):=by
 show (i == j)=_
 by_cases h:i=j<;>simp[h]
def Bd(n:Nat)(i:Int):Prop:=i.natAbs<2^n
theorem Bd.mono{m n:Nat}{i:Int}(h:Bd m i)(l:m <= n):Bd n i:=zzz h (Nat.pow_le_pow_right (by decide) l)
theorem Bd.le{m:Nat}{i j:Int}(h:Bd m j)(l:i.natAbs <= j.natAbs):Bd m i:=zzC l h
theorem Bd.big{m:Nat}{i:Int}(h:Bd m i)(l:m <= 8000):Big i:=xE (h.mono l)
theorem Bd.cmul{m n:Nat}{i j:Int}(h:Bd m i)(q:Bd n j)(l:m <= 8000:=by decide)(l':n <= 8000:=by decide):CMulB i j:=.inr (.inr ⟨h.big l,q.big l'⟩)
end DL
namespace DL
open PySem PySem.Spec L2
open PyProof.Rows hiding St
variable[TB]
def lC:Sl->Sl
 |.own _=>.nil
 |.obj _=>.nil
 |s=>s
theorem fA(s:Sl):(∀ds,lC s ≠ .own ds)/\∀q,lC s ≠ .obj q:=by
 cases s<;>exact⟨fun ds z=>(by cases z),fun q z=>(by cases z)⟩
def bn(ρ:DS):DS:=ρ.map lC
def Fe(ρ:DS):Option Nat->Sl
 |none=>.nil
 |some j=>lC (slot ρ j)
def subD(js:List (Option Nat))(ρ:DS):DS:=js.map (Fe ρ)
def cF(g:DG)(tc:DT)(te:DE):List D->List D->DS->(List D->Prop)->Prop
 |[],acc,_,Q=>Q acc
 |d::r,acc,ρ,Q=>g d ρ fun ρ1=>tc ρ1 fun b ρ2=>Br b (te ρ2 fun y ρ3=>acc.length<sizeLine/\cF g tc te r (acc++[y]) (bn ρ3) Q) (cF g tc te r acc (bn ρ2) Q)
abbrev GN(t:DA)(js:List (Option Nat))(g:DG)(tc:DT)(te:DE):DA:=fun ρ Q=>t ρ fun ds ρ1=>cF g tc te ds [] (subD js ρ1) fun ys=>Q ys ρ1
def delH(H:Hp)(a:Addr):Hp:=fun b=>if b=a then none else H b
theorem jz{H:Hp}{a:Addr}:delH H a a=none:=by simp[delH]
theorem bp{H:Hp}{a b:Addr}(h:b≠a):delH H a b=H b:=by simp[delH,h]
theorem Tabs.del{H:Hp}{l:Addr}{o:HO}(h:Tabs H)(hl:H l=some o)(ht:¬TF o):Tabs (delH H l) :=
 h.of fun b x e tf=>by
  rw[bp]
  ·exact e
  ·rintro rfl
   rw[hl]at e;cases e
   exact ht tf
theorem uQ{H:Hp}{a:Addr}{o:HO}(h:H a=some o):upd (delH H a) a o=H:=by
 funext b
 by_cases e:b=a
 ·subst e;rw[ak,h]
 ·rw[ao e,bp e]
section
variable{X:Cx}{F:Fx}{K:PySem.W.Frag}{pp:Option Addr}
theorem RSt.rebase{M:List Addr}{H:Hp}{σ:St}{ρ:DS}(r:RSt K F M H σ ρ):RSt K ⟨F.pp,M,H⟩ M H σ (bn ρ):=by
 refine⟨by simp[bn,r.len],fun i s o h1 h2=>?_,OwF.none (fun i s h1=>?_),fun a h=>h,.refl,r.liv.m,r.liv0,⟨trivial,r.lk.t⟩⟩
 ·simp only[bn,zzq]at h1
  cases q:ρ[i]? with
  |none=>rw[q]at h1;cases h1
  |some s' =>
   rw[q]at h1
   cases h1
   have:=r.sl i s' o q h2
   cases s' with
   |nil=>trivial
   |val d=>exact this
   |pin w d=>exact this
   |own ds=>trivial
   |obj q=>trivial
 ·simp only[bn,zzq]at h1
  cases q:ρ[i]? with
  |none=>rw[q]at h1;cases h1
  |some s' =>
   rw[q]at h1
   cases h1
   exact fA s'
theorem RSt.writeFree{M:List Addr}{H:Hp}{σ:St}{ρ:DS}{D:Addr}{xs ys:List V}(r:RSt K ⟨F.pp,M,H⟩ M H σ (bn ρ))(hD:D∈M)(hp:F.pp≠some D)(h:H D=some (.lst xs)) :
  RSt K ⟨F.pp,M,upd H D (.lst ys)⟩ M (upd H D (.lst ys)) σ (bn ρ):=by
 have m:Mv K F.pp M H M (upd H D (.lst ys)):=.write h hD hp
 have lv:Lv0 F.pp M (upd H D (.lst ys)):=by
  refine⟨fun a ha=>?_,fun p e=>?_⟩
  ·by_cases z:a=D
   ·subst z;rw[ak];intro z;cases z
   ·rw[ao z];exact r.liv.m a ha
  ·by_cases z:p=D
   ·subst z;rw[ak];intro z;cases z
   ·rw[ao z];exact r.liv.p p e
 refine⟨r.len,fun i s o h1 h2=>?_,OwF.none (fun i s h1=>?_),fun a h=>h,.refl,lv.m,lv,⟨trivial,m.tb r.lk.t⟩⟩
 rotate_left
 ·simp only[bn,zzq]at h1
  cases q:ρ[i]? with
  |none=>rw[q]at h1;cases h1
  |some s' =>
   rw[q]at h1
   cases h1
   exact fA s'
 have q:=r.sl i s o h1 h2
 cases s with
 |nil=>trivial
 |val d=>obtain⟨v,e,q⟩:=q;exact⟨v,e,q.mv m⟩
 |pin w d=>obtain⟨v,e,ew,q⟩:=q;exact⟨v,e,ew,q.mv m⟩
 |obj z=>exact q
 |own ds =>
  exfalso
  simp only[bn,zzq]at h1
  cases q:ρ[i]? with
  |none=>rw[q]at h1;cases h1
  |some s'=>rw[q]at h1;cases s'<;>cases h1
theorem mR(ρ:DS):bn (bn ρ)=bn ρ:=by
 simp only[bn,zzg]
 refine zzv fun s _=>?_
 cases s<;>rfl
theorem hG(js:List (Option Nat))(ρ:DS):bn (subD js ρ)=subD js ρ:=by
 simp only[bn,subD,zzg]
 refine zzv fun o _=>?_
 cases o with
 |none=>rfl
 |some j=>simp only[Function.comp,Fe];cases slot ρ j<;>rfl
theorem RSt.block{M:List Addr}{H:Hp}{σ:St}{ρ:DS}{D:Addr}(r:RSt K F M H σ ρ)(js:List (Option Nat))(hD:H D=none) :
  RSt K ⟨F.pp,D::M,upd H D (.lst [])⟩ (D::M) (upd H D (.lst [])) (L2.sub js σ) (subD js ρ):=by
 have m:Mv K F.pp M H (D::M) (upd H D (.lst [])):=.newOwn hD
 have lv:Lv0 F.pp (D::M) (upd H D (.lst [])):=by
  refine⟨fun a ha=>?_,fun p e=>(SameP.new (K:=K) (pp:=F.pp) hD).live p (r.liv.p p e)⟩
  rcases zzj.mp ha with rfl|ha
  ·rw[ak];intro z;cases z
  ·exact(SameP.new (K:=K) (pp:=F.pp) hD).live a (r.liv.m a ha)
 refine⟨by simp[L2.sub,subD],fun i s o h1 h2=>?_,OwF.none (fun i s h1=>?_),fun a h=>h,.refl,lv.m,lv,⟨trivial,m.tb r.lk.t⟩⟩
 ·simp only[subD,zzq]at h1
  simp only[L2.sub,zzq]at h2
  cases q:js[i]? with
  |none=>rw[q]at h1;cases h1
  |some jo =>
   rw[q]at h1 h2
   cases h1
   cases h2
   cases jo with
   |none=>trivial
   |some j =>
    show RSl K _ _ _ (lC (slot ρ j)) _
    cases e:slot ρ j with
    |nil=>trivial
    |own ds=>trivial
    |obj q=>trivial
    |val d =>
     obtain⟨o,ho,v,rfl,hr⟩:=r.at (aF e (by intro z;cases z))
     exact⟨v,by simp[sub1,ho],hr.mv m⟩
    |pin w d =>
     obtain⟨o,ho,v,rfl,ew,hr⟩:=r.at (aF e (by intro z;cases z))
     exact⟨v,by simp[sub1,ho],ew,hr.mv m⟩
 ·simp only[subD,zzq]at h1
  cases q:js[i]? with
  |none=>rw[q]at h1;cases h1
  |some jo =>
   rw[q]at h1
   cases jo with
   |none=>cases h1;exact⟨fun ds z=>(by cases z),fun q z=>(by cases z)⟩
   |some j =>
    cases h1
    exact fA (slot ρ j)
structure PTsD(X:Cx)(ifs:List Expr)(t:DT):Prop where
 mono:∀ρ P P',(∀b ρ',P b ρ'->P' b ρ')->t ρ P->t ρ P'
 run:∃T:TT,PTs X ifs T/\∀{F:Fx} M H σ ρ (Q:Bool->Hp->Prop),RSt X.K F M H σ ρ ->
  (t ρ fun b ρ'=>∀M' H',Mv X.K F.pp M H M' H'->RSt X.K F M' H' σ ρ'->Q b H')->T σ H Q
abbrev dQ:DT:=fun ρ Q=>Q true ρ
theorem bb:PTsD X [] dQ:=⟨fun _ _ _ f h=>f _ _ h,_,Ct,fun {F} M H σ ρ Q rs h=>h M H .refl rs⟩
theorem kq{c:Expr}{t:DT}(h:PTD X c t):PTsD X [c] t:=by
 obtain⟨T,p,r⟩:=h.run
 exact⟨h.mono,T,Cu p,r⟩
structure PCD(X:Cx)(e:Expr)(t:DA):Prop where
 mono:∀ρ P P',(∀d ρ',P d ρ'->P' d ρ')->t ρ P->t ρ P'
 run:∃T:TE,PE X e T/\(∀(i:Nat) (y:Str) (py spos:Pos),X.N.Nodup->X.N[i]? = some y->X.env.scope.names.lookup y=some .local->swapsWith e (some (.Name y py)) spos.line X.env=pure true->PS X (.Assign [.Name y py] e spos) (tAsg T (sJ i))) /\
  ∀{F:Fx} M H σ ρ (Q:VK),RSt X.K F M H σ ρ ->
  (t ρ fun ds ρ'=>∀M' H1 H' l xs,Mv X.K F.pp M H M' H1->RSt X.K F M' H1 σ ρ'->H1 l=none->H'=upd H1 l (.lst xs)->Reps X.K F.pp M' H1 ds xs->Q (.ref l) H')->T σ H Q
theorem PCD.pld{e:Expr}{t:DA}(h:PCD X e t):PLD X e t:=by
 obtain⟨T,p,_,r⟩:=h.run
 exact⟨h.mono,T,p,r⟩
theorem hU{g:DG}{tc:DT}{te:DE}(hg:∀d ρ P P',(∀ρ',P ρ'->P' ρ')->g d ρ P->g d ρ P')(hc:∀ρ P P',(∀b ρ',P b ρ'->P' b ρ')->tc ρ P->tc ρ P')(he:∀ρ P P',(∀d ρ',P d ρ'->P' d ρ')->te ρ P->te ρ P'){Q Q':List D->Prop}(f:∀ys,Q ys->Q' ys) :
  ∀(ds acc:List D) (ρ:DS),cF g tc te ds acc ρ Q->cF g tc te ds acc ρ Q'
 |[],acc,ρ,h=>f _ h
 |d::r,acc,ρ,h=>hg _ _ _ _ (fun ρ1 h=>hc _ _ _ (fun b ρ2 h=>⟨fun e=>he _ _ _ (fun y ρ3 h=>⟨h.1,hU hg hc he f r _ _ h.2⟩) (h.yes e),fun e=>hU hg hc he f r _ _ (h.no e)⟩) h) h
theorem aQ{tg elt iter:Expr}{ifs:List Expr}{scope:Scope}{cl:List (Str×Addr)}{N':List Str}{js:List (Option Nat)}{pos:Pos}{t:DA}{g:DG}{tc:DT}{te:DE}
  (hc:X.calm=true) (hclo:dc X.env.cells scope.names []=some cl) (hdis:∀y∈scope.names,y.2=.free->(y.1,NameKind.cell)∉scope.names) (hkind:scope.kind=.function) (cap:Cap X scope N' js)
  (hnames:∀y∈scope.names,y.2=.local->scope.names.lookup y.1=some .local) (hi:PID X tg iter t)
  (hg:∀B:Blk,PGD (cxB X scope cl N' B) tg g) (ht:∀B:Blk,PTsD (cxB X scope cl N' B) ifs tc) (he:∀B:Blk,PED (cxB X scope cl N' B) elt te)
  (hs:∀v,foldedSetIterable iter X.env v=pure v:=by intro _;rfl):PCD X (.ListComp elt [⟨tg,iter,ifs,0⟩] scope pos) (GN t js g tc te):=by
 obtain⟨wi,pi,ri⟩:=hi.run
 have hb:∀B:Blk,PG (cxB X scope cl N' B) tg (Classical.choose (hg B).run)/\PTs (cxB X scope cl N' B) ifs (Classical.choose (ht B).run)/\PE (cxB X scope cl N' B) elt (Classical.choose (he B).run):=fun B =>
  ⟨(zzA (hg B).run).1,(zzA (ht B).run).1,(zzA (he B).run).1⟩
 let B0:Blk:=⟨0,X.s₀,X.H₀,[],[]⟩
 refine⟨fun _ _ _ f h=>hi.mono _ _ _ (fun ds ρ1 h=>hU (hg B0).mono (ht B0).mono (he B0).mono (fun ys h=>f _ _ h) _ _ _ h) h,_,xK hc hclo hdis hkind cap hnames pi hb hs,fun i y py spos hN hy hl hsw=>xL hN hy hl hc hclo hdis hkind cap hnames pi hb hsw hs,fun {F} M H σ ρ Q rs h=>?_⟩
 refine ri M H σ ρ _ rs (hi.mono _ _ _ (fun ds ρ1 h M1 H1 J m1 rs1 ok=>?_) h)
 intro B Dl hD
 obtain⟨_,rg⟩:=zzA (hg B).run
 obtain⟨_,rt⟩:=zzA (ht B).run
 obtain⟨_,re⟩:=zzA (he B).run
 have fr:=rs1.liv.fresh hD
 have m3:Mv X.K F.pp M1 H1 (Dl::M1) (upd H1 Dl (.lst [])):=.newOwn hD
 refine⟨fun i m σ' H'=>∃M' ρ' acc ys,m=ds.length - i/\i <= ds.length/\Mv X.K F.pp M1 H1 M' H'/\SameP X.K F.pp H1 H'/\RSt X.K ⟨F.pp,M',H'⟩ M' H' σ' (bn ρ')/\Dl∈M'/\(∀a∈M1,a∈M')/\H' Dl=some (.lst ys)/\Reps X.K F.pp M' H' acc ys /\
  cF g tc te (ds.drop i) acc (bn ρ') fun ys=>∀M' H1 H' l xs,Mv X.K F.pp M H M' H1->RSt X.K F M' H1 σ ρ1->H1 l=none->H'=upd H1 l (.lst xs)->Reps X.K F.pp M' H1 ys xs->Q (.ref l) H',
  ⟨ds.length,Dl::M1,subD js ρ1,[],[],rfl,zzH _,m3,.new hD,by rw[hG];exact rs1.block js hD,zzd,fun a ha=>zzb _ ha,ak,.nil,by rw[hG];exact h⟩,?_⟩
 rintro i m σ' H' ⟨M',ρ',acc,ys,rfl,hil,mv,sm,rs',hDm,hsub,hDl,ra,hcoll⟩
 by_cases hlt:i<ds.length
 ·have e1:ds[i]? = some ds[i]:=by simp[hlt]
  rw[zyI hlt]at hcoll
  refine .inr ⟨ok.go M' H' mv i hlt,fun σ2 H2=>∃M2 ρ2 acc ys,Mv X.K F.pp M1 H1 M2 H2/\SameP X.K F.pp H1 H2/\RSt X.K ⟨F.pp,M2,H2⟩ M2 H2 σ2 (bn ρ2)/\Dl∈M2/\(∀a∈M1,a∈M2)/\H2 Dl=some (.lst ys)/\Reps X.K F.pp M2 H2 acc ys /\
   cF g tc te (ds.drop (i+1)) acc (bn ρ2) fun ys=>∀M' H1 H' l xs,Mv X.K F.pp M H M' H1->RSt X.K F M' H1 σ ρ1->H1 l=none->H'=upd H1 l (.lst xs)->Reps X.K F.pp M' H1 ys xs->Q (.ref l) H',
   fun σ2 H2 ⟨M2,ρ2,acc,ys,a1,a2,a3,a4,a5,a6,a7,a8⟩=>⟨ds.length - (i+1),by omega,M2,ρ2,acc,ys,rfl,hlt,a1,a2,a3,a4,a5,a6,a7,a8⟩,fun y H2 yl=>?_⟩
  obtain⟨sp,rx⟩:=ok.yld M' H' mv i _ y H2 e1 yl
  have rs'':RSt X.K ⟨F.pp,M',H2⟩ M' H2 σ' (bn ρ'):=by
   have:=(rs'.sameP sp).rebase
   rw[mR]at this
   exact this
  have mv2:=mv.trans (sp.mv (M:=M'))
  have sm2:=sm.trans sp
  have ra2:=ra.mv (sp.mv (M:=M'))
  have hDl2:H2 Dl=some (.lst ys):=sp.keep Dl _ hDl (nw fr.2)
  refine rg M' H2 σ' (bn ρ') _ _ _ rs'' rx ((hg B).mono _ _ _ _ (fun ρ3 h3 M3 H3 σ3 m3 rs3=>?_) hcoll)
  refine rt M3 H3 σ3 ρ3 _ rs3 ((ht B).mono _ _ _ (fun b ρ4 h4 M4 H4 m4 rs4=>?_) h3)
  -- what stands behind a step within this turn
  have keep:∀{M5:List Addr}{H5:Hp}{σ5:St}{ρ5:DS},Mv X.K F.pp M' H2 M5 H5->RSt X.K ⟨F.pp,M',H2⟩ M5 H5 σ5 ρ5->Mv X.K F.pp M1 H1 M5 H5/\SameP X.K F.pp H1 H5/\RSt X.K ⟨F.pp,M5,H5⟩ M5 H5 σ5 (bn ρ5)/\Dl∈M5/\(∀a∈M1,a∈M5)/\H5 Dl=some (.lst ys)/\Reps X.K F.pp M5 H5 acc ys:=fun mm rr =>
   ⟨mv2.trans mm,sm2.trans rr.sameT,rr.rebase,rr.sub _ hDm,fun a ha=>rr.sub _ (hsub a ha),rr.same.keep Dl _ hDl2 (nw fr.2),ra2.mv mm⟩
  cases b with
  |false =>
   refine iteF ?_
   obtain⟨a1,a2,a3,a4,a5,a6,a7⟩:=keep (m3.trans m4) rs4
   exact⟨M4,ρ4,acc,ys,a1,a2,a3,a4,a5,a6,a7,h4.no rfl⟩
  |true =>
   refine iteT (re M4 H4 σ3 ρ4 _ rs4 ((he B).mono _ _ _ (fun y ρ5 h5 M5 H5 v m5 rs5 r5=>?_) (h4.yes rfl)))
   obtain⟨a1,a2,a3,a4,a5,a6,a7⟩:=keep ((m3.trans m4).trans m5) rs5
   have mw:Mv X.K F.pp M5 H5 M5 (upd H5 Dl (.lst (ys++[v]))):=.write a6 a4 fr.2
   refine⟨ys,a6,by rw[←a7.length];exact h5.1,M5,ρ5,acc++[y],ys++[v],a1.trans mw,?_,a3.writeFree a4 fr.2 a6,a4,a5,ak,(a7.append (.one r5)).mv mw,h5.2⟩
   refine⟨⟨fun b o e n=>?_,fun p e hp=>mw.pen p e (a2.pen p e hp),fun b hb=>?_⟩,fun tb=>mw.tb (a2.tb tb)⟩
   ·rw[ao (by rintro rfl;rw[hD]at e;cases e)]
    exact a2.keep b o e n
   ·by_cases z:b=Dl
    ·subst z;rw[ak];intro z;cases z
    ·rw[ao z];exact a2.live b hb
 ·have e:i=ds.length:=by omega
  refine .inl ⟨ok.stop M' H' mv i (by omega),?_⟩
  have hd:ds.drop i=[]:=by rw[List.drop_eq_nil_iff];omega
  rw[hd]at hcoll
  have sd:SameP X.K F.pp H1 (delH H' Dl):=by
   refine⟨⟨fun b o e n=>?_,fun p e hp=>?_,fun b hb=>?_⟩,fun tb=>(sm.tb tb).del hDl ki⟩
   ·rw[bp (by rintro rfl;rw[hD]at e;cases e)]
    exact sm.keep b o e n
   ·obtain⟨a,ns,t,l,pn⟩:=sm.pen p e hp
    have np:p≠Dl:=by rintro rfl;exact fr.2 e
    refine⟨a,ns,t,l,by rw[bp np];exact pn.lst,?_,pn.t0⟩
    rcases pn.scr with ⟨o,q⟩|q
    ·exact .inl ⟨o,by rw[bp (jl q hDl (by intro z;cases z))];exact q⟩
    ·exact .inr q
   ·rw[bp (by rintro rfl;exact hb hD)]
    exact sm.live b hb
  have md:Mv X.K F.pp M' H' M1 (delH H' Dl):=by
   refine⟨fun a xs q=>by rw[bp (jl q hDl (by intro z;cases z))];exact q,fun a o q n p=>⟨by rw[bp (by rintro rfl;exact n hDm)];exact q,fun z=>n (hsub a z)⟩,fun p e hp=>?_,fun tb=>tb.del hDl ki⟩
   obtain⟨a,ns,t,l,pn⟩:=hp
   have np:p≠Dl:=by rintro rfl;exact fr.2 e
   refine⟨a,ns,t,l,by rw[bp np];exact pn.lst,?_,pn.t0⟩
   rcases pn.scr with ⟨o,q⟩|q
   ·exact .inl ⟨o,by rw[bp (jl q hDl (by intro z;cases z))];exact q⟩
   ·exact .inr q
  exact hcoll M1 (delH H' Dl) H' Dl ys (m1.trans sd.mv) (rs1.sameP sd) jz (uQ hDl).symm (ra.mv md)
theorem iD{e:Expr}{t:DA}{i:Nat}{y:Str}{py pos:Pos}(hN:X.N.Nodup)(hy:X.N[i]? = some y)(hl:X.env.scope.names.lookup y=some .local)(h:PCD X e t)(hsw:swapsWith e (some (.Name y py)) pos.line X.env=pure true:=by rfl):PSD X (.Assign [.Name y py] e pos) (dSet i (dFrz t)):=by
 obtain⟨T,_,p,r⟩:=h.run
 refine⟨_,p i y py pos hN hy hl hsw,fun {F} M H σ ρ E D rs o q=>r M H σ ρ _ rs (h.mono _ _ _ (fun ds ρ1 q M1 H1 H' l xs m1 rs1 hl e r1=>?_) q)⟩
 subst e
 refine o.nx M1 _ _ _ (m1.trans (.new hl)) ((rs1.sameP (.new hl)).set ?_ i) q
 simp only[Rep]
 exact⟨l,xs,rfl,(rs1.liv.fresh hl).1,(rs1.liv.fresh hl).2,ak,r1.mv (.new hl)⟩
end
end DL
namespace L2
open PySem PySem.Spec PyProof.Rows
section
variable{X:Cx}{tg:Expr}
theorem Aa(hc:X.calm=true):eV X (.builtin "sum") (fun xs H Q=>∃(p:Addr) (ns:List Int),xs=[.ref p]/\SqL X.K H p (ns.map V.int)/\Q (.int ns.sum) H):=by
 intro pins s σ H xs us Q I r h
 obtain⟨p,ns,rfl,hl,q⟩:=h
 obtain⟨u,rfl,e⟩:=oq r
 cases e
 obtain⟨its,rv,pl,_⟩:=I.list hl
 have hi:IntsAre its ns:=vW rv
 obtain⟨ps,e⟩:=hi.allInts.items
 have il:=pl.isList
 rw[e]at il
 refine sum_intListG (I.ok.hd hc) il fun h' tk t' hk=>⟨.int ns.sum,H,I.kept hk,⟨t',?_⟩,q⟩
 have e2:numsOf its=ns:=hi.numsOf
 have e3:=nums_intItems ps
 rw[←e]at e3
 have e4:ps.toList.map (·.1)=ns:=by rw[←e3,←e2]
 rw[preSum_eq,List.take_of_length_le (by simp),e4]
def iSeq(K:PySem.W.Frag)(tl:TE):TI:=fun σ H R=>tl σ H fun x H1=>(∃a,x=.ref a/\(∃xs,SqL K H1 a xs)/\R (Itl K a) H1)∨(∃a,x=.ref a/\(∃xs,SqT K H1 a xs)/\R (Itt K a) H1)
theorem Ff{l:Expr}{tl:TE}(hl:PE X l tl):PI X tg l (iSeq X.K tl):=by
 intro pins s σ H R I h
 refine thn (hl pins s σ H _ I h) fun v s1 ⟨x,H1,I1,r1,q1⟩=>?_
 rcases q1 with ⟨a,rfl,⟨xs,hq⟩,q⟩|⟨a,rfl,⟨xs,hq⟩,q⟩
 ·cases r1
  obtain⟨its,rv,p,hz⟩:=I1.list hq
  refine wpAny_pyIter_list p.isList ⟨s1.heap.objs.size,[s1.heap.objs.size],_,_,H1,rfl,I1.kept (t':=s1.toks) (fun b o e=>zzf _ e),qz a _,⟨_,zzn _ rfl,rfl,rfl⟩,fun b hb=>?_,q⟩
  rw[show b=s1.heap.objs.size by simpa using hb]
  exact I1.fpOk (zzh _) (I1.hok.fresh (zzh _))
 ·cases r1
  obtain⟨its,rv,p,hz⟩:=I1.tuple hq
  refine wpAny_pyIter_tuple (show s1.heap.IsTuple a its.toArray from p) ⟨s1.heap.objs.size,[s1.heap.objs.size],_,_,H1,rfl,I1.kept (t':=s1.toks) (fun b o e=>zzf _ e),oG a _,⟨_,zzn _ rfl,rfl,rfl⟩,fun b hb=>?_,q⟩
  rw[show b=s1.heap.objs.size by simpa using hb]
  exact I1.fpOk (zzh _) (I1.hok.fresh (zzh _))
end
end L2
namespace DL
open PySem PySem.Spec L2
open PyProof.Rows hiding St
variable[TB]
variable[Frm]
section
variable{X:Cx}
def mS:List D->Option (List Int)
 |[]=>some []
 |.int i::r=>(mS r).map (i :: ·)
 |_=>none
theorem oN:∀ns:List Int,mS (ns.map D.int)=some ns
 |[]=>rfl
 |n::r=>by simp[mS,oN r]
theorem rf:∀{ds:List D}{ns:List Int},mS ds=some ns->ds=ns.map D.int
 |[],ns,h=>by cases h;rfl
 |.int i::r,ns,h=>by
  simp only[mS,zyA]at h
  obtain⟨ms,h,rfl⟩:=h
  rw[rf h];rfl
theorem rn{K:PySem.W.Frag}{pp:Option Addr}{M:List Addr}{H:Hp}:∀{ns:List Int}{xs:List V},Reps K pp M H (ns.map D.int) xs->xs=ns.map V.int
 |[],xs,h=>by simpa only[zyb,Reps]using h
 |n::r,xs,h=>by
  simp only[zzc,Reps,Rep]at h
  obtain⟨x,t,rfl,rfl,h⟩:=h
  rw[rn h];rfl
def gSum:DSp:=fun ds P=>match ds with
 |[.lst xs]=>match mS xs with
  |some ns=>P (.int ns.sum)
  |none=>False
 |_=>False
theorem mT{ns:List Int}{P:D->Prop}(h:P (.int ns.sum)):gSum [.lst (ns.map D.int)] P:=by
 unfold gSum
 simp only[oN]
 exact h
theorem uR{ds:List D}{P:D->Prop}(h:gSum ds P):∃ns:List Int,ds=[.lst (ns.map D.int)]/\P (.int ns.sum):=by
 unfold gSum at h
 split at h
 ·rename_i xs
  cases e:mS xs with
  |none=>rw[e]at h;exact h.elim
  |some ns =>
   rw[e]at h
   exact⟨ns,by rw[rf e],h⟩
 ·exact h.elim
theorem uS(hc:X.calm=true:=by rfl):CallD X (.builtin "sum") gSum:=by
 refine⟨fun ds P P' f h=>?_,_,Aa hc,fun {pp} M H ds vs Q _ r h=>?_⟩
 ·obtain⟨ns,rfl,h2⟩:=uR h
  exact mT (f _ h2)
 ·obtain⟨ns,rfl,h2⟩:=uR h
  simp only[Reps,Rep]at r
  obtain⟨x,_,rfl,⟨a,ys,rfl,_,_,ha,ry⟩,rfl⟩:=r
  refine⟨a,ns,rfl,SqL.of (by rw[ha,rn ry]),h2 H _ .refl bM⟩
abbrev GO(te:DE):DA:=fun ρ Q=>te ρ fun d ρ'=>match d with
 |.lst ds=>Q ds ρ'
 |.tup ds=>Q ds ρ'
 |_=>False
theorem Bo{tg l:Expr}{te:DE}(hl:PED X l te):PID X tg l (GO te):=by
 obtain⟨T,p,r⟩:=hl.run
 refine⟨fun _ _ _ f h=>hl.mono _ _ _ (fun d _ h=>?_) h,_,Ff p,fun {F} M H σ ρ R rs h=>r M H σ ρ _ rs (hl.mono _ _ _ (fun d ρ' h M' H' v m rs' rd=>?_) h)⟩
 ·cases d<;>first|exact h.elim|exact f _ _ h
 ·cases d<;>first|exact h.elim|skip
  all_goals simp only[Rep]at rd
  case tup ds =>
   obtain⟨a,xs,rfl,ha,rd⟩:=rd
   refine .inr ⟨a,rfl,⟨xs,SqT.of ha⟩,h M' H' _ m rs' (ItOkV.of (vs:=xs) ⟨fun M2 H2 m2 i x H3 _ y=>?_,fun M2 H2 m2 i hi=>?_,fun M2 H2 m2 i hi=>?_⟩ rd)⟩
   ·exact⟨y.1,y.2 xs (SqT.of (m2.tup a xs ha))⟩
   ·exact⟨xs,xs[i],SqT.of (m2.tup a xs ha),by simp[hi]⟩
   ·exact⟨xs,SqT.of (m2.tup a xs ha),hi⟩
  case lst ds =>
   obtain⟨a,xs,rfl,hm,hp,ha,rd⟩:=rd
   refine .inl ⟨a,rfl,⟨xs,SqL.of ha⟩,h M' H' _ m rs' (ItOkV.of (vs:=xs) ⟨fun M2 H2 m2 i x H3 _ y=>?_,fun M2 H2 m2 i hi=>?_,fun M2 H2 m2 i hi=>?_⟩ rd)⟩
   ·exact⟨y.1,y.2 xs (SqL.of (m2.lst a xs ha hm hp).1)⟩
   ·exact⟨xs,xs[i],SqL.of (m2.lst a xs ha hm hp).1,by simp[hi]⟩
   ·exact⟨xs,SqL.of (m2.lst a xs ha hm hp).1,hi⟩
end
theorem br{g:DG}{tc:DT}{te:DE}{ds:List D}{Q:List D->Prop}(N:List D->List D->DS->Prop)(hn:∀acc ρ,N ds acc ρ->Q acc)
  (hs:∀(pre:List D) (d:D) (post acc:List D) (ρ:DS) (Y:List D->DS->Prop),ds=pre++d::post->N pre acc ρ->(∀acc' ρ',N (pre++[d]) acc' (bn ρ')->Y acc' ρ') ->
   g d ρ fun ρ1=>tc ρ1 fun b ρ2=>Br b (te ρ2 fun y ρ3=>acc.length<sizeLine/\Y (acc++[y]) ρ3) (Y acc ρ2)) (ρ:DS) (h:N [] [] ρ):cF g tc te ds [] ρ Q:=by
 have key:∀(post pre acc:List D),ds=pre++post->∀ρ,N pre acc ρ->cF g tc te post acc ρ Q:=by
  intro post
  induction post with
  |nil=>intro pre acc e ρ h;rw[zzy]at e;subst e;exact hn acc ρ h
  |cons d r ih=>intro pre acc e ρ h;exact hs pre d r acc ρ (fun acc' ρ'=>cF g tc te r acc' (bn ρ') Q) e h (fun acc' ρ' h'=>ih (pre++[d]) acc' (by rw[e,zym];rfl) _ h')
 exact key ds [] [] rfl ρ h
theorem bP{g:DG}{te:DE}{ds:List D}{Q:List D->Prop}(f:D->D)(N:DS->Prop)(hl:ds.length <= sizeLine)
  (hs:∀d∈ds,∀(ρ:DS) (Y:D->DS->Prop) (Z:DS->Prop),N ρ->(∀ρ',N (bn ρ')->Y (f d) ρ')->g d ρ fun ρ1=>dQ ρ1 fun b ρ2=>Br b (te ρ2 Y) (Z ρ2)) (ρ:DS) (h:N ρ) (hq:Q (ds.map f)):cF g dQ te ds [] ρ Q:=by
 refine br (fun pre acc ρ=>acc=pre.map f/\N ρ) (fun acc ρ h=>by rw[h.1];exact hq) (fun pre d post acc ρ Y e hN hY=>?_) ρ ⟨rfl,h⟩
 obtain⟨rfl,hN⟩:=hN
 have hlt:(pre.map f).length<sizeLine:=by
  rw[zza]
  have:ds.length=pre.length+(post.length+1):=by rw[e];simp
  omega
 refine hs d (by rw[e];simp) ρ (fun y ρ3=>(pre.map f).length<sizeLine/\Y (pre.map f++[y]) ρ3) (fun ρ2=>Y (pre.map f) ρ2) hN fun ρ' h'=>⟨hlt,hY _ ρ' ⟨by simp,h'⟩⟩
structure Shp(n:Nat)(d:D):Prop where
 p:pln d=true
 c:(toPy d).canLay0=true
 d:(toPy d).depth <= n
theorem Shp.shp{n:Nat}{d:D}(h:Shp n d)(l:n <= 64:=by decide):shp d=true:=by
 unfold DL.shp SeqAt.shaped
 rw[h.p,h.c,decide_eq_true (zzk h.d l)];rfl
theorem Shp.int{i:Int}{n:Nat}:Shp n (.int i):=⟨rfl,rfl,zzH _⟩
theorem Shp.non{n:Nat}:Shp n .non:=⟨rfl,rfl,zzH _⟩
theorem tq{n:Nat}:∀{ds:List D},(∀d∈ds,Shp n d)->plns ds=true/\PyData.canLayAll0 (pN ds)=true/\PyData.depthAll (pN ds) <= n
 |[],_=>⟨rfl,rfl,zzH _⟩
 |d::ds,h=>by
  obtain⟨a,b,c⟩:=tq (ds:=ds) fun x hx=>h x (zzb _ hx)
  have q:=h d zzd
  refine⟨by simp only[plns,q.p,a,Bool.and_self],by simp only[pN,PyData.canLayAll0,q.c,b,Bool.and_self],?_⟩
  simp only[pN,PyData.depthAll]
  exact Nat.max_le.mpr ⟨q.d,c⟩
theorem Shp.tup{n:Nat}{ds:List D}(h:∀d∈ds,Shp n d):Shp (n+1) (.tup ds):=by
 obtain⟨a,b,c⟩:=tq h
 exact⟨by simp only[pln,a],by simp only[toPy,PyData.canLay0,b],by simp only[toPy,PyData.depth];omega⟩
theorem Shp.lst{n:Nat}{ds:List D}(h:∀d∈ds,Shp n d):Shp (n+1) (.lst ds):=by
 obtain⟨a,b,c⟩:=tq h
 exact⟨by simp only[pln,a],by simp only[toPy,PyData.canLay0,b],by simp only[toPy,PyData.depth];omega⟩
theorem uT{d:D}(h:shp d=true):eqD d d=true:=by
 unfold shp at h
 rw[zzT]at h
 exact SeqAt.eqv_refl _ (SeqAt.canLay_of_shaped h.2)
end DL
namespace DL
open PySem PySem.Spec L2
open PyProof.Rows hiding St
variable[TB]
section
variable[Frm]{X:Cx}{pos:Pos}
theorem CG{e tg:Expr}{te:DE}{g:DG}(he:PED X e te)(hg:PGD X tg g)(hs:swapsWithSole [tg] e pos.line X.env=pure false:=by rfl)(hw:swappedStores [tg] e X.env=pure none:=by rfl)
  (h1:(assignEach [tg] X.env).map (·.2)=[assign tg X.env]:=by rfl):PSD X (.Assign [tg] e pos) (dAsg te g) :=
 EY he hg hs hw (qy (zzA he.run).1 (zzA hg.run).1 hs hw h1)
end
variable[Frm]
section
variable{X:Cx}
def CH:DSp:=fun ds P=>match ds with
 |[.int i,.int j]=>P (.int (if j<i then j else i))
 |_=>False
theorem xX(hc:X.calm=true:=by rfl):CallD X (.builtin "min") CH:=by
 refine⟨fun ds P P' f h=>?_,_,xh hc,fun {pp} M H ds vs Q _ r h=>?_⟩
 ·unfold CH at h ⊢;split at h
  ·exact f _ h
  ·exact h.elim
 ·unfold CH at h;split at h
  case h_2=>exact h.elim
  ·rename_i i j
   simp only[Reps,Rep]at r
   obtain⟨x,r,rfl,rfl,y,r',rfl,rfl,rfl⟩:=r
   exact⟨i,j,rfl,h H _ .refl bM⟩
end
omit [Frm] in
theorem Br.dn{p:Prop}[Decidable p]{A B:Prop}(h:¬p)(b:B):Br (decide p) A B:=⟨fun z=>absurd (of_decide_eq_true z) h,fun _=>b⟩
omit [Frm] in
theorem Br.dt{p:Prop}[Decidable p]{A B:Prop}(h:p)(a:A):Br (decide p) A B:=⟨fun _=>a,fun z=>absurd h (of_decide_eq_false z)⟩
omit [Frm] in
theorem Br.di{p:Prop}[Decidable p]{A B:Prop}(a:p->A)(b:¬p->B):Br (decide p) A B:=⟨fun z=>a (of_decide_eq_true z),fun z=>b (of_decide_eq_false z)⟩
theorem eF{g:DG}{b:DTS}{E:DEnds}(N:Int->DS->Prop):∀(n:Nat) (lo:Int),(∀ρ,N (lo+n) ρ->E.nx ρ) ->
  (∀(k:Int) (ρ:DS) (X:DS->Prop),lo <= k->k<lo+n->N k ρ->(∀ρ',N (k+1) ρ'->X ρ')->g (.int k) ρ fun ρ1=>b { E with nx:=X,ct:=X,bk:=E.nx } ρ1)->∀ρ,N lo ρ->iz g b (iA lo n) E ρ
 |0,lo,hn,_,ρ,h=>hn ρ (by simpa using h)
 |n+1,lo,hn,hs,ρ,h=>hs lo ρ _ (zyx _) (by omega) h fun ρ' h'=>eF N n (lo+1) (fun ρ h=>hn ρ (by rw[show lo+((n+1:Nat):Int)=lo+1+(n:Int) by omega];exact h)) (fun k ρ X h1 h2=>hs k ρ X (by omega) (by omega)) ρ' h'
end DL
namespace L2
open PySem PySem.Spec PyProof.Rows
section
variable{X:Cx}{pins:List (Addr×Obj)}{σ:St}{H:Hp}{s:Shared}{h':Heap}
theorem Inv.turnedN{ch:List Addr}{T:Addr}{o:HO}{t':Nat}(I:Inv X pins σ H s)(hf:∀b∈ch,FpOk X pins H b)(k:∀b u,b∉ch->s.heap.get? b=some u->h'.get? b=some u)(hT:s.heap.objs.size <= T)
  (new:ObjOk X.prog X.w (upd H T o) h' T o):Inv X pins σ (upd H T o) { s with heap:=h',toks:=t' }:=by
 have hn:=I.hok.fresh hT
 refine I.call' (s':={ s with heap:=h',toks:=t' }) (ch:=ch) rfl ⟨fun b u q _ _ hx=>k b u hx q,fun b u q _ _ hx=>⟨u.slots,k b u hx q⟩,fun b u q n _=>?_,fun b u q hx=>⟨u,k b u hx q⟩,fun b xs e=>?_,fun b p u e=>?_,fun b ps e=>⟨#[],?_⟩⟩ (fun a q e=>?_) I.bare
  (fun b hb=>⟨(hf b hb).2.2.2.1,(hf b hb).2.1,(hf b hb).2.2.2.2.1,(hf b hb).2.2.2.2.2⟩)
 ·rw[ao (zzJ (zzz (zzr q) hT))];exact n
 ·rw[ao (by rintro rfl;rw[hn]at e;cases e)];exact e
 ·rw[ao (by rintro rfl;rw[hn]at e;cases e)];exact e
 ·rw[ao (by rintro rfl;rw[hn]at e;cases e)];simpa using e
 ·by_cases z:a=T
  ·subst z
   rw[ak]at e
   cases e
   exact new
  ·rw[ao z]at e
   refine ObjOk.stay (I.hok a q e) (fun b u hb q'=>k b u (fun hc=>?_) q') (fun b hb=>?_) (fun b xs hb=>?_)
   ·have:=(hf b hc).1
    rcases hb with rfl|hb
    ·rw[this]at e;cases e
    ·rw[this]at hb;cases hb
   ·rw[ao (by rintro rfl;rw[hn]at hb;cases hb)];exact hb
   ·rw[ao (by rintro rfl;rw[hn]at hb;cases hb)];exact hb
theorem Inv.turnedL{ch:List Addr}{t':Nat}(I:Inv X pins σ H s)(hf:∀b∈ch,FpOk X pins H b)(k:∀b u,b∉ch->s.heap.get? b=some u->h'.get? b=some u):Inv X pins σ H { s with heap:=h',toks:=t' }:=by
 refine I.call' (s':={ s with heap:=h',toks:=t' }) (ch:=ch) rfl ⟨fun b u q _ _ hx=>k b u hx q,fun b u q _ _ hx=>⟨u.slots,k b u hx q⟩,fun b u q n _=>n,fun b u q hx=>⟨u,k b u hx q⟩,fun b xs e=>e,fun b p u e=>e,fun b ps e=>⟨#[],by simpa using e⟩⟩ (fun a q e=>?_) I.bare
  (fun b hb=>⟨(hf b hb).2.2.2.1,(hf b hb).2.1,(hf b hb).2.2.2.2.1,(hf b hb).2.2.2.2.2⟩)
 refine ObjOk.stay (I.hok a q e) (fun b u hb q'=>k b u (fun hc=>?_) q') (fun b hb=>hb) (fun b xs hb=>hb)
 have:=(hf b hc).1
 rcases hb with rfl|hb
 ·rw[this]at e;cases e
 ·rw[this]at hb;cases hb
end
def Ite(K:PySem.W.Frag)(a:Addr):It :=
 ⟨fun i H=>∃xs x,SqL K H a xs/\xs[i]? = some x,fun i H x H'=>∃T y,H T=none/\x=.ref T/\(∀xs,SqL K H a xs->xs[i]? = some y)/\H'=upd H T (.tup [.int i,y]),fun i H=>∃xs,SqL K H a xs/\xs.length <= i⟩
theorem uU{h:Heap}{a b:Addr}{its:Array Value}{o:Obj}{n:String}(hl:h.IsList a its)(ho:h.get? b=some o)(hc:o.cls=.type n)(hn:n ≠ "list"):a≠b:=by
 rintro rfl
 obtain⟨o',e,c,_⟩:=hl
 rw[ho]at e
 cases e
 rw[hc]at c
 cases c
 exact hn rfl
theorem xY{P:Program}{w:World}{K:PySem.W.Frag}{elts:List Expr}{k:Nat}{tp:Pos}(a e it:Addr)(hei:e≠it):Turn P w K (.Tuple elts k tp) (Ite K a) [e,it] e (fun i h=>(∃old,IsEnum h e it i old)/\h.IsListIter it a i) where
 mem:=by simp
 obj:=fun i h st b hb=>by
  obtain⟨⟨old,he⟩,ho⟩:=st
  rcases zzj.mp hb with rfl|hb
  ·exact⟨_,he,fun v z=>by
    have z':Data.fields _=Data.cell v:=z
    cases z'⟩
  ·have:b=it:=by simpa using hb
   subst this
   obtain⟨o,eo,c,d⟩:=ho
   exact⟨o,eo,fun v z=>by rw[d]at z;cases z⟩
 keep:=fun i h h' st k=>⟨let ⟨old,he⟩:=st.1;⟨old,k e (by simp) _ he⟩,st.2.at fun o x=>k it (by simp) o x⟩
 item:=by
  intro X hP hw hK hc i pins s σ H E I hf st hg
  subst hP hw hK
  obtain⟨xs,x,hq,hx⟩:=hg
  obtain⟨its,rv,p,hz⟩:=I.list hq
  obtain⟨u,hu,ru⟩:=rv.get hx
  obtain⟨⟨old,he⟩,hit⟩:=st
  have hae:a≠e:=uU p.isList he rfl (by decide)
  have hai:a≠it:=by
   obtain⟨o,eo,c,d⟩:=id hit
   exact uU p.isList eo c (by decide)
  have W:=WalksT.enumerate (prog:=X.prog) (w:=X.w) (I.ok.hd hc) e it a hei hae hai its.toArray
  have hi:i<its.toArray.size:=by
   have:=(zzm.mp hu).1
   simpa using this
  refine W.item i s _ _ hi ⟨⟨old,he⟩,hit,p.isList⟩ fun T vals h1 tk hP hT hIs hMid hk=>?_
  obtain⟨t,z,hz',rfl⟩:=hP
  have ezu:z=u:=by
   have:its.toArray[i]? = some u:=by simpa using hu
   rw[this]at hz'
   cases hz'
   rfl
  subst ezu
  have ap:=W.apart i T h1 hMid
  refine⟨_,rfl,W.go elts k tp i T { s with heap:=h1,toks:=tk } _ _ hMid fun h2 st2 hk2=>?_⟩
  obtain⟨st21,st22,_⟩:=st2
  have I2:Inv X pins σ (upd H T (.tup [.int i,x])) { s with heap:=h2,toks:=tk }:=by
   refine I.turnedN (ch:=[e,it]) hf (fun b o hb q=>hk2 b o hb (hk b o hb q)) hT ⟨?_,[.int i t,z],.cons ⟨t,rfl⟩ (.cons ru .nil),?_⟩
   ·exact⟨by show 2 <= sizeLine;decide,.inr ⟨_,_,rfl⟩⟩
   ·obtain⟨o,eo,r⟩:=hIs
    exact⟨o,hk2 T o ap eo,r⟩
  refine⟨.ref T,_,I2,rfl,⟨T,x,I.hok.fresh hT,rfl,fun ys hy=>by rw[I.list_inj hy hq];exact hx,rfl⟩,⟨by simpa using st21,st22⟩,fun b hb=>?_⟩
  have fb:=hf b hb
  rw[ao]
  ·exact fb.1
  ·rintro rfl
   exact ap hb
 done:=by
  intro X hP hw hK hc i pins s σ H E I hf st hg
  subst hP hw hK
  obtain⟨xs,hq,hx⟩:=hg
  obtain⟨its,rv,p,hz⟩:=I.list hq
  obtain⟨⟨old,he⟩,hit⟩:=st
  have hl:=rv.length
  refine wpAny_pyNext_enum_end (I.ok.hd hc) he hit p.isList (by simp;omega) fun h1 hx1=>⟨rfl,?_⟩
  exact I.turnedL (t':=s.toks) (ch:=[e,it]) hf fun b o hb q=>hx1 b o (fun z=>hb (by simp[z])) q
 self:=fun _ _ _ _ _ st h=>let ⟨_,he⟩:=st.1;wpAny_pyIter_enum he h
theorem xZ:bootBuiltins "enumerate" = some (.type "enumerate"):=by decide +kernel
theorem Ab:bootBuiltins "zip" = some (.type "zip"):=by decide +kernel
section
variable{X:Cx}
def GP(K:PySem.W.Frag)(ta:TA):TI:=fun σ H R=>ta σ H fun vs H1=>∃a,vs=[.ref a]/\(∃xs,SqL K H1 a xs)/\R (Ite K a) H1
theorem CI{l:Expr}{ta:TA}{p pos tp:Pos}{elts:List Expr}{k:Nat}(hg:Gl X "enumerate")(hm:X.mg "enumerate" = none)(ha:PA X [l] ta)(he:starEach [l] X.env=(false,eval l X.env)::starEach [] X.env:=by rfl)(hpl:(backTo pos (starEach [] X.env)).any (·.1)=false:=by rfl) :
  PI X (.Tuple elts k tp) (.Call (.Name "enumerate" p) [l] [] pos) (GP X.K ta):=by
 intro pins s σ H R I h
 refine Call_ (my I hg hm xZ (PyProof.Rows.callWith_type1 (thn (ha pos pins s σ H _ I h) fun us s1 ⟨vs,H1,I1,r1,q1⟩=>?_) he hpl))
 obtain⟨a,e,⟨xs,hq⟩,q⟩:=q1
 subst e
 obtain⟨u,rfl,ru⟩:=r1.one
 cases ru
 obtain⟨its,rv,pl,hz⟩:=I1.list hq
 refine call_enumerate_list pl.isList fun h1 hE hit hsz hk=>?_
 refine wpAny_pyIter_enum hE ?_
 have ne:s1.heap.objs.size+1≠s1.heap.objs.size:=by omega
 refine⟨_,[s1.heap.objs.size+1,s1.heap.objs.size],_,Ite X.K a,H1,rfl,I1.kept (t':=s1.toks) hk,xY a _ _ ne,⟨⟨_,hE⟩,hit⟩,fun b hb=>?_,q⟩
 rcases zzj.mp hb with rfl|hb
 ·exact I1.fpOk (Nat.le_succ _) (I1.hok.fresh (Nat.le_succ _))
 ·have:b=s1.heap.objs.size:=by simpa using hb
  subst this
  exact I1.fpOk (zzh _) (I1.hok.fresh (zzh _))
end
end L2
namespace DL
open PySem PySem.Spec L2
open PyProof.Rows hiding St
variable[TB]
variable[Frm]
section
variable{X:Cx}{F:Fx}
def oz(k:Nat):List D->List D
 |[]=>[]
 |d::r=>.tup [.int k,d]::oz (k+1) r
omit [Frm] in
theorem gi:∀(ds:List D) (k:Nat),(oz k ds).length=ds.length
 |[],_=>rfl
 |_::r,k=>by simp[oz,gi r]
omit [Frm] in
theorem rp:∀(ds:List D) (k i:Nat) (d:D),(oz k ds)[i]? = some d->∃e,ds[i]? = some e/\d=.tup [.int ((k+i:Nat):Int),e]
 |[],_,i,d,h=>by simp[oz]at h
 |e::r,k,0,d,h=>by
  simp[oz]at h
  exact⟨e,rfl,h.symm⟩
 |e::r,k,i+1,d,h=>by
  simp only[oz,zyN]at h ⊢
  obtain⟨e',h1,h2⟩:=rp r (k+1) i d h
  exact⟨e',h1,by rw[h2];congr 3;congr 1;omega⟩
def zipD:List D->List D->List D
 |x::xs,y::ys=>.tup [x,y]::zipD xs ys
 |_,_=>[]
omit [Frm] in
theorem mU:∀(xs ys:List D),(zipD xs ys).length=min xs.length ys.length
 |[],_=>by simp[zipD]
 |_::_,[]=>by simp[zipD]
 |_::xs,_::ys=>by simp[zipD,mU xs ys]
omit [Frm] in
theorem uV:∀(xs ys:List D) (i:Nat) (d:D),(zipD xs ys)[i]? = some d->∃x y,xs[i]? = some x/\ys[i]? = some y/\d=.tup [x,y]
 |[],_,i,d,h=>by simp[zipD]at h
 |_::_,[],i,d,h=>by simp[zipD]at h
 |x::xs,y::ys,0,d,h=>by
  simp[zipD]at h
  exact⟨x,y,rfl,rfl,h.symm⟩
 |x::xs,y::ys,i+1,d,h=>by
  simp only[zipD,zyN]at h ⊢
  exact uV xs ys i d h
abbrev Fg(t:DA):DA:=fun ρ Q=>t ρ fun ds ρ'=>match ds with
 |[.lst xs]=>Q (oz 0 xs) ρ'
 |_=>False
theorem tt{l:Expr}{tl:DA}{p pos tp:Pos}{elts:List Expr}{k:Nat}(hg:Gl X "enumerate")(hm:X.mg "enumerate" = none)(ha:PAD X [l] tl)(he:starEach [l] X.env=(false,eval l X.env)::starEach [] X.env:=by rfl)(hpl:(backTo pos (starEach [] X.env)).any (·.1)=false:=by rfl) :
  PID X (.Tuple elts k tp) (.Call (.Name "enumerate" p) [l] [] pos) (Fg tl):=by
 obtain⟨T,pa,r⟩:=ha.run
 refine⟨fun _ _ _ f h=>ha.mono _ _ _ (fun d _ h=>?_) h,_,CI hg hm pa he hpl,fun {F} M H σ ρ R rs h=>r M H σ ρ _ rs (ha.mono _ _ _ (fun d ρ' h M' H' v m rs' rd=>?_) h)⟩
 ·split at h
  ·exact f _ _ h
  ·exact h.elim
 ·split at h
  case h_2=>exact h.elim
  rename_i ds
  simp only[Reps,Rep]at rd
  obtain⟨x,r0,rfl,⟨a,xs,rfl,hm,hp,ha,rd⟩,rfl⟩:=rd
  refine⟨a,rfl,⟨xs,SqL.of ha⟩,h M' H' _ m rs' ⟨fun M2 H2 m2 i d y H3 e yl=>?_,fun M2 H2 m2 i hi=>?_,fun M2 H2 m2 i hi=>?_⟩⟩
  ·obtain⟨T,z,hT,rfl,hz,rfl⟩:=yl
   obtain⟨d',hd',rfl⟩:=rp ds 0 i d e
   obtain⟨v',hv',rv'⟩:=rd.get' hd'
   have:=hz xs (SqL.of (m2.lst a xs ha hm hp).1)
   rw[hv']at this
   cases this
   refine⟨.new hT,?_⟩
   simp only[Rep]
   exact⟨T,_,rfl,ak,.cons (by rw[Nat.zero_add];exact bM) (.one ((rv'.mv m2).mv (.new hT)))⟩
  ·have hi':i<xs.length:=by rw[←rd.length,←gi ds 0];exact hi
   exact⟨xs,xs[i],SqL.of (m2.lst a xs ha hm hp).1,by simp[hi']⟩
  ·exact⟨xs,SqL.of (m2.lst a xs ha hm hp).1,by rw[←rd.length,←gi ds 0];exact hi⟩
def Fh(k:Nat)(d:D)(ρ:DS)(Q:DS->Prop)(j:D):Sl->Prop
 |.own ds=>match j with
  |.int i=>∃n,ixN ds.length i=some n/\Q (ρ.set k (.own (ds.set n d)))
  |_=>False
 |_=>False
abbrev GQ(k:Nat)(ti:DE):DG:=fun d ρ Q=>xT (slot ρ k)/\ti ρ fun j ρ'=>Fh k d ρ' Q j (slot ρ' k)
theorem Fi{k:Nat}{o i:Expr}{ti:DE}{pos:Pos}(ho:PE X o (tVar k))(hi:PED X i ti)
  (ha:∀v,assign (.Subscript o i pos) X.env v=(do
   let ov ←holding [v] (eval o X.env)
   let iv ←holding [v,ov] (eval i X.env)
   standAt pos
   holding [v,ov,iv] (setItem ov iv v)
   release [v,ov,iv] []):=by intro _;rfl):PGD X (.Subscript o i pos) (GQ k ti):=by
 obtain⟨T,p,r⟩:=hi.run
 refine⟨fun d ρ P P' f h=>⟨h.1,hi.mono _ _ _ (fun j ρ' h=>?_) h.2⟩,_,xa ho p pD ha,fun {F} M H σ ρ d v Q rs rd h=>?_⟩
 ·cases q:slot ρ' k with
  |nil=>rw[q]at h;exact h.elim
  |val d=>rw[q]at h;exact h.elim
  |pin w d=>rw[q]at h;exact h.elim
  |obj z=>rw[q]at h;exact h.elim
  |own ds =>
   rw[q]at h
   cases j<;>first|exact h.elim | (obtain⟨n,e,h⟩:=h;exact⟨n,e,f _ h⟩)
 ·obtain⟨h0,h⟩:=h
  cases q:slot ρ k with
  |nil=>rw[q]at h0;exact h0.elim
  |val d=>rw[q]at h0;exact h0.elim
  |pin w d=>rw[q]at h0;exact h0.elim
  |obj z=>rw[q]at h0;exact h0.elim
  |own ds =>
   obtain⟨oo1,ho1,l,xs,rfl,hm1,h01,hp1,hl1,hr1⟩:=rs.at (aF q (by intro z;cases z))
   refine⟨.ref l,ho1,?_⟩
   refine r M H σ ρ _ rs (hi.mono _ _ _ (fun j ρ' h M' H' w m rs' rj=>?_) h)
   cases q':slot ρ' k with
   |nil=>rw[q']at h;exact h.elim
   |val d=>rw[q']at h;exact h.elim
   |pin w d=>rw[q']at h;exact h.elim
   |obj z=>rw[q']at h;exact h.elim
   |own ds' =>
    rw[q']at h
    cases j<;>first|exact h.elim|skip
    rename_i j
    obtain⟨n,e,h⟩:=h
    have g1:=aF q' (by intro z;cases z)
    obtain⟨l',xs',e',hm',h0',hp',hl',hr'⟩:=rs'.sl k _ _ g1 ho1
    cases e'
    simp only[Rep]at rj
    subst rj
    obtain⟨m2,rs2⟩:=rs'.write g1 ho1 (hr'.set (rd.mv m) n)
    exact⟨l,xs',j,n,rfl,rfl,hl',by rw[←hr'.length];exact e,h M' _ _ (m.trans m2) rs2⟩
omit [Frm] in
theorem Fj{n:Nat}{i:Int}(h0:0 <= i)(h:i<n):ixN n i=some i.toNat:=by
 unfold ixN
 rw[if_pos h0,if_pos h]
def dIxS(ρ:DS)(Q:D->DS->Prop)(j:D):Sl->Prop
 |.own ds=>gIx (.lst ds) j fun d=>Q d ρ
 |_=>False
abbrev dIxO(k:Nat)(ti:DE):DE:=fun ρ Q=>xT (slot ρ k)/\ti ρ fun j ρ'=>dIxS ρ' Q j (slot ρ' k)
theorem Fk{k:Nat}{a b:Expr}{tb:DE}{pos:Pos}(ha:PE X a (tVar k))(hb:PED X b tb)(hs:sM b):PED X (.Subscript a b pos) (dIxO k tb):=by
 obtain⟨T,p,r⟩:=hb.run
 refine⟨fun ρ P P' f h=>⟨h.1,hb.mono _ _ _ (fun j ρ' h=>?_) h.2⟩,_,xv uH ha p hs,fun {F} M H σ ρ Q rs h=>?_⟩
 ·cases q:slot ρ' k with
  |nil=>rw[q]at h;exact h.elim
  |val d=>rw[q]at h;exact h.elim
  |pin w d=>rw[q]at h;exact h.elim
  |obj z=>rw[q]at h;exact h.elim
  |own ds =>
   rw[q]at h
   cases j<;>first|exact h.elim|exact uO (fun _ h=>f _ _ h) h
 ·obtain⟨h0,h⟩:=h
  cases q:slot ρ k with
  |nil=>rw[q]at h0;exact h0.elim
  |val d=>rw[q]at h0;exact h0.elim
  |pin w d=>rw[q]at h0;exact h0.elim
  |obj z=>rw[q]at h0;exact h0.elim
  |own ds =>
   obtain⟨oo1,ho1,l,xs,rfl,hm1,h01,hp1,hl1,hr1⟩:=rs.at (aF q (by intro z;cases z))
   refine⟨.ref l,ho1,?_⟩
   refine r M H σ ρ _ rs (hb.mono _ _ _ (fun j ρ' h M' H' w m rs' rj=>?_) h)
   cases q':slot ρ' k with
   |nil=>rw[q']at h;exact h.elim
   |val d=>rw[q']at h;exact h.elim
   |pin w d=>rw[q']at h;exact h.elim
   |obj z=>rw[q']at h;exact h.elim
   |own ds' =>
    rw[q']at h
    cases j<;>first|exact h.elim|skip
    rename_i j
    obtain⟨d,e,h⟩:=uP h
    have g1:=aF q' (by intro z;cases z)
    obtain⟨l',xs',e',hm',h0',hp',hl',hr'⟩:=rs'.sl k _ _ g1 ho1
    cases e'
    simp only[Rep]at rj
    subst rj
    obtain⟨v,e2,rv⟩:=tm hr' e
    exact⟨l,xs',j,v,rfl,rfl,hl',e2,h M' H' v m rs' rv⟩
end
end DL
namespace DL
open PySem PySem.Spec L2
open PyProof.Rows hiding St
variable[TB]
abbrev DTN:=(D->Prop)->(List D->Prop)->DS->Prop
section
variable[Frm]
structure EN(K:PySem.W.Frag)(F:Fx)(M:List Addr)(H:Hp)(Q:D->Prop)(L:List D->Prop)(D:Ends):Prop where
 rt:∀M' H' σ' ρ' d v,Mv K F.pp M H M' H'->RSt K F M' H' σ' ρ'->Rep K F.pp M' H' d v->Q d->D.rt v H'
 nx:∀M' H' σ' ρ',Mv K F.pp M H M' H'->RSt K F M' H' σ' ρ'->Q .non->D.nx σ' H'
 nw:∀M' H' ds l xs,SameP K F.pp F.H0 H'->(∀a∈F.M0,a∈M')->F.H0 l=none->F.pp≠some l->l∈M'->H' l=some (.lst xs)->Reps K F.pp M' H' ds xs->L ds->D.rt (.ref l) H'
theorem EN.mv{K:PySem.W.Frag}{F:Fx}{M M1:List Addr}{H H1:Hp}{Q:DL.D->Prop}{L:List DL.D->Prop}{D:Ends}(o:EN K F M H Q L D)(m:Mv K F.pp M H M1 H1):EN K F M1 H1 Q L D :=
 ⟨fun _ _ _ _ _ _ m'=>o.rt _ _ _ _ _ _ (m.trans m'),fun _ _ _ _ m'=>o.nx _ _ _ _ (m.trans m'),o.nw⟩
def PSsN(X:Cx)(st:List Stmt)(t:DTN):Prop:=∃T:TS,PSs X st T/\∀{F:Fx} M H σ ρ (Q:D->Prop) (L:List D->Prop) (D:Ends),RSt X.K F M H σ ρ->EN X.K F M H Q L D->t Q L ρ->T D σ H
variable{X:Cx}{st:Stmt}{rest:List Stmt}{t:DTS}{u:DTN}{e:Expr}{tl:DA}{pos:Pos}
theorem tw(h:PLD X e tl):PSsN X [.Return (some e) pos] (fun _ L ρ=>tl ρ fun ds _=>L ds):=by
 obtain⟨T,p,r⟩:=h.run
 refine⟨_,ft (mz p),fun {F} M H σ ρ Q L D rs en q=>r M H σ ρ _ rs (h.mono _ _ _ (fun ds ρ' q M' H1 H' l xs m rs' hl e r'=>?_) q)⟩
 subst e
 have h0:F.H0 l=none:=by
  cases e:F.H0 l with
  |none=>rfl
  |some o=>exact absurd hl (rs'.same.live l (by rw[e];intro z;cases z))
 exact en.nw (l::M') _ ds l xs (rs'.sameT.trans (.new hl)) (fun a ha=>zzb _ (rs'.sub a ha)) h0 (rs'.liv.fresh hl).2 zzd ak (r'.mv (.newOwn hl)) q
def slN(L:List D->Prop):Sl->Prop
 |.own ds=>L ds
 |_=>False
theorem ya{i:Nat}(h:PE X e (tVar i)):PSsN X [.Return (some e) pos] (fun _ L ρ=>slN L (slot ρ i)):=by
 refine⟨_,ft (mz h),fun {F} M H σ ρ Q L D rs en q=>?_⟩
 have q:slN L (slot ρ i):=q
 cases z:slot ρ i with
 |nil=>rw[z]at q;exact q.elim
 |val d=>rw[z]at q;exact q.elim
 |pin w d=>rw[z]at q;exact q.elim
 |obj y=>rw[z]at q;exact q.elim
 |own ds =>
  rw[z]at q
  obtain⟨oo1,ho1,l,xs,rfl,hm1,h01,hp1,hl1,hr1⟩:=rs.at (aF z (by intro z;cases z))
  exact⟨.ref l,ho1,en.nw M H ds l xs rs.sameT rs.sub h01 hp1 hm1 hl1 hr1 q⟩
theorem cY(h1:PSD X st t)(h2:PSsN X rest u):PSsN X (st::rest) (fun Q L ρ=>t { nx:=u Q L,rt:=Q } ρ):=by
 obtain⟨T,p,r⟩:=h1
 obtain⟨U,q,s⟩:=h2
 refine⟨_,bI p q,fun {F} M H σ ρ Q L D rs en h=>r M H σ ρ { nx:=u Q L,rt:=Q } { D with nx:=U D } rs ⟨fun M' H' σ' ρ' m rs' h=>?_,fun _ _ _ _ _ _ q=>q.elim,fun _ _ _ _ _ _ q=>q.elim,en.rt⟩ h⟩
 exact s M' H' σ' ρ' Q L D rs' (en.mv m) h
theorem tD(h1:PSD X st t)(h2:PSsN X rest u):PSsN X (st::rest) (fun Q L ρ=>∃N:DS->Prop,t { nx:=N,rt:=Q } ρ/\∀ρ',N ρ'->u Q L ρ'):=by
 obtain⟨T,p,r⟩:=h1
 obtain⟨U,q,s⟩:=h2
 refine⟨_,bI p q,fun {F} M H σ ρ Q L D rs en h=>?_⟩
 obtain⟨N,h,hn⟩:=h
 refine r M H σ ρ { nx:=N,rt:=Q } { D with nx:=U D } rs ⟨fun M' H' σ' ρ' m rs' h=>?_,fun _ _ _ _ _ _ q=>q.elim,fun _ _ _ _ _ _ q=>q.elim,en.rt⟩ h
 exact s M' H' σ' ρ' Q L D rs' (en.mv m) (hn ρ' h)
end
abbrev DSpN:=List D->(D->Prop)->(List D->Prop)->Prop
def spDN(K:PySem.W.Frag)(n:Nat)(g:DSpN):Sp:=fun vs H Q _=>∃pp M ds,Lv pp M H/\Reps K pp M H ds vs/\ds.length=n/\g ds (fun d=>∀H' v,SameP K pp H H'->Rep K pp M H' d v->Q v H')
 (fun es=>∀M' H' l xs,SameP K pp H H'->(∀a∈M,a∈M')->H l=none->pp≠some l->l∈M'->H' l=some (.lst xs)->Reps K pp M' H' es xs->Q (.ref l) H')
def rq(g:DSpN):Prop:=∀ds P P' L L',(∀d,P d->P' d)->(∀es,L es->L' es)->g ds P L->g ds P' L'
theorem fnDN{P:Program}{w:World}{K:PySem.W.Frag}{mg:Str->Option Value}{base:Heap}{x qual:Str}{st:Stmt}{f:Addr}{fd:FuncData}{N ps:List Str}{k:Nat}{g:DSpN}{t:DTN}(Fn:Fun K x qual st f fd)(S:FnScope N ps (aj st))
  (hb:∀(cdv:Value) (A:Around) (outer:List Env) (s:Shared) (H:Hp) (E:XK),Room k (A.deeper (envOfC qual (aj st) s.heap.objs.size f cdv)) -> @PSsN _ Frm.free (cxOf CX0 P w K mg base N qual (aj st) f cdv A outer s H E).nox (dN st) t)
  (hg:∀ds Q L,ds.length=ps.length->g ds Q L->t Q L (qT N.length ds)):FnOk P w K mg base CX0 (k+1) f fd ps (spDN K ps.length g):=by
 refine Fn.ok S (fun vs H Q E h=>?_) (fun cdv A outer s H vs Q E hr h=>?_)
 ·obtain⟨pp,M,ds,_,r,e,_⟩:=h
  rw[←r.length,e]
 ·obtain⟨pp,M,ds,lv,r,e,h⟩:=h
  obtain⟨T,p,run⟩:=hb cdv A outer s H E hr
  refine⟨T,p,run M H _ _ _ _ _ (qU lv r trivial) ⟨fun M' H' σ' ρ' d v m rs rd q=>?_,fun M' H' σ' ρ' m rs q=>?_,fun M' H' es l xs s sub h0 hp hm hl rr q=>?_⟩ (hg ds _ _ e h)⟩
  ·exact q H' v rs.sameT (rd.mv (.less rs.sub))
  ·exact q H' .non rs.sameT (by simp only[Rep])
  ·exact q M' H' l xs s sub h0 hp hm hl rr
theorem FnOk.asD{P:Program}{w:World}{K:PySem.W.Frag}{mg:Str->Option Value}{base:Heap}{k n:Nat}{f:Addr}{fd:FuncData}{ps:List Str}{g:DSpN}{g':DSp}(h:FnOk P w K mg base CX0 k f fd ps (spDN K n g))(hg:∀ds Q,g' ds Q->g ds Q (fun es=>Q (.lst es)))(gm:rq g):FnOk P w K mg base CX0 k f fd ps (spD K n g') :=
 h.imp fun vs H Q E h=>by
  obtain⟨pp,M,ds,lv,r,e,h⟩:=h
  refine⟨pp,M,ds,lv,r,e,gm _ _ _ _ _ (fun d q=>q) (fun es q M' H' l xs s sub hl hp hm hH rr=>q H' _ s ?_) (hg _ _ h)⟩
  simp only[Rep]
  exact⟨l,xs,rfl,(lv.fresh hl).1,hp,hH,rr.mv (.less sub)⟩
variable[Frm]
end DL
namespace L2
open PySem PySem.Spec PyProof.Rows
theorem oO{x:V}:∀{xs:List V}{us:List Value},Vals xs us->xs.all jZ=true->us.countP (eqU x)=xs.countP fun y=>eqV y x
 |_,_,.nil,_=>rfl
 |y::xs,u::us,.cons r t,f=>by
  rw[List.all_cons,zzT]at f
  rw[List.countP_cons,List.countP_cons,xw r f.1,oO t f.2]
section
variable{X:Cx}
def Fl:V->List V->Hp->VK->Prop:=fun x vs H Q=>∃l xs y,x=.ref l/\vs=[y]/\H l=some (.lst xs)/\jZ y=true/\xs.all jZ=true/\Q (.int ((xs.countP fun z=>eqV z y:Nat):Int)) H
theorem Ac:MtM X "list.count" Fl:=by
 intro pins s σ H x vs v us Q I rx rv h
 obtain⟨l,xs,y,rfl,rfl,hH,fy,fs,q⟩:=h
 cases rx
 obtain⟨u,rfl,ru⟩:=rv.one
 obtain⟨z,its,n,r,hl,e⟩:=I.lstM hH
 refine call_meets F.slot_list_count ⟨_,e,rfl⟩ F.entry_list_count (F.args_list_count_2 _ _) (SeqAt.list_countAt l its.toArray n none #[] u (eqU y)) ⟨e,fun w hw=>pF ru fy r fs w (by simpa using hw),?_⟩
 refine⟨.int _,H,I.tok _,⟨_,rfl⟩,?_⟩
 rw[show its.toArray.toList.countP (eqU y)=its.countP (eqU y) from rfl,oO r fs]
 exact q
def Fm:V->List V->Hp->VK->Prop:=fun x vs H Q=>∃l xs y j,x=.ref l/\vs=[y]/\H l=some (.lst xs)/\jZ y=true/\xs.all jZ=true/\(∃z,xs[j]? = some z/\eqV z y=true)/\(∀m z,m<j->xs[m]? = some z->eqV z y=false)/\Q (.int ((j:Nat):Int)) H
theorem Ad:MtM X "list.index" Fm:=by
 intro pins s σ H x vs v us Q I rx rv h
 obtain⟨l,xs,y,j,rfl,rfl,hH,fy,fs,⟨z0,hz0,e0⟩,hno,q⟩:=h
 cases rx
 obtain⟨u,rfl,ru⟩:=rv.one
 obtain⟨z,its,n,r,hl,e⟩:=I.lstM hH
 have fl:∀(m:Nat) (z:V),xs[m]? = some z->jZ z=true:=fun m z hz=>zzO.mp fs z (zzM hz)
 have hj:j<its.length:=by rw[←hl];exact(zzm.mp hz0).1
 have at_:∀(m:Nat) (hm:m<its.toArray.size),∃z,xs[m]? = some z/\eqU y its.toArray[m]=eqV z y:=fun m hm=>by
  have hm':m<xs.length:=by rw[hl];simpa using hm
  obtain⟨w,hw,rw'⟩:=r.get (show xs[m]? = some xs[m] by simp[hm'])
  refine⟨xs[m],by simp[hm'],?_⟩
  have:its.toArray[m]=w:=by
   have hm2:m<its.length:=by simpa using hm
   have:its[m]? = some its[m]:=by simp[hm2]
   rw[hw]at this
   cases this
   simp
  rw[this]
  exact xw rw' (fl m _ (by simp[hm']))
 have sj:(j:Int)<2^63 - 1:=by
  have:j<sizeLine:=by omega
  have:(sizeLine:Int)<2^63 - 1:=by decide
  omega
 refine call_meets F.slot_list_index ⟨_,e,rfl⟩ F.entry_list_index (F.args_list_index_2 _ _) (SeqAt.list_indexAt l its.toArray n none #[] u (eqU y) j (by simpa using hj) sj ?_ (fun m hm hlt=>?_)) ⟨e,fun w hw=>pF ru fy r fs w (by simpa using hw),?_⟩
 ·obtain⟨z1,h1,h2⟩:=at_ j (by simpa using hj)
  rw[hz0]at h1
  cases h1
  rw[h2]
  exact e0
 ·obtain⟨z1,h1,h2⟩:=at_ m hm
  rw[h2]
  exact hno m z1 hlt h1
 ·exact⟨.int _,H,I.tok _,⟨_,rfl⟩,q⟩
end
end L2
namespace DL
open PySem PySem.Spec L2
open PyProof.Rows hiding St
variable[TB]
def mV:D->Bool
 |.non=>true
 |.bl _=>true
 |.int _=>true
 |.str _=>true
 |_=>false
def toV:D->V
 |.bl b=>.bl b
 |.int i=>.int i
 |.str s=>.str s
 |_=>.non
def eqF(x y:D):Bool:=eqV (toV x) (toV y)
section
variable{K:PySem.W.Frag}{pp:Option Addr}{M:List Addr}{H:Hp}
theorem pO{d:D}{v:V}(f:mV d=true)(r:Rep K pp M H d v):v=toV d/\jZ v=true:=by
 cases d<;>first|exact absurd (show false=true from f) zzo|skip
 all_goals
  simp only[Rep]at r
  subst r
  exact⟨rfl,rfl⟩
theorem mW:∀{ds:List D}{xs:List V},ds.all mV=true->Reps K pp M H ds xs->xs=ds.map toV/\xs.all jZ=true
 |[],xs,_,r=>by
  simp only[Reps]at r
  subst r
  exact⟨rfl,rfl⟩
 |d::ds,xs,f,r=>by
  simp only[Reps]at r
  obtain⟨x,r',rfl,hd,hr⟩:=r
  rw[List.all_cons,zzT]at f
  obtain⟨e1,e2⟩:=pO f.1 hd
  obtain⟨e3,e4⟩:=mW f.2 hr
  subst e1 e3
  exact⟨rfl,by rw[List.all_cons,e2,e4];rfl⟩
end
variable[Frm]
section
variable{X:Cx}
structure M1D(X:Cx)(name:Str)(id:String)(g:D->D->(D->Prop)->Prop):Prop where
 mono:∀x y P P',(∀d,P d->P' d)->g x y P->g x y P'
 slot:Slot "list" name id
 ty:typeOf (.builtin id)=pure (.type "method_descriptor")
 run:∃r,MtR X id r/\∀{pp:Option Addr} M H x y v u (Q:VK),Rep X.K pp M H x v->Rep X.K pp M H y u->g x y (fun d=>∀w,Rep X.K pp M H d w->Q w H)->r v [u] H Q
def GR:D->Prop
 |.lst _=>True
 |_=>False
abbrev dM1(g:D->D->(D->Prop)->Prop)(to te:DE):DE:=fun ρ Q=>to ρ fun x ρ1=>GR x/\te ρ1 fun y ρ2=>g x y fun d=>Q d ρ2
theorem pP{name:Str}{id:String}{g:D->D->(D->Prop)->Prop}{o e:Expr}{to te:DE}{apos cpos:Pos}(hm:M1D X name id g)(ho:PED X o to)(he:PED X e te)
  (hbase:attributeBase o name X.env (eval o X.env)=eval o X.env:=by rfl)
  (hfew:((backTo cpos (starEach [e] X.env)).all (fun x=>!x.1) && (backToKw cpos (keywordEach [] X.env)).all (fun x=>x.1.isSome)
   && decide ([e].length+([]:List Keyword).length+(if ([]:List Keyword).isEmpty then 0 else 1)<30))=true:=by rfl)
  (hline:(apos.endLine == cpos.line)=true:=by rfl) (hst:starEach [e] X.env=(false,eval e X.env)::starEach [] X.env:=by rfl) (hpl:(backTo cpos (starEach [] X.env)).any (·.1)=false:=by rfl) :
  PED X (.Call (.Attribute o name apos) [e] [] cpos) (dM1 g to te):=by
 obtain⟨r,mr,hr⟩:=hm.run
 obtain⟨To,po,ro⟩:=ho.run
 obtain⟨Te,pe,re⟩:=he.run
 refine⟨fun _ _ _ f h=>ho.mono _ _ _ (fun _ _ h=>⟨h.1,he.mono _ _ _ (fun _ _ h=>hm.mono _ _ _ _ (fun _ h=>f _ _ h) h) h.2⟩) h,_,qH zyt hm.slot hm.ty mr po (bC pe da hst) hbase hfew hline hst hpl,fun {F} M H σ ρ Q rs h=>?_⟩
 refine ro M H σ ρ _ rs (ho.mono _ _ _ (fun x ρ1 h M1 H1 v m1 rs1 r1=>?_) h)
 obtain⟨hx,h⟩:=h
 have tv:tyV X.K "list" v H1:=by
  cases x<;>first|exact hx.elim|skip
  have r1':=r1
  simp only[Rep]at r1'
  obtain⟨a,xs,rfl,_,_,ha,_⟩:=r1'
  exact .inl ⟨rfl,xs,SqL.of ha⟩
 refine⟨tv,re M1 H1 σ ρ1 _ rs1 (he.mono _ _ _ (fun y ρ2 h M2 H2 u m2 rs2 r2=>?_) h)⟩
 exact hr M2 H2 x y v u _ (r1.mv m2) r2 (hm.mono _ _ _ _ (fun d q w rw=>q M2 H2 w (m1.trans m2) rs2 rw) h)
def GS:D->D->(D->Prop)->Prop
 |.lst ds,y,P=>(mV y=true/\ds.all mV=true)/\P (.int ((ds.countP fun z=>eqF z y:Nat):Int))
 |_,_,_=>False
theorem jA:M1D X "count" "list.count" GS:=by
 refine⟨fun x y P P' f h=>?_,PySem.F.slot_list_count,PySem.F.type_list_count,_,Ac,fun {pp} M H x y v u Q rx ry h=>?_⟩
 ·cases x<;>first|exact h.elim|exact⟨h.1,f _ h.2⟩
 ·cases x<;>first|exact h.elim|skip
  rename_i ds
  simp only[Rep]at rx
  obtain⟨a,xs,rfl,hm,hp,ha,r⟩:=rx
  obtain⟨⟨f1,f2⟩,h⟩:=h
  obtain⟨e1,e2⟩:=pO f1 ry
  obtain⟨e3,e4⟩:=mW f2 r
  refine⟨a,xs,u,rfl,rfl,ha,e2,e4,?_⟩
  subst e1 e3
  rw[List.countP_map]
  exact h _ bM
def Fo:D->D->(D->Prop)->Prop
 |.lst ds,y,P=>(mV y=true/\ds.all mV=true)/\∃j:Nat,((∃z,ds[j]? = some z/\eqF z y=true)/\∀m z,m<j->ds[m]? = some z->eqF z y=false)/\P (.int (j:Int))
 |_,_,_=>False
theorem lX:M1D X "index" "list.index" Fo:=by
 refine⟨fun x y P P' f h=>?_,PySem.F.slot_list_index,PySem.F.type_list_index,_,Ad,fun {pp} M H x y v u Q rx ry h=>?_⟩
 ·cases x<;>first|exact h.elim|skip
  obtain⟨h1,j,h2,h3⟩:=h
  exact⟨h1,j,h2,f _ h3⟩
 ·cases x<;>first|exact h.elim|skip
  rename_i ds
  simp only[Rep]at rx
  obtain⟨a,xs,rfl,hm,hp,ha,r⟩:=rx
  obtain⟨⟨f1,f2⟩,j,⟨⟨z,hz,ez⟩,hno⟩,h⟩:=h
  obtain⟨e1,e2⟩:=pO f1 ry
  obtain⟨e3,e4⟩:=mW f2 r
  refine⟨a,xs,u,j,rfl,rfl,ha,e2,e4,⟨toV z,?_,?_⟩,fun m w hm hw=>?_,h _ bM⟩
  ·rw[e3,zzq,hz];rfl
  ·rw[e1];exact ez
  ·rw[e3,zzq]at hw
   cases q:ds[m]? with
   |none=>rw[q]at hw;cases hw
   |some d =>
    rw[q]at hw
    cases hw
    rw[e1]
    exact hno m d hm q
end
theorem kr{g:DG}{b:DTS}{E:DEnds}{ds:List D}(N:Nat->DS->Prop)(hn:∀ρ,N ds.length ρ->E.nx ρ)
  (hs:∀(i:Nat) (d:D) (ρ:DS) (X:DS->Prop),ds[i]? = some d->N i ρ->(∀ρ',N (i+1) ρ'->X ρ')->g (.tup [.int i,d]) ρ fun ρ1=>b { E with nx:=X,ct:=X,bk:=E.nx } ρ1) (ρ:DS) (h:N 0 ρ):iz g b (oz 0 ds) E ρ:=by
 have key:∀(post:List D) (k:Nat),k <= ds.length->ds.drop k=post->∀ρ,N k ρ->iz g b (oz k post) E ρ:=by
  intro post
  induction post with
  |nil =>
   intro k hk e ρ h
   have h1:ds.length <= k:=List.drop_eq_nil_iff.mp e
   have z:k=ds.length:=Nat.le_antisymm hk h1
   subst z
   exact hn ρ h
  |cons d r ih =>
   intro k hk e ρ h
   have hd:ds[k]? = some d:=by
    have:=congrArg (fun l=>l[0]?) e
    simpa using this
   refine hs k d ρ _ hd h (ih (k+1) (zzm.mp hd).1 ?_)
   rw[←List.drop_drop,e]
   rfl
 exact key ds 0 (zzH _) rfl ρ h
end DL
namespace L2
open PySem PySem.Spec PyProof.Rows
section
variable{prog:Program}{w:World}{A:Around}{E:Value->Shared->Prop}{s:Shared}
theorem kt{t sl:Addr}{items:Array Value}{vl vu:Value}{lo hi:Option Int}{Q:Value->Shared->Prop}(ht:IsTup s.heap t items)(hs:s.heap.IsSliceOf sl vl vu .none)(pl:IsPart vl lo)(pu:IsPart vu hi)
  (hw:HT.sIx items.size 0 lo=0/\HT.sIx items.size items.size hi=items.size) (h:Q (.ref t) s):wpAny (model prog w) A (getItem (.ref t) (.ref sl)) Q E s:=by
 obtain⟨os,hos,hcs,hds⟩:=id hs
 have hTs:s.TypeIs (.ref sl) "slice":=⟨os,hos,hcs⟩
 unfold getItem
 try with_reducible refine wpAny_holding ?_
 first|refine wpAny_bind (wpAny_pure ?_)|skip
 refine wpAny_bind (wpAny_sequenceKey ht.typeIs (by decide) ?_)
 refine wpAny_bind (wpAny_callSpecial?_slot (name:=Str.ofString "__getitem__") ht.typeIs PyProof.Rows.slot_tuple_getitem
  (wpAny_call_entry PyProof.Rows.slot_tuple_getitem ht.typeIs PySem.F.entry_tuple_getitem ?_ (PySem.F.args_tuple_getitem_2 _ _)))
 show wpAny _ _ (Builtin.Tuple.tupleItemsOf (.ref t) >>= _) _ _ s
 refine wpAny_bind (tupleItemsOf_ ht ?_)
 refine wpAny_bind (wpAny_typeOf hTs ?_)
 rw[if_pos (by decide)]
 refine wpAny_bind (HT.sliceApplied_gen hs pl pu ?_)
 rw[hw.1,hw.2,Nat.sub_zero]
 have hyes:(((((0:Nat):Int)) == 0 && (1:Int) == 1 && items.size == items.size))=true:=by simp
 show wpAny _ _ (if ((((0:Nat):Int)) == 0 && (1:Int) == 1 && items.size == items.size)=true then _ else _) _ _ s
 rw[if_pos hyes]
 unfold Builtin.Tuple.tupleIsExact
 refine wpAny_bind (wpAny_bind (wpAny_typeOf ht.typeIs (wpAny_pure ?_)))
 show wpAny _ _ (rule "tuple.getitem.whole" >>= fun _=>ret (Value.ref t)) _ _ s
 exact wpAny_bind (wpAny_rule (wpAny_pure ⟨_,rfl,wpAny_pure h⟩))
def rSlW(K:PySem.W.Frag):V->Option Int->Option Int->Hp->VK->Prop:=fun x lo hi H Q=>∃a xs,x=.ref a/\SqT K H a xs/\(HT.sIx xs.length 0 lo=0/\HT.sIx xs.length xs.length hi=xs.length)/\Q (.ref a) H
theorem CJ{X:Cx}:SlR X (rSlW X.K):=by
 intro pins s σ H x v vl vu lo hi sl Q I rx hs pl pu h
 obtain⟨a,xs,rfl,hx,hw,q⟩:=h
 cases rx
 obtain⟨its,r,ht,hz⟩:=I.tuple hx
 have hlen:its.toArray.size=xs.length:=by rw[zzs];exact r.length.symm
 refine⟨"tuple",_,PyProof.Rows.slot_tuple_getitem.lookup,ht.typeIs,?_⟩
 exact kt ht hs pl pu (by rw[hlen];exact hw) ⟨.ref a,H,I,rfl,q⟩
end
end L2
namespace DL
open PySem PySem.Spec L2
open PyProof.Rows hiding St
variable[TB]
section
variable[Frm]
variable{X:Cx}{F:Fx}{pp:Option Addr}
abbrev dSlL(te:DE)(tl th:DO):DA:=fun ρ Q=>te ρ fun x ρ1=>tl ρ1 fun lo ρ2=>th ρ2 fun hi ρ3=>match x with
 |.lst xs=>Q (cutD xs lo hi) ρ3
 |_=>False
theorem Bp{e:Expr}{lo hi:Option Expr}{te:DE}{tl th:DO}{pos p2:Pos}(he:PED X e te)(hl:POD X lo tl)(hh:POD X hi th):PLD X (.Subscript e (.Slice lo hi none p2) pos) (dSlL te tl th):=by
 obtain⟨T,p,r⟩:=he.run
 obtain⟨Tl,pl,rl⟩:=hl.run
 obtain⟨Th,ph,rh⟩:=hh.run
 refine⟨fun _ _ _ f h=>he.mono _ _ _ (fun x _ h=>hl.mono _ _ _ (fun _ _ h=>hh.mono _ _ _ (fun _ _ h=>?_) h) h) h,_,uC Ck p pl ph,fun {F} M H σ ρ Q rs h=>?_⟩
 ·cases x<;>first|exact h.elim|exact f _ _ h
 refine r M H σ ρ _ rs (he.mono _ _ _ (fun x ρ1 h M1 H1 v m1 rs1 r1=>?_) h)
 refine rl M1 H1 σ ρ1 _ rs1 (hl.mono _ _ _ (fun lo ρ2 h M2 H2 m2 rs2=>?_) h)
 refine rh M2 H2 σ ρ2 _ rs2 (hh.mono _ _ _ (fun hi ρ3 h M3 H3 m3 rs3=>?_) h)
 have r3:=(r1.mv m2).mv m3
 cases x<;>first|exact h.elim|skip
 simp only[Rep]at r3
 obtain⟨a,xs,rfl,_,_,ha,rx⟩:=r3
 exact⟨a,xs,rfl,SqL.of ha,fun l hl=>h M3 H3 _ l _ ((m1.trans m2).trans m3) rs3 hl rfl (rx.cut lo hi)⟩
abbrev GT(ta tb:DE):DA:=fun ρ Q=>ta ρ fun x ρ1=>tb ρ1 fun y ρ2=>match x,y with
 |.lst xs,.lst ys=>xs.length+ys.length <= sizeLine/\Q (xs++ys) ρ2
 |_,_=>False
theorem uW{a b:Expr}{ta tb:DE}{pos:Pos}(ha:PED X a ta)(hb:PED X b tb):PLD X (.BinOp a .Add b pos) (GT ta tb):=by
 obtain⟨Ta,pa,ra⟩:=ha.run
 obtain⟨Tb,pb,rb⟩:=hb.run
 refine⟨fun _ _ _ f h=>ha.mono _ _ _ (fun x _ h=>hb.mono _ _ _ (fun y _ h=>?_) h) h,_,dJ EB pa pb,fun {F} M H σ ρ Q rs h=>?_⟩
 ·cases x<;>first|exact h.elim|skip
  cases y<;>first|exact h.elim|exact⟨h.1,f _ _ h.2⟩
 refine ra M H σ ρ _ rs (ha.mono _ _ _ (fun x ρ1 h M1 H1 v m1 rs1 r1=>?_) h)
 refine rb M1 H1 σ ρ1 _ rs1 (hb.mono _ _ _ (fun y ρ2 h M2 H2 u m2 rs2 r2=>?_) h)
 have r1:=r1.mv m2
 cases x<;>first|exact h.elim|skip
 cases y<;>first|exact h.elim|skip
 simp only[Rep]at r1 r2
 obtain⟨l,xs,rfl,_,_,hl,rx⟩:=r1
 obtain⟨l',ys,rfl,_,_,hl',ry⟩:=r2
 exact⟨l,l',xs,ys,rfl,rfl,hl,hl',by rw[←rx.length,←ry.length];exact h.1,fun p hp=>h.2 M2 H2 _ p _ (m1.trans m2) rs2 hp rfl (rx.append ry)⟩
abbrev GU(ta tb:DE):DA:=fun ρ Q=>ta ρ fun x ρ1=>tb ρ1 fun y ρ2=>match x,y with
 |.lst xs,.int k=>((-(2^63) <= k/\k<2^63)/\xs.length*k.toNat <= sizeLine)/\Q (List.replicate k.toNat xs).flatten ρ2
 |_,_=>False
theorem Reps.reps{K:PySem.W.Frag}{M:List Addr}{H:Hp}{ds:List D}{xs:List V}(r:Reps K pp M H ds xs):∀k:Nat,Reps K pp M H (List.replicate k ds).flatten (List.replicate k xs).flatten
 |0=>by simp[Reps]
 |k+1=>by
  rw[zyl,zyl,zyy,zyy]
  exact r.append (Reps.reps r k)
theorem Fp{a b:Expr}{ta tb:DE}{pos:Pos}(ha:PED X a ta)(hb:PED X b tb):PLD X (.BinOp a .Mult b pos) (GU ta tb):=by
 obtain⟨Ta,pa,ra⟩:=ha.run
 obtain⟨Tb,pb,rb⟩:=hb.run
 refine⟨fun _ _ _ f h=>ha.mono _ _ _ (fun x _ h=>hb.mono _ _ _ (fun y _ h=>?_) h) h,_,dJ EC pa pb,fun {F} M H σ ρ Q rs h=>?_⟩
 ·cases x<;>first|exact h.elim|skip
  cases y<;>first|exact h.elim|exact⟨h.1,f _ _ h.2⟩
 refine ra M H σ ρ _ rs (ha.mono _ _ _ (fun x ρ1 h M1 H1 v m1 rs1 r1=>?_) h)
 refine rb M1 H1 σ ρ1 _ rs1 (hb.mono _ _ _ (fun y ρ2 h M2 H2 u m2 rs2 r2=>?_) h)
 have r1:=r1.mv m2
 cases x<;>first|exact h.elim|skip
 cases y<;>first|exact h.elim|skip
 simp only[Rep]at r1 r2
 obtain⟨l,xs,rfl,_,_,hl,rx⟩:=r1
 subst r2
 exact⟨l,_,xs,rfl,rfl,hl,h.1.1.1,h.1.1.2,by rw[←rx.length];exact h.1.2,fun p hp=>h.2 M2 H2 _ p _ (m1.trans m2) rs2 hp rfl (Reps.reps rx _)⟩
def gSlA:D->Option Int->Option Int->(D->Prop)->Prop
 |.tup xs,lo,hi,P=>P (.tup (cutD xs lo hi))
 |_,_,_,_=>False
abbrev dSlA(te:DE)(tl th:DO):DE:=fun ρ Q=>te ρ fun x ρ1=>tl ρ1 fun lo ρ2=>th ρ2 fun hi ρ3=>gSlA x lo hi fun d=>Q d ρ3
theorem rA{e:Expr}{lo hi:Option Expr}{te:DE}{tl th:DO}{pos p2:Pos}(he:PED X e te)(hl:POD X lo tl)(hh:POD X hi th):PED X (.Subscript e (.Slice lo hi none p2) pos) (dSlA te tl th):=by
 obtain⟨T,p,r⟩:=he.run
 obtain⟨Tl,pl,rl⟩:=hl.run
 obtain⟨Th,ph,rh⟩:=hh.run
 have gm:∀x lo hi P P',(∀d,P d->P' d)->gSlA x lo hi P->gSlA x lo hi P':=fun x lo hi P P' f h=>by
  cases x<;>first|exact h.elim|exact f _ h
 refine⟨fun _ _ _ f h=>he.mono _ _ _ (fun _ _ h=>hl.mono _ _ _ (fun _ _ h=>hh.mono _ _ _ (fun _ _ h=>gm _ _ _ _ _ (fun _ h=>f _ _ h) h) h) h) h,_,uC (SlR.or Ew CJ) p pl ph,fun {F} M H σ ρ Q rs h=>?_⟩
 refine r M H σ ρ _ rs (he.mono _ _ _ (fun x ρ1 h M1 H1 v m1 rs1 r1=>?_) h)
 refine rl M1 H1 σ ρ1 _ rs1 (hl.mono _ _ _ (fun lo ρ2 h M2 H2 m2 rs2=>?_) h)
 refine rh M2 H2 σ ρ2 _ rs2 (hh.mono _ _ _ (fun hi ρ3 h M3 H3 m3 rs3=>?_) h)
 have r3:=(r1.mv m2).mv m3
 obtain⟨ds,rfl⟩:∃ds,x=.tup ds:=by cases x<;>first|exact h.elim|exact⟨_,rfl⟩
 have r3':=r3
 simp only[Rep]at r3
 obtain⟨a,xs,rfl,ha,rx⟩:=r3
 by_cases hw:HT.sIx ds.length 0 lo=0/\HT.sIx ds.length ds.length hi=ds.length
 ·have e:cutD ds lo hi=ds:=by
   unfold cutD
   rw[hw.1,hw.2,List.drop_zero,Nat.sub_zero,List.take_length]
  exact .inr ⟨a,xs,rfl,SqT.of ha,by rw[←rx.length];exact hw,h M3 _ _ ((m1.trans m2).trans m3) rs3 (by rw[e];exact r3')⟩
 ·refine .inl ⟨a,xs,rfl,SqT.of ha,by rw[←rx.length];exact hw,fun l hl=>h M3 _ _ (((m1.trans m2).trans m3).trans (.new hl)) (rs3.sameP (.new hl)) ?_⟩
  simp only[Rep]
  exact⟨l,_,rfl,ak,(rx.cut lo hi).mv (.new hl)⟩
end
end DL
namespace L2
open PySem PySem.Spec PyProof.Rows
abbrev eG(h:Heap)(z TI TO:Addr)(f0 f1:Value):Prop :=
 h.get? z=some { cls:=.type "zip",dict:=none,data:=.fields #[f0,f1,.bool false,.ref TI,.ref TO],slots:=#[] }
abbrev dI(h:Heap)(T:Addr)(xs:Array Value):Prop:=h.get? T=some { cls:=.type "tuple",data:=.seq xs }
def OwnF(f:Value):Prop:=f=.none∨∃a:Int,f=.int a 0
abbrev itsL(n m:Nat):List Value:=(List.range m).map fun j=>Value.ref (n+j)
def KeptZ(n m:Nat)(h h':Heap):Prop:=∀(b:Nat) o,b<n∨b=n+m∨n+m+2<b->h.get? b=some o->h'.get? b=some o
section
variable{prog:Program}{w:World}{A:Around}{E:Value->Shared->Prop}{s:Shared}
theorem ku{a:Addr}{Q:Option Obj->Shared->Prop}(h:Q (s.heap.get? a) s):wpAny (model prog w) A (loadIfAlive a) Q E s :=
 fun Γ p _=>by
  show Sem.wp _ Γ (.loadIfAlive a .pure) _ _ p s
  rw[Sem.wp_loadIfAlive]
  exact h
theorem Ae{z TI TO:Addr}{f0 f1:Value}{Q:Bool->Shared->Prop}(hf:OwnF f0)(hz:eG s.heap z TI TO f0 f1)(q1:Q true s)
  (q2:∀h' f1',eG h' z TI TO f0 f1'->Heap.SameBut z s.heap h'->Q false { s with heap:=h' }) :
  wpAny (model prog w) A (Builtin.SmallTypes.ownedTupleIsFree (.ref z)) Q E s:=by
 unfold Builtin.SmallTypes.ownedTupleIsFree
 refine wpAny_bind (wpAny_field hz rfl (x:=f0) rfl ?_)
 rcases hf with rfl|⟨a,rfl⟩
 ·exact wpAny_pure q1
 ·show wpAny _ _ (loadIfAlive a.toNat >>= _) _ _ _
  refine wpAny_bind (ku ?_)
  cases e:s.heap.get? a.toNat with
  |none=>exact wpAny_pure q1
  |some o =>
   show wpAny _ _ (field (.ref z) 1 >>= _) _ _ _
   refine wpAny_bind (wpAny_field hz rfl (x:=f1) rfl ?_)
   by_cases hb:(f1 != .bool true)=true
   ·rw[if_pos hb]
    refine wpAny_bind (wpAny_setField_rec hz (by simp) fun h' hz' hs=>wpAny_pure (q2 h' (.bool true) ?_ hs))
    exact hz'
   ·rw[if_neg hb]
    refine wpAny_bind (wpAny_pure ?_)
    exact wpAny_pure (q2 s.heap f1 hz (Heap.SameBut.refl ..))
end
theorem iE{α:Type}{l:List α}{j:Nat}{p:α}(h:l[j]? = some p):j<l.length:=(zzm.mp h).1
section
variable{prog:Program}{w:World}{A:Around}{E:Value->Shared->Prop}{s:Shared}
theorem iF{T:Addr}{ws:Array Value}{x:Value}{k:Nat}{Q:Unit->Shared->Prop}(hT:dI s.heap T ws)(hz:ws.size <= sizeLine)
  (h:∀h',dI h' T (ws.setIfInBounds k x)->Heap.SameBut T s.heap h'->Q () { s with heap:=h' }) :
  wpAny (model prog w) A (updateSeq T (·.setIfInBounds k x)) Q E s:=by
 refine wpAny_updateSeq hT rfl (h _ ?_ (zzX ..)) hz (by simp;omega)
 show Heap.get? _ _=_
 rw[zyv _ hT rfl]
 simp[Obj.mapSeq]
theorem yb{α:Type}{l:List α}{c:Nat}{x:α}{r:List α}(h:l.drop c=x::r):l[c]? = some x/\l.drop (c+1)=r:=by
 have hc:c<l.length:=by
  rcases Nat.lt_or_ge c l.length with h'|h'
  ·exact h'
  ·rw[List.drop_eq_nil_of_le h']at h;cases h
 rw[zyI hc]at h
 cases h
 exact⟨by simp,rfl⟩
theorem yc{n m c:Nat}(h:c<m):(itsL n m)[c]? = some (.ref (n+c)):=by
 unfold itsL
 rw[zzq,zyL h]
 rfl
def Told(src:List (Addr×Array Value))(k c:Nat)(vs:List Value):Prop:=vs.length=c/\∀(j:Nat) (p:Addr×Array Value),j<c->src[j]? = some p->p.2[k]? = vs[j]?
theorem Told.push{src:List (Addr×Array Value)}{k c:Nat}{vs:List Value}{p:Addr×Array Value}{v:Value}(t:Told src k c vs)(hc:src[c]? = some p)(hv:p.2[k]? = some v):Told src k (c+1) (vs++[v]):=by
 refine⟨by simp[t.1],fun j q hj hq=>?_⟩
 by_cases z:j=c
 ·subst z
  rw[hc]at hq
  cases hq
  rw[hv,zzU (by rw[t.1];exact zzh _),t.1]
  simp
 ·rw[t.2 j q (by omega) hq,zyk (by rw[t.1];omega)]
end
abbrev tuO(xs:List Value):Obj:={ cls:=.type "tuple",data:=.seq xs.toArray }
abbrev ziO(TI TO:Addr):Obj:={ cls:=.type "zip",data:=.fields #[.none,.bool false,.bool false,.ref TI,.ref TO] }
def Fq(xss:List (List V))(i:Nat)(r:List V):Prop:=r.length=xss.length/\∀(j:Nat) xs,xss[j]? = some xs->xs[i]? = r[j]?
def SrcV(xss:List (List V))(src:List (Addr×Array Value)):Prop:=xss.length=src.length/\∀(j:Nat) xs (p:Addr×Array Value),xss[j]? = some xs->src[j]? = some p->Vals xs p.2.toList
theorem Vals.got:∀{xs:List V}{us:List Value}{i:Nat}{u:Value},Vals xs us->us[i]? = some u->∃x,xs[i]? = some x/\RelV x u:=fun {xs us i u} r e=>by
 have hi:i<us.length:=iE e
 have hx:xs[i]? = some (xs[i]'(by rw[r.length];exact hi)):=by simp
 obtain⟨u',e',ru⟩:=r.get hx
 rw[e]at e'
 cases e'
 exact⟨_,hx,ru⟩
theorem rB{i:Nat}:∀{xss:List (List V)}{src:List (Addr×Array Value)}{vs:List Value},SrcV xss src->vs.length=src.length->(∀(j:Nat) (p:Addr×Array Value),src[j]? = some p->p.2[i]? = vs[j]?)->∃r,Fq xss i r/\Vals r vs
 |[],src,vs,hv,hl,_=>by
  have h0:src=[]:=zzK.mp (by rw[←hv.1];rfl)
  subst h0
  have h1:vs=[]:=zzK.mp (by rw[hl];rfl)
  subst h1
  exact⟨[],⟨rfl,fun j xs h=>by simp at h⟩,.nil⟩
 |xs::xss,[],vs,hv,hl,_=>absurd hv.1 (by simp)
 |xs::xss,p::src,[],hv,hl,_=>absurd hl (by simp)
 |xs::xss,p::src,v::vs,hv,hl,h=>by
  obtain⟨r,hr,rv⟩:=rB (xss:=xss) (src:=src) (vs:=vs) (i:=i) ⟨by simpa using hv.1,fun j xs p h1 h2=>hv.2 (j+1) xs p (by simpa using h1) (by simpa using h2)⟩ (by simpa using hl) fun j p hj=>by
   have:=h (j+1) p (by simpa using hj)
   simpa using this
  have h0:=h 0 p rfl
  have h0:p.2[i]? = some v:=by simpa using h0
  obtain⟨x,hx,rx⟩:=(hv.2 0 xs p rfl rfl).got (u:=v) (i:=i) (by rw[zyw];exact h0)
  refine⟨x::r,⟨by simp[hr.1],fun j ys hj=>?_⟩,.cons rx rv⟩
  cases j with
  |zero=>simp at hj;subst hj;simpa using hx
  |succ j=>simpa using hr.2 j ys (by simpa using hj)
theorem uX{xss:List (List V)}{src:List (Addr×Array Value)}{i:Nat}{vs:List Value}(hv:SrcV xss src)(ht:Told src i src.length vs):∃r,Fq xss i r/\Vals r vs :=
 rB hv ht.1 fun j p hj=>ht.2 j p (iE hj) hj
section
variable{X:Cx}
theorem uY{n m b:Nat}(h:b<n∨n+m+2<b):b<n∨b=n+m∨n+m+2<b:=h.imp_right .inr
theorem yd(f:Bool->Bool):∀(bs:List Bool),(List.range bs.length).all (fun i=>f (bs.getD i false))=bs.all f:=by
 intro bs
 rw[zyC]
 simp only[zzO,zzR]
 constructor
 ·intro h b hb
  obtain⟨i,hi,e⟩:=List.mem_iff_getElem.mp hb
  have:=h i hi
  rw[zzF,zzB hi]at this
  subst e
  simpa using this
 ·intro h i hi
  have:=h bs[i] (List.getElem_mem hi)
  rw[zzF,zzB hi]
  simpa using this
theorem ye:∀(bs:List Bool),(List.range bs.length).any (fun i=>bs.getD i false)=bs.any id:=by
 intro bs
 rw[zyC]
 simp only[List.any_eq_true,zzR]
 constructor
 ·rintro⟨i,hi,h⟩
  rw[zzF,zzB hi]at h
  exact⟨bs[i],List.getElem_mem hi,by simpa using h⟩
 ·rintro⟨b,hb,h⟩
  obtain⟨i,hi,e⟩:=List.mem_iff_getElem.mp hb
  refine⟨i,hi,?_⟩
  rw[zzF,zzB hi]
  subst e
  simpa using h
theorem mX{prog:Program}{w:World}{A:Around}{bs:List Bool}{its:List Value}(r:Vals (bs.map V.bl) its):TruthOf prog w A (fun i v=>its.toArray[i]? = some v) (fun i=>bs.getD i false):=by
 intro i v s Q E h q
 have h:its[i]? = some v:=by simpa using h
 have hi:i<bs.length:=by
  have:=r.length
  have:=iE h
  simp at *
  omega
 obtain⟨u,hu,ru⟩:=r.get (i:=i) (x:=.bl bs[i]) (by simp[hi])
 rw[h]at hu
 cases hu
 cases ru
 have q:Q (bs.getD i false) s:=q
 rw[zzF,zzB hi]at q
 exact wpAny_truthy_bool q
theorem Af(hc:X.calm=true):eV X (.builtin "all") (fun xs H Q=>∃(p:Addr) (bs:List Bool),xs=[.ref p]/\SqL X.K H p (bs.map V.bl)/\Q (.bl (bs.all id)) H):=by
 intro pins s σ H xs us Q I r h
 obtain⟨p,bs,rfl,hl,q⟩:=h
 obtain⟨u,rfl,e⟩:=oq r
 cases e
 obtain⟨its,rv,pl,_⟩:=I.list hl
 have hlen:its.toArray.size=bs.length:=by have:=rv.length;simpa using this.symm
 have hne:p≠s.heap.objs.size:=by
  obtain⟨o,ho,_⟩:=pl.isList
  exact zzJ (zzr ho)
 refine call_all_walk (wpAny_pyIter_list pl.isList ⟨s.heap.objs.size,_,_,_,_,_,_,rfl,Walks.list (A:=X.A.in1) (I.ok.hd hc) s.heap.objs.size p hne its.toArray,⟨⟨_,zzn _ rfl,rfl,rfl⟩,pl.isList.push _⟩,mX rv,fun h' tk hk=>⟨.bl (bs.all id),H,I.kept fun b o e=>hk b o ?_ (zzf _ e),?_,q⟩⟩)
 ·intro hb
  have:b=s.heap.objs.size:=by simpa using hb
  exact absurd (zzr e) (by rw[this];exact zyn _)
 ·show Value.bool _=Value.bool _
  rw[hlen]
  have:=yd id bs
  simp only[id]at this ⊢
  rw[this]
theorem Ag(hc:X.calm=true):eV X (.builtin "any") (fun xs H Q=>∃(p:Addr) (bs:List Bool),xs=[.ref p]/\SqL X.K H p (bs.map V.bl)/\Q (.bl (bs.any id)) H):=by
 intro pins s σ H xs us Q I r h
 obtain⟨p,bs,rfl,hl,q⟩:=h
 obtain⟨u,rfl,e⟩:=oq r
 cases e
 obtain⟨its,rv,pl,_⟩:=I.list hl
 have hlen:its.toArray.size=bs.length:=by have:=rv.length;simpa using this.symm
 have hne:p≠s.heap.objs.size:=by
  obtain⟨o,ho,_⟩:=pl.isList
  exact zzJ (zzr ho)
 refine call_any_walk (wpAny_pyIter_list pl.isList ⟨s.heap.objs.size,_,_,_,_,_,_,rfl,Walks.list (A:=X.A.in1) (I.ok.hd hc) s.heap.objs.size p hne its.toArray,⟨⟨_,zzn _ rfl,rfl,rfl⟩,pl.isList.push _⟩,mX rv,fun h' tk hk=>⟨.bl (bs.any id),H,I.kept fun b o e=>hk b o ?_ (zzf _ e),?_,q⟩⟩)
 ·intro hb
  have:b=s.heap.objs.size:=by simpa using hb
  exact absurd (zzr e) (by rw[this];exact zyn _)
 ·show Value.bool _=Value.bool _
  rw[hlen,ye]
end
end L2
namespace DL
open PySem PySem.Spec L2
open PyProof.Rows hiding St
variable[TB]
variable[Frm]
section
variable{X:Cx}
def tE:List D->Option (List Bool)
 |[]=>some []
 |.bl b::r=>(tE r).map (b :: ·)
 |_=>none
theorem rC:∀bs:List Bool,tE (bs.map D.bl)=some bs
 |[]=>rfl
 |n::r=>by simp[tE,rC r]
theorem uZ:∀{ds:List D}{bs:List Bool},tE ds=some bs->ds=bs.map D.bl
 |[],ns,h=>by cases h;rfl
 |.bl i::r,ns,h=>by
  simp only[tE,zyA]at h
  obtain⟨ms,h,rfl⟩:=h
  rw[uZ h];rfl
theorem pQ{K:PySem.W.Frag}{pp:Option Addr}{M:List Addr}{H:Hp}:∀{ns:List Bool}{xs:List V},Reps K pp M H (ns.map D.bl) xs->xs=ns.map V.bl
 |[],xs,h=>by simpa only[zyb,Reps]using h
 |n::r,xs,h=>by
  simp only[zzc,Reps,Rep]at h
  obtain⟨x,t,rfl,rfl,h⟩:=h
  rw[pQ h];rfl
def gTru(f:List Bool->Bool):DSp:=fun ds P=>match ds with
 |[.lst xs]=>match tE xs with
  |some bs=>P (.bl (f bs))
  |none=>False
 |_=>False
theorem kw{f:List Bool->Bool}{bs:List Bool}{P:D->Prop}(h:P (.bl (f bs))):gTru f [.lst (bs.map D.bl)] P:=by
 unfold gTru
 simp only[rC]
 exact h
theorem lY{f:List Bool->Bool}{ds:List D}{P:D->Prop}(h:gTru f ds P):∃bs:List Bool,ds=[.lst (bs.map D.bl)]/\P (.bl (f bs)):=by
 unfold gTru at h
 split at h
 ·rename_i xs
  cases e:tE xs with
  |none=>rw[e]at h;exact h.elim
  |some ns =>
   rw[e]at h
   exact⟨ns,by rw[uZ e],h⟩
 ·exact h.elim
theorem yf(hc:X.calm=true:=by rfl):CallD X (.builtin "all") (gTru fun bs=>bs.all id):=by
 refine⟨fun ds P P' f h=>?_,_,Af hc,fun {pp} M H ds vs Q _ r h=>?_⟩
 ·obtain⟨ns,rfl,h2⟩:=lY h
  exact kw (f _ h2)
 ·obtain⟨ns,rfl,h2⟩:=lY h
  simp only[Reps,Rep]at r
  obtain⟨x,_,rfl,⟨a,ys,rfl,_,_,ha,ry⟩,rfl⟩:=r
  refine⟨a,ns,rfl,SqL.of (by rw[ha,pQ ry]),h2 H _ .refl eY⟩
theorem Fr(hc:X.calm=true:=by rfl):CallD X (.builtin "any") (gTru fun bs=>bs.any id):=by
 refine⟨fun ds P P' f h=>?_,_,Ag hc,fun {pp} M H ds vs Q _ r h=>?_⟩
 ·obtain⟨ns,rfl,h2⟩:=lY h
  exact kw (f _ h2)
 ·obtain⟨ns,rfl,h2⟩:=lY h
  simp only[Reps,Rep]at r
  obtain⟨x,_,rfl,⟨a,ys,rfl,_,_,ha,ry⟩,rfl⟩:=r
  refine⟨a,ns,rfl,SqL.of (by rw[ha,pQ ry]),h2 H _ .refl eY⟩
theorem hV{x:Str}{pos:Pos}{i:Int}{t:Tok}(hg:Gl X x)(hm:X.mg x=some (.int i t))(hd:(x == ("__debug__" : Str))=false:=by decide):PED X (.Name x pos) (dC (.int i)) :=
 .con (BX (v:=.int i) hg hm ⟨t,rfl⟩ hd) fun _ _ _=>by simp only[Rep]
end
end DL
namespace L2
open PySem PySem.Spec PyProof.Rows
section
variable{prog:Program}{w:World}{A:Around}{E:Value->Shared->Prop}{s:Shared}
theorem CK{elts:List Expr}{x1}{pos:Pos}{z TI TO T:Addr}{f0 f1:Value}{Q:Unit->Shared->Prop}(hf:OwnF f0)(hz:eG s.heap z TI TO f0 f1)
  (hQ:∀h' f0',OwnF f0'->eG h' z TI TO f0' f1->Heap.SameBut z s.heap h'->Q () { s with heap:=h' }) :
  wpAny (model prog w) A (letOwnedTupleGo (.Tuple elts x1 pos) (.ref z) (.ref T)) Q E s:=by
 unfold letOwnedTupleGo
 refine wpAny_bind (wpAny_load hz ?_)
 show wpAny _ _ (if (["enumerate","zip","dict_itemiterator","dict_reverseitemiterator","odict_iterator","itertools.zip_longest","itertools.pairwise"].contains "zip" &&
   (#[f0,f1,.bool false,.ref TI,.ref TO]:Array Value)[0]? == some (rawInt T))=true then _ else _) Q E s
 split
 ·refine wpAny_bind (wpAny_rule ?_)
  show wpAny _ _ (setField (.ref z) 0 .none) Q E s
  exact wpAny_setField_rec hz (by simp) fun h' hz' hs'=>hQ h' .none (.inl rfl) hz' hs'
 ·exact wpAny_pure (hQ s.heap f0 hf hz (Heap.SameBut.refl _ _))
end
def fpZ(n m:Nat):List Addr:=(List.range (m+3)).map (n + ·)
theorem fpZ_mem{n m b:Nat}:b∈fpZ n m↔n <= b/\b<n+m+3:=by
 unfold fpZ
 simp only[zze,zzR]
 constructor
 ·rintro⟨a,h1,h2⟩
  omega
 ·rintro⟨h1,h2⟩
  exact⟨b - n,by omega,by omega⟩
theorem yg{n m c:Nat}(h:c∈fpZ n m):c=n+m+2∨c=n+m∨c=n+m+1∨(c - n<m/\n+(c - n)=c):=by
 have:=fpZ_mem.mp h
 omega
theorem tF{n m b:Nat}(h:b∉fpZ n m):b<n∨n+m+2<b:=by
 have:¬(n <= b/\b<n+m+3):=fun z=>h (fpZ_mem.mpr z)
 omega
theorem Fs{n m b:Nat}(h:b∉fpZ n m):b≠n+m+2:=by
 have:=tF h
 omega
end L2
namespace DL
open PySem PySem.Spec L2
open PyProof.Rows hiding St
variable[TB]
variable[Frm]
mutual
def flD:D->Prop
 |.non=>True
 |.bl _=>True
 |.int _=>True
 |.str _=>True
 |.ty _=>True
 |.cls _=>True
 |.tup ds=>flDs ds
 |_=>False
def flDs:List D->Prop
 |[]=>True
 |d::r=>flD d/\flDs r
end
omit [Frm] in
mutual
theorem Rep.flat{K:PySem.W.Frag}{pp:Option Addr}{M M':List Addr}{H:Hp}:∀(d:D) (v:V),flD d->Rep K pp M H d v->Rep K pp M' H d v
 |.non,_,_,h=>by simp only[Rep]at h ⊢;exact h
 |.bl _,_,_,h=>by simp only[Rep]at h ⊢;exact h
 |.int _,_,_,h=>by simp only[Rep]at h ⊢;exact h
 |.str _,_,_,h=>by simp only[Rep]at h ⊢;exact h
 |.ty _,_,_,h=>by simp only[Rep]at h ⊢;exact h
 |.cls _,_,_,h=>by simp only[Rep]at h ⊢;exact h
 |.tup ds,_,f,h=>by
  simp only[Rep]at h ⊢
  simp only[flD]at f
  obtain⟨a,xs,e,ha,r⟩:=h
  exact⟨a,xs,e,ha,Reps.flat ds xs f r⟩
 |.lst _,_,f,_=>by simp only[flD]at f
 |.dK _ _,_,f,_=>by simp only[flD]at f
 |.dT _ _,_,f,_=>by simp only[flD]at f
 |.pen,_,f,_=>by simp only[flD]at f
 |.exc _,_,f,_=>by simp only[flD]at f
 |.exa _ _,_,f,_=>by simp only[flD]at f
theorem Reps.flat{K:PySem.W.Frag}{pp:Option Addr}{M M':List Addr}{H:Hp}:∀(ds:List D) (xs:List V),flDs ds->Reps K pp M H ds xs->Reps K pp M' H ds xs
 |[],xs,_,h=>by simp only[Reps]at h ⊢;exact h
 |d::ds,xs,f,h=>by
  simp only[Reps]at h ⊢
  simp only[flDs]at f
  obtain⟨x,r,e,h1,h2⟩:=h
  exact⟨x,r,e,Rep.flat d x f.1 h1,Reps.flat ds r f.2 h2⟩
end
def pinS(v:V):Sl->Sl
 |.nil=>.nil
 |.val d=>.pin v d
 |.own ds=>.pin v (.lst ds)
 |.obj q=>.pin v (fzO q)
 |.pin w d=>.pin w d
def pinL(vs:Nat->V):Nat->DS->DS
 |_,[]=>[]
 |n,s::r=>pinS (vs n) s::pinL vs (n+1) r
inductive Unp(vs:Nat->V):Nat->DS->DS->DS->Prop
 |nil {n}:Unp vs n [] [] []
 |keep {n s r r' r2}:Unp vs (n+1) r r' r2->Unp vs n (s::r) (pinS (vs n) s::r') (s::r2)
 |drop {n s s' r r' r2}:Unp vs (n+1) r r' r2->Unp vs n (s::r) (s'::r') (.nil::r2)
 |flat {n s d r r' r2}:flD d->Unp vs (n+1) r r' r2->Unp vs n (s::r) (.val d::r') (.val d::r2)
 |ownF {n s ds r r' r2}:flDs ds->Unp vs (n+1) r r' r2->Unp vs n (s::r) (.own ds::r') (.own ds::r2)
omit [Frm] in
theorem pR(vs:Nat->V):∀(ρ:DS) (n i:Nat),(pinL vs n ρ)[i]? = (ρ[i]?).map (pinS (vs (n+i)))
 |[],_,_=>by simp[pinL]
 |s::r,n,0=>by simp[pinL]
 |s::r,n,i+1=>by
  simp only[pinL,zyN]
  rw[pR vs r (n+1) i,show n+1+i=n+(i+1) by omega]
omit [Frm] in
theorem vb(vs:Nat->V):∀(ρ:DS) (n:Nat),(pinL vs n ρ).length=ρ.length
 |[],_=>rfl
 |s::r,n=>by simp[pinL,vb vs r (n+1)]
omit [Frm] in
theorem Unp.self(vs:Nat->V):∀(ρ:DS) (n:Nat),Unp vs n ρ (pinL vs n ρ) ρ
 |[],_=>.nil
 |_::r,n=>.keep (Unp.self vs r (n+1))
omit [Frm] in
theorem Unp.len{vs:Nat->V}{n:Nat}{a b c:DS}(h:Unp vs n a b c):b.length=c.length/\c.length=a.length:=by
 induction h with
 |nil=>exact⟨rfl,rfl⟩
 |keep _ ih=>simp[ih.1,ih.2]
 |drop _ ih=>simp[ih.1,ih.2]
 |flat _ _ ih=>simp[ih.1,ih.2]
 |ownF _ _ ih=>simp[ih.1,ih.2]
omit [Frm] in
theorem Unp.get{vs:Nat->V}{n:Nat}{a b c:DS}(h:Unp vs n a b c):∀(i:Nat) (s:Sl),c[i]? = some s->s=.nil∨(a[i]? = some s/\b[i]? = some (pinS (vs (n+i)) s))∨(∃d,s=.val d/\flD d/\b[i]? = some (.val d))∨∃ds,s=.own ds/\flDs ds/\b[i]? = some (.own ds):=by
 induction h with
 |nil=>intro i s e;simp at e
 |@keep n s0 r r' r2 _ ih =>
  intro i s e
  cases i with
  |zero=>simp at e;subst e;exact .inr (.inl ⟨by simp,by simp⟩)
  |succ i =>
   have:=ih i s (by simpa using e)
   rw[show n+1+i=n+(i+1) by omega]at this
   simpa using this
 |@drop n s0 s' r r' r2 _ ih =>
  intro i s e
  cases i with
  |zero=>simp at e;exact .inl e.symm
  |succ i =>
   have:=ih i s (by simpa using e)
   rw[show n+1+i=n+(i+1) by omega]at this
   simpa using this
 |@flat n s0 d r r' r2 f _ ih =>
  intro i s e
  cases i with
  |zero=>simp at e;exact .inr (.inr (.inl ⟨d,e.symm,f,by simp⟩))
  |succ i =>
   have:=ih i s (by simpa using e)
   rw[show n+1+i=n+(i+1) by omega]at this
   simpa using this
 |@ownF n s0 ds r r' r2 f _ ih =>
  intro i s e
  cases i with
  |zero=>simp at e;exact .inr (.inr (.inr ⟨ds,e.symm,f,by simp⟩))
  |succ i =>
   have:=ih i s (by simpa using e)
   rw[show n+1+i=n+(i+1) by omega]at this
   simpa using this
section
variable{K:PySem.W.Frag}{F:Fx}{M:List Addr}{H:Hp}{σ:St}{ρ:DS}
omit [TB] [Frm] in
mutual
theorem RO.nt{pp:Option Addr}:∀(q:O) (v:V) (A:List Addr),RO K pp M H q v A->∀a∈A,∀ps,H a≠some (.tbl ps)
 |.val d,v,A,h,a,ha=>by simp only[RO]at h;rw[h.1]at ha;simp at ha
 |.lst os,v,A,h,a,ha=>by
  simp only[RO]at h
  obtain⟨b,xs,B,e,hb,rfl,r⟩:=h
  rcases zzj.mp ha with rfl|ha
  ·rw[hb];intro _ z;cases z
  ·exact ROs.nt os xs B r a ha
 |.dct ks os,v,A,h,a,ha=>by
  simp only[RO]at h
  obtain⟨b,kvs,B,e,hb,e2,rfl,r⟩:=h
  rcases zzj.mp ha with rfl|ha
  ·rw[hb];intro _ z;cases z
  ·exact ROs.nt os _ B r a ha
 |.tup os,v,A,h,a,ha=>by
  simp only[RO]at h
  obtain⟨b,xs,e,hb,r⟩:=h
  exact ROs.nt os xs A r a ha
 |.dck ks os,v,A,h,a,ha=>by
  simp only[RO]at h
  obtain⟨b,kvs,B,e,hb,e2,rfl,r⟩:=h
  rcases zzj.mp ha with rfl|ha
  ·rw[hb];intro _ z;cases z
  ·exact ROs.nt os _ B r a ha
theorem ROs.nt{pp:Option Addr}:∀(os:List O) (xs:List V) (A:List Addr),ROs K pp M H os xs A->∀a∈A,∀ps,H a≠some (.tbl ps)
 |[],xs,A,h,a,ha=>by simp only[ROs]at h;rw[h.2]at ha;simp at ha
 |o::os,xs,A,h,a,ha=>by
  simp only[ROs]at h
  obtain⟨x,r,B,C,e,rfl,h1,h2⟩:=h
  rcases zzw.mp ha with ha|ha
  ·exact RO.nt o x B h1 a ha
  ·exact ROs.nt os r C h2 a ha
end
open Classical in
theorem RSt.owN(r:RSt K F M H σ ρ):∃As:Nat->List Addr,(∀(i:Nat) s o,ρ[i]? = some s->σ[i]? = some o->Ow K F M H s o (As i))/\(∀i,∀a∈As i,a∈M/\F.H0 a=none/\F.pp≠some a)/\(∀i j,i≠j->∀a∈As i,a∉As j)/\∀i,∀a∈As i,∀ps,H a≠some (.tbl ps):=by
 obtain⟨As,k1,k2,k3⟩:=r.ow
 refine⟨fun i=>(As i).filter fun a=>decide (∀ps,H a≠some (.tbl ps)),fun i s o e1 e2=>?_,fun i a ha=>k2 i a (zzp.mp ha).1,fun i j e a ha hb=>k3 i j e a (zzp.mp ha).1 (zzp.mp hb).1,fun i a ha=>by simpa using(zzp.mp ha).2⟩
 have q:=k1 i s o e1 e2
 cases s with
 |nil=>trivial
 |val d=>trivial
 |pin w d=>trivial
 |own ds =>
  obtain⟨l,rfl,e⟩:=q
  obtain⟨l',xs,e',_,_,_,hl,_⟩:=r.sl i _ _ e1 e2
  cases e'
  refine⟨l,rfl,?_⟩
  show (As i).filter _=[l]
  rw[e,List.filter_eq_self]
  intro a ha
  simp at ha;subst ha
  simp[hl]
 |obj b =>
  obtain⟨nd,v,rfl,hq⟩:=q
  have e:(As i).filter (fun a=>decide (∀ps,H a≠some (.tbl ps)))=As i:=by
   rw[List.filter_eq_self]
   intro a ha
   simpa using RO.nt b v (As i) hq a ha
  show Ow K F M H _ _ ((As i).filter _)
  rw[e]
  exact⟨nd,v,rfl,hq⟩
open Classical in
theorem RSt.look(r:RSt K F M H σ ρ)(vs:Nat->V)(hv:∀(i:Nat) v,σ[i]? = some (some v)->vs i=v) :
  ∃M0,Mv K F.pp M H M0 H/\RSt K F M0 H σ (pinL vs 0 ρ)/\(∀M' H' σ' ρ' ρ2,Mv K F.pp M0 H M' H'->RSt K F M' H' σ' ρ'->Unp vs 0 ρ ρ' ρ2->∃M2,Mv K F.pp M H M2 H'/\RSt K F M2 H' σ' ρ2) /\
   ∃As:Nat->List Addr,(∀(i:Nat) s o,ρ[i]? = some s->σ[i]? = some o->Ow K F M H s o (As i))/\∀M' H',Mv K F.pp M0 H M' H'->∀i,i<ρ.length->∀a∈As i,∀x,H a=some x->NT x->H' a=some x:=by
 obtain⟨As,k1,k2,k3,k4⟩:=r.owN
 obtain⟨A,hA⟩:∃A:List Addr,∀a,a∈A↔∃i,i<ρ.length/\a∈As i:=⟨(List.range ρ.length).flatMap As,fun a=>by simp⟩
 have inA:∀(i:Nat) s,ρ[i]? = some s->∀a∈As i,a∈A:=fun i s e a ha=>(hA a).mpr ⟨i,(zzm.mp e).1,ha⟩
 have ofA:∀a∈A,a∈M/\F.H0 a=none/\F.pp≠some a:=fun a ha=>by
  obtain⟨i,_,h⟩:=(hA a).mp ha
  exact k2 i a h
 have ntA:∀a∈A,∀ps,H a≠some (.tbl ps):=fun a ha=>by
  obtain⟨i,_,h⟩:=(hA a).mp ha
  exact k4 i a h
 have m0:Mv K F.pp M H (M.filter fun a=>decide (a∉A)) H:=.less fun a ha=>(zzp.mp ha).1
 have n0:∀a∈A,a∉M.filter fun a=>decide (a∉A):=fun a ha z=>absurd ha (by simpa using(zzp.mp z).2)
 have z0:∀i:Nat,vs (0+i)=vs i:=fun i=>by rw[Nat.zero_add]
 refine⟨_,m0,⟨by rw[vb,r.len],fun i s o h1 h2=>?_,OwF.none (fun i s h1=>?_),fun a ha=>?_,r.same,r.old,⟨fun a ha=>r.liv.m a (zzp.mp ha).1,r.liv.p⟩,r.lk.cl m0⟩,?_,As,k1,fun M' H' m i hi a ha x e nt=>(m.oth a x e (n0 a ((hA a).mpr ⟨i,hi,ha⟩)) ⟨(k2 i a ha).2.2,nt⟩).1⟩
 ·rw[pR]at h1
  obtain⟨s0,e0,rfl⟩:=zyA.mp h1
  rw[z0]
  have q:=r.sl i s0 o e0 h2
  cases s0 with
  |nil=>trivial
  |val d=>obtain⟨v,rfl,q⟩:=q;exact⟨v,rfl,(hv i v h2).symm,q.mv m0⟩
  |pin w d=>obtain⟨v,e,ew,q⟩:=q;exact⟨v,e,ew,q.mv m0⟩
  |own ds =>
   obtain⟨l,xs,rfl,hm,h0,hp,hl,hr⟩:=q
   have hlA:l∈A:=by
    obtain⟨l2,e2,e3⟩:=k1 i _ _ e0 h2
    cases e2
    exact inA i _ e0 l (by rw[e3];simp)
   refine⟨.ref l,rfl,(hv i _ h2).symm,?_⟩
   simp only[Rep]
   exact⟨l,xs,rfl,n0 l hlA,hp,hl,hr.mv m0⟩
  |obj b =>
   obtain⟨nd,v,rfl,hq⟩:=k1 i _ _ e0 h2
   exact⟨v,rfl,(hv i v h2).symm,RO.fz m0 b v (As i) (fun a ha=>⟨n0 a (inA i _ e0 a ha),(k2 i a ha).2.2⟩) hq⟩
 ·rw[pR]at h1
  obtain⟨s0,e0,rfl⟩:=zyA.mp h1
  cases s0<;>exact⟨fun ds z=>(by cases z),fun q z=>(by cases z)⟩
 ·refine zzp.mpr ⟨r.sub a ha,?_⟩
  have:a∉A:=fun z=>r.old a ha (ofA a z).2.1
  simpa using this
 ·intro M' H' σ' ρ' ρ2 m r' u
  have mm:=m0.trans m
  have m2:Mv K F.pp M H (A++M') H':=by
   refine⟨mm.tup,fun a o e n p=>?_,mm.pen,mm.tb⟩
   obtain⟨q1,q2⟩:=mm.oth a o e n p
   refine⟨q1,fun z=>?_⟩
   rcases zzw.mp z with z|z
   ·exact n (ofA a z).1
   ·exact q2 z
  have kp:∀a∈A,∀x,H a=some x->NT x->H' a=some x:=fun a ha x e nt=>(m.oth a x e (n0 a ha) ⟨(ofA a ha).2.2,nt⟩).1
  obtain⟨ul,ul2⟩:=u.len
  have key:∀(i:Nat) s o,ρ[i]? = some s->ρ'[i]? = some (pinS (vs (0+i)) s)->s ≠ .nil->σ'[i]? = some o->σ[i]? = some o:=fun i s o e1 e2 hn h2=>by
   obtain⟨o0,ho0,q0⟩:=r.at e1
   have q1:=r'.sl i _ _ e2 h2
   rw[z0]at q1
   rw[ho0]
   cases s with
   |nil=>exact absurd rfl hn
   |val d =>
    obtain⟨v,rfl,q⟩:=q0
    obtain⟨v',rfl,e,_⟩:=q1
    rw[e,hv i v ho0]
   |pin w d =>
    obtain⟨v,rfl,e',q⟩:=q0
    obtain⟨v',rfl,e,_⟩:=q1
    rw[e,e']
   |own ds =>
    obtain⟨l,xs,rfl,hm,h0,hp,hl,hr⟩:=q0
    obtain⟨v',rfl,e,_⟩:=q1
    rw[e,hv i _ ho0]
   |obj q =>
    obtain⟨v,rfl⟩:=q0
    obtain⟨v',rfl,e,_⟩:=q1
    rw[e,hv i v ho0]
  obtain⟨Bs,b1,b2,b3⟩:=r'.ow
  have dj:∀a∈A,a∉M':=fun a ha=>by
   cases e:H a with
   |none=>exact absurd e (r.liv.m a (ofA a ha).1)
   |some x=>exact(m.oth a x e (n0 a ha) ⟨(ofA a ha).2.2,fun ps q=>ntA a ha ps (by rw[e,q])⟩).2
  let nw:Nat->Prop:=fun i=>∃ds,ρ2[i]? = some (.own ds)/\ρ'[i]? = some (.own ds)
  have inC:∀i a,a∈(if nw i then Bs i else if i<ρ.length then As i else[])->(nw i/\a∈Bs i)∨(¬nw i/\i<ρ.length/\a∈As i):=fun i a ha=>by
   by_cases h:nw i
   ·rw[if_pos h]at ha;exact .inl ⟨h,ha⟩
   ·rw[if_neg h]at ha
    by_cases e:i<ρ.length
    ·rw[if_pos e]at ha;exact .inr ⟨h,e,ha⟩
    ·rw[if_neg e]at ha;simp at ha
  refine⟨A++M',m2,⟨by rw[r'.len,ul],fun i s o h1 h2=>?_,⟨fun i=>if nw i then Bs i else if i<ρ.length then As i else[],fun i s o h1 h2=>?_,fun i a ha=>?_,fun i j e a ha hb=>?_⟩,fun a ha=>zzw.mpr (.inr (r'.sub a ha)),r'.same,r.old,⟨fun a ha=>?_,r'.liv.p⟩,r.lk.cl m2⟩⟩
  ·rcases u.get i s h1 with rfl|⟨e1,e2⟩|⟨d,rfl,f,e2⟩|⟨ds,rfl,f,e2⟩
   ·trivial
   ·by_cases hn:s=.nil
    ·subst hn;trivial
    have h3:=key i s o e1 e2 hn h2
    have q0:=r.sl i s o e1 h3
    cases s with
    |nil=>trivial
    |val d=>obtain⟨v,e,q⟩:=q0;exact⟨v,e,q.mv m2⟩
    |pin w d=>obtain⟨v,e,ew,q⟩:=q0;exact⟨v,e,ew,q.mv m2⟩
    |own ds =>
     obtain⟨l,xs,rfl,hm,h0,hp,hl,hr⟩:=q0
     have hlA:l∈A:=by
      obtain⟨l2,e2,e3⟩:=k1 i _ _ e1 h3
      cases e2
      exact inA i _ e1 l (by rw[e3];simp)
     exact⟨l,xs,rfl,zzw.mpr (.inl hlA),h0,hp,kp l hlA _ hl (by intro _ z;cases z),hr.mv m2⟩
    |obj q=>exact q0
   ·obtain⟨v,e,q⟩:=r'.sl i _ _ e2 h2
    exact⟨v,e,q.flat _ _ f⟩
   ·obtain⟨l,xs,e,hm,h0,hp,hl,hr⟩:=r'.sl i _ _ e2 h2
    exact⟨l,xs,e,zzw.mpr (.inr hm),h0,hp,hl,Reps.flat ds xs f hr⟩
  ·show Ow K F _ H' s o (if nw i then Bs i else if i<ρ.length then As i else[])
   rcases u.get i s h1 with rfl|⟨e1,e2⟩|⟨d,rfl,f,e2⟩|⟨ds,rfl,f,e2⟩
   ·trivial
   ·by_cases hn:s=.nil
    ·subst hn;trivial
    have h3:=key i s o e1 e2 hn h2
    have nn:¬nw i:=fun⟨ds,z1,z2⟩=>by
     rw[h1]at z1
     cases z1
     rw[e2]at z2
     cases z2
    rw[if_neg nn,if_pos (zzm.mp e1).1]
    exact(k1 i s o e1 h3).mv m2 fun a ha=>kp a (inA i s e1 a ha)
   ·trivial
   ·have nn:nw i:=⟨ds,h1,e2⟩
    rw[if_pos nn]
    exact b1 i _ o e2 h2
  ·rcases inC i a ha with ⟨_,ha⟩|⟨_,e,ha⟩
   ·have:=b2 i a ha
    exact⟨zzw.mpr (.inr this.1),this.2⟩
   ·exact⟨zzw.mpr (.inl ((hA a).mpr ⟨i,e,ha⟩)),(k2 i a ha).2⟩
  ·rcases inC i a ha with ⟨_,ha⟩|⟨_,e1,ha⟩<;>rcases inC j a hb with ⟨_,hb⟩|⟨_,e2,hb⟩
   ·exact b3 i j e a ha hb
   ·exact dj a ((hA a).mpr ⟨j,e2,hb⟩) (b2 i a ha).1
   ·exact dj a ((hA a).mpr ⟨i,e1,ha⟩) (b2 j a hb).1
   ·exact k3 i j e a ha hb
  ·rcases zzw.mp ha with ha|ha
   ·intro z
    have:=r.liv.m a (ofA a ha).1
    cases e:H a with
    |none=>exact this e
    |some x=>rw[kp a ha x e (fun ps q=>ntA a ha ps (by rw[e,q]))]at z;cases z
   ·exact r'.liv.m a ha
end
section
omit [Frm] in
theorem GV(σ:St)(i:Nat)(v:V)(h:σ[i]? = some (some v)):(fun i=>((σ[i]?).getD none).getD V.non) i=v:=by simp[h]
variable{K:PySem.W.Frag}{pp:Option Addr}{M:List Addr}{H:Hp}
omit [Frm] in
mutual
theorem RO.live:∀(q:O) (v:V) (A:List Addr),RO K pp M H q v A->∀a∈A,H a≠none
 |.val d,v,A,h,a,ha=>by simp only[RO]at h;rw[h.1]at ha;simp at ha
 |.lst os,v,A,h,a,ha=>by
  simp only[RO]at h
  obtain⟨b,xs,B,e,hb,rfl,r⟩:=h
  rcases zzj.mp ha with rfl|ha
  ·rw[hb];intro z;cases z
  ·exact ROs.live os xs B r a ha
 |.dct ks os,v,A,h,a,ha=>by
  simp only[RO]at h
  obtain⟨b,kvs,B,e,hb,e2,rfl,r⟩:=h
  rcases zzj.mp ha with rfl|ha
  ·rw[hb];intro z;cases z
  ·exact ROs.live os _ B r a ha
 |.tup os,v,A,h,a,ha=>by
  simp only[RO]at h
  obtain⟨b,xs,e,hb,r⟩:=h
  exact ROs.live os xs A r a ha
 |.dck ks os,v,A,h,a,ha=>by
  simp only[RO]at h
  obtain⟨b,kvs,B,e,hb,e2,rfl,r⟩:=h
  rcases zzj.mp ha with rfl|ha
  ·rw[hb];intro z;cases z
  ·exact ROs.live os _ B r a ha
theorem ROs.live:∀(os:List O) (xs:List V) (A:List Addr),ROs K pp M H os xs A->∀a∈A,H a≠none
 |[],xs,A,h,a,ha=>by simp only[ROs]at h;rw[h.2]at ha;simp at ha
 |o::os,xs,A,h,a,ha=>by
  simp only[ROs]at h
  obtain⟨x,r,B,C,e,rfl,h1,h2⟩:=h
  rcases zzw.mp ha with ha|ha
  ·exact RO.live o x B h1 a ha
  ·exact ROs.live os r C h2 a ha
end
omit [Frm] in
theorem ROs.vals:∀{ds:List D}{xs:List V},Reps K pp M H ds xs->ROs K pp M H (ds.map O.val) xs []
 |[],xs,h=>by simp only[Reps]at h;simp only[zyb,ROs];exact⟨h,trivial⟩
 |d::ds,xs,h=>by
  simp only[Reps]at h
  obtain⟨x,r,rfl,h1,h2⟩:=h
  simp only[zzc,ROs,RO]
  exact⟨x,r,[],[],rfl,rfl,⟨rfl,h1⟩,ROs.vals h2⟩
end
section
variable{K:PySem.W.Frag}{F:Fx}{M:List Addr}{σ:St}{ρ:DS}{i:Nat}{q q':O}
theorem RSt.newObj{M1:List Addr}{H1 H':Hp}{A:List Addr}{v:V}(r:RSt K F M1 H1 σ ρ)(s:SameP K F.pp H1 H')(hn:A.Nodup)(hA:∀a∈A,H1 a=none/\F.pp≠some a)(ro:RO K F.pp (A++M1) H' q v A)(i:Nat) :
  Mv K F.pp M1 H1 (A++M1) H'/\RSt K F (A++M1) H' (σ.set i (some v)) (ρ.set i (.obj q)):=by
 have m1:Mv K F.pp M1 H1 M1 H':=s.mv
 have m:Mv K F.pp M1 H1 (A++M1) H':=by
  refine⟨m1.tup,fun a o e n p=>⟨(m1.oth a o e n p).1,fun z=>?_⟩,m1.pen,m1.tb⟩
  rcases zzw.mp z with z|z
  ·rw[(hA a z).1]at e;cases e
  ·exact n z
 have f0:∀a∈A,F.H0 a=none:=fun a ha=>by
  cases e:F.H0 a with
  |none=>rfl
  |some o=>exact absurd (hA a ha).1 (r.same.live a (by rw[e];intro z;cases z))
 refine⟨m,⟨by simp[r.len],fun j t o h1 h2=>?_,r.ow.step m i (fun j e=>zzG (Ne.symm e)) (fun j e=>zzG (Ne.symm e)) (fun A0 _ _=>⟨A,fun t o e1 e2=>?_,fun b hb=>⟨zzw.mpr (.inl hb),f0 b hb,(hA b hb).2,.inr fun z=>r.liv.m b z (hA b hb).1⟩,fun a ha p0 z0 _=>⟨zzw.mpr (.inr ha),(s.ow (M:=M1) a ha p0 z0).2⟩⟩),fun a ha=>zzw.mpr (.inr (r.sub a ha)),r.same.trans s.toSameQ,r.old,⟨fun a ha=>?_,fun p e=>s.live p (r.liv.p p e)⟩,r.lk.cl m⟩⟩
 ·by_cases e:i=j
  ·subst e
   rw[aS h1,aS h2]
   exact⟨v,rfl⟩
  ·rw[zzG e]at h1 h2
   have q':=r.sl j t o h1 h2
   cases t with
   |nil=>trivial
   |val d=>obtain⟨v,e,q⟩:=q';exact⟨v,e,q.mv m⟩
   |pin w d=>obtain⟨v,e,ew,q⟩:=q';exact⟨v,e,ew,q.mv m⟩
   |own es =>
    obtain⟨l',zs,rfl,hm',h0',hp',hl'',hr'⟩:=q'
    exact⟨l',zs,rfl,zzw.mpr (.inr hm'),h0',hp',(s.ow (M:=M1) l' hm' hp' h0').2 _ hl'' (by intro _ z;cases z),hr'.mv m⟩
   |obj q=>exact q'
 ·rw[aS e1,aS e2]
  exact⟨hn,v,rfl,ro⟩
 ·rcases zzw.mp ha with ha|ha
  ·exact RO.live q v A ro a ha
  ·exact s.live a (r.liv.m a ha)
end
end DL
namespace PySem
section
variable{prog:Program}{w:World}{K:Type}[DecidableEq K]{knd:HeapKind prog w K}{A:Around}{E:Value->Shared->Prop}{z:Shared}
theorem Ah{c b:Addr}{ps:List (K×Addr×Value)}{q:K}{x:Value}{R:Value->Shared->Prop}(room:knd.room A)(isK:knd.is z.heap q b)(D:z.heap.DictOfH knd c ps)(few:ps.length <= sizeLine)
  (old:∀p,atKey ps q=some p->R p.2 { z with toks:=z.toks+knd.draws q })
  (new:atKey ps q=none->∀h2,h2.DictOfH knd c (storedH ps q b x)->Heap.SameBut c z.heap h2->R x { z with heap:=h2,toks:=z.toks+knd.draws q }) :
  wpAny (model prog w) A (dictSetDefault c (.ref b) x) R E z:=by
 obtain⟨ob,en,ep,g1,g2,g3,g4,g5,g6⟩:=D
 unfold dictSetDefault
 try with_reducible refine wpAny_holding ?_
 refine wpAny_bind (knd.pyHash room isK ?_)
 refine wpAny_bind (wpAny_dictFind_heap (s:={ z with toks:=z.toks+knd.draws q }) room isK g1 g3 g4 g5 g6 (fun none_=>?_) (fun j p at_=>?_))
 ·have few2:en.size <= sizeLine:=by rw[size_of_entries g4];exact few
  have a0:=atKey_none_of_get none_
  refine wpAny_bind (wpAny_rule (wpAny_bind (wpAny_updateDictKeys (hz:=few2) (s:={ z with toks:=z.toks+knd.draws q }) g1 g3 (wpAny_pure (new a0 _ ⟨_,_,ep+1,zyv _ g1 (Obj.isFreed_of_dict (Obj.data_mapDictKeys g3 _)),g2.mapDictKeys _,Obj.data_mapDictKeys g3 _,?_,?_,?_⟩ (zzX ..))))))
  all_goals rw[storedH_new a0]
  ·simp[g4,entryOfKey]
  ·intro y hy
   rcases zzw.mp hy with hy|hy
   ·exact knd.keeps (g5 y hy) g1 g3 (zzX ..)
   ·rw[zzx.mp hy]
    exact knd.keeps isK g1 g3 (zzX ..)
  ·rw[zzl,List.map_singleton]
   refine List.nodup_append.mpr ⟨g6,zzL.mpr ⟨by simp,List.nodup_nil⟩,fun y hy u hu e=>?_⟩
   have e:y=q:=by rw[zzx.mp hu]at e;exact e
   subst e
   exact not_mem_keys_of_get none_ hy
 ·refine wpAny_bind (wpAny_dictEntries (s:={ z with toks:=z.toks+knd.draws q }) g1 g3 ?_)
  rw[entry_at g4 j,at_]
  exact wpAny_bind (wpAny_rule (wpAny_pure (old p (atKey_of_get g6 at_))))
theorem oA(knd:HeapKind prog w K)(c b:Addr)(x:Value)(plain:(c == sysModules)=false) :
  MeetsIn prog w (Builtin.«dict.setdefault» ⟨[.ref c,.ref b,x],[]⟩) (fun A R z=>knd.room A.in1/\∃q ps,knd.is z.heap q b/\z.heap.DictOfH knd c ps/\ps.length <= sizeLine /\
   (∀p,atKey ps q=some p->R (.ok (.ret p.2)) { z with toks:=z.toks+knd.draws q }) /\
   (atKey ps q=none->∀h2,h2.DictOfH knd c (storedH ps q b x)->Heap.SameBut c z.heap h2->R (.ok (.ret x)) { z with heap:=h2,toks:=z.toks+knd.draws q })) :=
 .of_wp fun A R z ⟨room,q,ps,isK,D,few,old,new⟩=>by
  unfold Builtin.«dict.setdefault»
  refine wpAny_bind ?_
  unfold Builtin.Dict.keyAndDefault
  refine wpAny_bind (wpAny_notOrdered_dict D.typeIs ?_)
  show wpAny _ _ (pure (c,Value.ref b,some x)) _ _ z
  refine wpAny_pure ?_
  show wpAny _ _ (if (c == sysModules)=true then _ else(dictSetDefault c (.ref b) x >>= _)) _ _ z
  rw[if_neg (by rw[plain];exact zzo)]
  exact wpAny_bind (Ah room isK D few (fun p e=>wpAny_pure ⟨p.2,rfl,old p e⟩) fun e h2 D2 sb=>wpAny_pure ⟨x,rfl,new e h2 D2 sb⟩)
end
end PySem
namespace L2
open PySem PySem.Spec PyProof.Rows
section
variable{X:Cx}
def GW:V->List V->Hp->VK->Prop:=fun x vs H Q=>∃a kvs k b y,x=.ref a/\vs=[.ref b,y]/\H a=some (.dT kvs)/\H b=some (.tup (k.map kV))/\kvs.length<sizeLine /\
 (∀v,valV kvs k=some v->Q v H)/\(valV kvs k=none->Q y (upd H a (.dT (putK kvs k y))))
theorem jB(hu:X.A.units+1<cLine):MtM X "dict.setdefault" GW:=by
 intro pins s σ H x vs v us Q I rx rv h
 obtain⟨a,kvs,k,b,y,rfl,rfl,e,eb,l,h1,h2⟩:=h
 cases rx
 cases rv with
 |cons r1 rr =>
  obtain⟨u,rfl,ru⟩:=Vals.one rr
  cases r1
  obtain⟨z,plain,xs,rel,dd⟩:=EE I.hok e
  have hz:xs.length <= sizeLine:=by rw[←Paired.length rel];exact z
  have hl:(putK kvs k y).length <= sizeLine:=by have:=ix kvs k y;omega
  refine call_meetsIn F.slot_dict_setdefault dd.typeIs F.entry_dict_setdefault (F.args_dict_setdefault_3 _ _ _) (oA (tupleKind (ce X.prog X.w)) a b u plain) ⟨tupleKind_room_in1 hu,k,xs,qL I.hok eb,dd,hz,fun p hp=>?_,fun hn h' dd' hs=>?_⟩
  ·have q:=rel.val k
   rw[hp]at q
   cases ev:valV kvs k with
   |none=>rw[ev]at q;exact q.elim
   |some v' =>
    rw[ev]at q
    exact⟨v',H,I.tok _,q,h1 v' ev⟩
  ·have q:=rel.val k
   rw[hn]at q
   cases ev:valV kvs k with
   |some v'=>rw[ev]at q;exact q.elim
   |none =>
    obtain⟨q,es,ep,hq,h2',h3,h4,_,h5⟩:=dd'
    refine⟨y,_,sO (ob:=.dT (putK kvs k y)) I (by rw[e];exact True.intro) hs ⟨q,hq⟩ ⟨hl,plain,_,(rel.put k eb ru).keeps fun c ys ec=>?_,q,es,ep,hq,h2',h3,h4,h5⟩,ru,h2 ev⟩
    rw[ao (jl ec e (fun z=>nomatch z))]
    exact ec
end
end L2
namespace L2
open PySem PySem.Spec PyProof.Rows PySem.W
def kRun{α:Type}(c:Nat->Nat->Bool):KasT α->α
 |.ret a=>a
 |.ask i j k=>kRun c (k (c i j))
def KGood{α:Type}(N:Nat)(P:α->Prop):KasT α->Prop
 |.ret a=>P a
 |.ask i j k=>(i<N/\j<N)/\∀b,KGood N P (k b)
theorem KGood.bind{α β:Type}{N:Nat}{P:α->Prop}{R:β->Prop}{f:α->KasT β}(hf:∀a,P a->KGood N R (f a)):∀(t:KasT α),KGood N P t->KGood N R (t.bind f)
 |.ret a,h=>hf a h
 |.ask i j k,h=>⟨h.1,fun b=>KGood.bind hf (k b) (h.2 b)⟩
theorem KGood.end{α:Type}{N:Nat}{P:α->Prop}(c:Nat->Nat->Bool):∀(t:KasT α),KGood N P t->P (kRun c t)
 |.ret a,h=>h
 |.ask i j k,h=>KGood.end c (k (c i j)) (h.2 _)
theorem KGood.wp{α:Type}{N:Nat}{P:α->Prop}{c:Nat->Nat->Bool}{cmp:Nat->Nat->(Bool->Shared->Prop)->Shared->Prop}{s:Shared}
  (hc:∀i j (C:Bool->Shared->Prop),i<N->j<N->C (c i j) s->cmp i j C s):∀(t:KasT α) (Q:α->Shared->Prop),KGood N P t->Q (kRun c t) s->t.kasWp cmp Q s
 |.ret a,Q,_,q=>q
 |.ask i j k,Q,h,q=>hc i j _ h.1.1 h.1.2 (KGood.wp hc (k (c i j)) Q (h.2 _) q)
def PmN(N:Nat)(p:Array Nat):Prop:=p.toList.Perm (List.range N)
section
variable{N:Nat}{p:Array Nat}
theorem PmN.lt(h:PmN N p)(h0:0<N)(i:Nat):p.getD i 0<N:=by
 by_cases hi:i<p.size
 ·have e:p.getD i 0=p[i]:=by simp[Array.getD,hi]
  have hm:p[i]∈p.toList:=Array.mem_toList_iff.mpr (Array.getElem_mem hi)
  rw[e]
  exact zzR.mp (h.mem_iff.mp hm)
 ·have e:p.getD i 0=0:=by simp[Array.getD,hi]
  rw[e]
  exact h0
theorem PmN.rev(h:PmN N p)(i j:Nat):PmN N (kas_rev p i j):=(Array.perm_iff_toList_perm.mp (mirror_perm _ _ _ _)).trans h
theorem PmN.bub(h:PmN N p)(i j:Nat):PmN N (bubble p i j):=(Array.perm_iff_toList_perm.mp (bubble_perm _ _ _)).trans h
theorem pS(h0:0<N)(h:PmN N p):∀(f n:Nat),KGood N (fun _=>True) (kas_asc p f n)
 |0,n=>trivial
 |f+1,n=>⟨⟨h.lt h0 _,h.lt h0 _⟩,fun b=>by
  dsimp only
  split
  ·trivial
  ·exact pS h0 h f (n+1)⟩
theorem jC(h0:0<N):∀(f:Nat) (p:Array Nat) (n q:Nat),PmN N p->KGood N (fun r=>PmN N r.1) (kas_desc f p n q)
 |0,p,n,q,h=>h
 |f+1,p,n,q,h=>⟨⟨h.lt h0 _,h.lt h0 _⟩,fun b=>by
  dsimp only
  split
  ·split
   ·exact jC h0 f _ _ _ (h.rev _ _)
   ·exact jC h0 f _ _ _ h
  ·refine⟨⟨h.lt h0 _,h.lt h0 _⟩,fun d=>?_⟩
   dsimp only
   split
   ·exact h
   ·exact jC h0 f _ _ _ h⟩
theorem oP(h0:0<N)(h:PmN N p)(n m:Nat):KGood N (fun r=>PmN N r.2) (kas_tail3 n m p):=by
 unfold kas_tail3
 refine KGood.bind (N:=N) (P:=fun _=>True) (R:=fun(r:Nat×Array Nat)=>PmN N r.2) ?_ _ (pS h0 (h.rev 0 n) _ _)
 intro m _
 exact h.rev 0 n
theorem jD(h0:0<N)(h:PmN N p)(n m:Nat):KGood N (fun r=>PmN N r.2) (kas_descPart n m p):=KGood.bind (fun r hr=>by
 split
 ·exact oP h0 (hr.rev _ _) _ _
 ·exact oP h0 hr _ _) _ (jC h0 _ _ _ _ h)
theorem oQ(h0:0<N)(h:PmN N p)(m:Nat):KGood N (fun r=>PmN N r.2) (kas_count m p):=KGood.bind (fun n _=>by
 split
 ·exact h
 ·split
  ·refine⟨⟨h.lt h0 _,h.lt h0 _⟩,fun b=>?_⟩
   dsimp only
   split
   ·exact h
   ·exact jD h0 (h.rev _ _) _ _
  ·exact jD h0 h _ _) _ (pS h0 h _ _)
theorem kx(h0:0<N)(h:PmN N p)(k:Nat):∀(f l r:Nat),KGood N (fun _=>True) (kas_place p k f l r)
 |0,l,r=>trivial
 |f+1,l,r=>by
  unfold kas_place
  split
  ·trivial
  ·refine⟨⟨h.lt h0 _,h.lt h0 _⟩,fun b=>?_⟩
   dsimp only
   split
   ·exact kx h0 h k f _ _
   ·exact kx h0 h k f _ _
theorem vc(h0:0<N):∀(f:Nat) (p:Array Nat) (k:Nat),PmN N p->KGood N (PmN N) (kas_bin f p k)
 |0,p,k,h=>h
 |f+1,p,k,h=>KGood.bind (fun l _=>vc h0 f _ _ (h.bub _ _)) _ (kx h0 h k _ _ _)
theorem eZ(h0:0<N):KGood N (PmN N) (kas_sort N):=by
 have hp:PmN N (List.toArray (List.range N)):=by unfold PmN;rw[zyz]
 exact KGood.bind (fun r hr=>by
  split
  ·exact vc h0 _ _ _ hr
  ·exact hr) _ (oQ h0 hp N)
end
def lexI:List Key->List Key->Bool
 |[],[]=>false
 |[],_::_=>true
 |_::_,[]=>false
 |.inl a::r,.inl b::r'=>if a=b then lexI r r' else decide (a<b)
 |_,_=>false
def srtK(ks:List (List Key)):List (List Key):=if ks.length<2 then ks else(kRun (fun i j=>lexI (ks.getD i []) (ks.getD j [])) (kas_sort ks.length)).toList.map fun i=>ks.getD i []
theorem rD{α:Type}{xs:List α}{d:α}{is:List Nat}(h:is.Perm (List.range xs.length)):(is.map fun i=>xs.getD i d).Perm xs:=by
 refine(h.map _).trans ?_
 have:(List.range xs.length).map (fun i=>xs.getD i d)=xs:=by
  apply List.ext_getElem
  ·simp
  ·intro i h1 h2
   simp[h2]
 rw[this]
theorem yh(ks:List (List Key)):(srtK ks).Perm ks:=by
 unfold srtK
 split
 ·exact List.Perm.refl _
 ·exact rD (KGood.end _ _ (eZ (by omega)))
def isI(k:Key)(u:Value):Prop:=∃i t,k=.inl i/\u=Value.int i t
def TupI(h:Heap)(k:List Key)(v:Value):Prop:=∃a o xs n,v=.ref a/\h.get? a=some o/\o.cls=.type "tuple" /\ o.data=.seq xs n/\Paired isI k xs.toList
theorem ky{α β:Type}{R:α->β->Prop}{xs:List α}{ys:List β}(h:Paired R xs ys):xs.length=ys.length:=by
 induction h with
 |nil=>rfl
 |cons _ _ ih=>simp[ih]
section
variable{prog:Program}{w:World}{A:Around}{E:Value->Shared->Prop}{s:Shared}{b fin:Bool}{Q:Bool->Shared->Prop}
theorem Ft(o:Bool){x y:Int}{t u:Tok}{Q:Bool->Shared->Prop}(h:Q (decide (x<y)) s):wpAny (model prog w) A (oneLt' o (.int x t) (.int y u)) Q E s:=by
 cases o with
 |true=>exact oneLt_int h
 |false=>exact kat_one _ _ (wpAny_lt_int h)
theorem vd:∀{k1 k2:List Key}{xs ys:List Value} (i:Nat),Paired isI k1 xs->Paired isI k2 ys->fin=decide (xs.length<ys.length)->Q (lexI k1 k2) s->KatLex prog w A b fin Q (xs.zip ys) i s
 |_,_,_,_,i,.nil,.nil,e,q=>by
  subst e
  exact q
 |_,_,_,_,i,.nil,.cons _ _,e,q=>by
  subst e
  exact q
 |_,_,_,_,i,.cons _ _,.nil,e,q=>by
  subst e
  exact q
 |_,_,_,_,i,.cons h1 r1,.cons h2 r2,e,q=>by
  obtain⟨x,t,rfl,rfl⟩:=h1
  obtain⟨y,u,rfl,rfl⟩:=h2
  refine kat_cons (wpAny_eqBool_int ?_)
  by_cases z:x=y
  ·subst z
   have e1:(x == x)=true:=by simp
   rw[e1]
   refine kat_yes (vd (i+1) r1 r2 (by rw[e];simp) ?_)
   simpa[lexI]using q
  ·have e1:(x == y)=false:=by simpa using z
   rw[e1]
   refine kat_no (Ft _ ?_)
   simpa[lexI,z]using q
theorem CL{k1 k2:List Key}{v1 v2:Value}(h1:TupI s.heap k1 v1)(h2:TupI s.heap k2 v2)(q:Q (lexI k1 k2) s):wpAny (model prog w) A (keyLt' (tuples' b) v1 v2) Q E s:=by
 obtain⟨x,ox,xs,n,rfl,hx,_,dx,px⟩:=h1
 obtain⟨y,oy,ys,m,rfl,hy,_,dy,py⟩:=h2
 exact kat_lt hx dx hy dy (vd 0 px py (by simp) q)
end
def RawD(d:Addr)(es:Array DictEntry)(ep:Nat)(h:Heap):Prop:=∃o,h.get? d=some o/\o.ExactDict/\o.data=.dict es ep
theorem RawD.type{d:Addr}{es:Array DictEntry}{ep:Nat}{s:Shared}(h:RawD d es ep s.heap):s.TypeIs (.ref d) "dict":=let ⟨o,e,x,_⟩:=h;⟨o,e,x.1⟩
theorem RawD.keep{d:Addr}{es:Array DictEntry}{ep:Nat}{h h':Heap}(r:RawD d es ep h)(k:∀o,h.get? d=some o->h'.get? d=some o):RawD d es ep h':=let ⟨o,e,x⟩:=r;⟨o,k o e,x⟩
section
variable{prog:Program}{w:World}{A:Around}{E:Value->Shared->Prop}{s:Shared}{d it:Addr}{es:Array DictEntry}{ep i:Nat}
theorem ve{Q:Value->Shared->Prop}(lo:(d == sysModules)=false)(r:RawD d es ep s.heap)
  (q:Q (.ref s.heap.objs.size) { s with heap:=s.heap.push { cls:=.type "dict_keyiterator",data:=.fields #[.ref d,.int 0 0,.int es.size 0,.int ep 0] } }):wpAny (model prog w) A (pyIter (.ref d)) Q E s:=by
 have ty:=r.type
 obtain⟨o,g1,_,g2⟩:=r
 refine wpAny_pyIter_slot ty F.slot_dict_iter (wpAny_call_entry F.slot_dict_iter ty F.entry_dict_iter ?_ (F.args_dict_iter_1 _))
 unfold Builtin.«dict.__iter__» Builtin.Dict.dictSlotNone
 refine wpAny_bind (wpAny_bind (wpAny_notOrdered_dict ty (wpAny_pure ?_)))
 unfold Builtin.Dict.showsAll
 show wpAny _ _ ((if (d == sysModules)=true then unsupported "sys.modules:all-start-up-values-wanted" else pure ()) >>= _) _ _ s
 rw[if_neg (by rw[lo];exact zzo)]
 refine wpAny_bind (wpAny_pure (wpAny_bind (wpAny_dictEntries g1 g2 (wpAny_bind (wpAny_dictEpoch g1 g2 ?_)))))
 exact wpAny_bind (wpAny_newObj_type (wpAny_pure ⟨_,rfl,"dict_keyiterator",_,⟨_,zzn _ rfl,rfl⟩,F.slot_dict_keyiterator_next.lookup,q⟩))
theorem vf{n:Nat}{Q:Option Value->Shared->Prop}(hi:i<es.size)(en:es.size=n)(g:s.heap.IsKeyIter it d i n ep)(r:RawD d es ep s.heap)
  (q:∀h',h'.IsKeyIter it d (i+1) n ep->Heap.SameBut it s.heap h'->Q (some es[i].key) { s with heap:=h' }):wpAny (model prog w) A (pyNext (.ref it)) Q E s:=by
 subst en
 have ty:=g.typeIs
 obtain⟨o,g1,g2,g3⟩:=g
 obtain⟨od,r1,_,r2⟩:=r
 unfold pyNext
 refine wpAny_bind (wpAny_attempt (wpAny_callSpecial?_slot (name:=Str.ofString "__next__") ty F.slot_dict_keyiterator_next (wpAny_call_entry F.slot_dict_keyiterator_next ty F.entry_dict_keyiterator_next ?_ (F.args_dict_keyiterator_next_1 _))))
 refine wpAny_bind (wpAny_pure (wpAny_bind (wpAny_bind (wpAny_bind (wpAny_typeNameOfWhole_keyiter ty (wpAny_pure (wpAny_bind (wpAny_fieldsOf g1 g3 ?_))))))))
 simp only[show Builtin.Dict_items.ownsTuple "dict_keyiterator" = false by decide,zyr,if_false]
 show wpAny _ _ (if (Value.ref d == Value.none)=true then _ else _) _ _ s
 rw[if_neg (show ¬((Value.ref d == Value.none)=true) from zzo)]
 refine wpAny_bind (wpAny_pure (wpAny_bind (wpAny_dictEntries r1 r2 ?_)))
 rw[if_neg (by simp)]
 refine wpAny_bind (wpAny_pure (wpAny_bind (wpAny_dictEpoch r1 r2 ?_)))
 rw[if_neg (by simp)]
 refine wpAny_pure ?_
 simp only[show ¬((i:Int)<0) from by omega,if_false,zzY,zyJ hi]
 refine wpAny_bind (wpAny_bind (wpAny_typeNameOfWhole_keyiter ty (wpAny_pure (wpAny_bind (wpAny_isOneOf_keyiter ty ?_)))))
 show wpAny _ _ (setField (.ref it) 1 (rawInt ((i:Int)+1)) >>= _) _ _ s
 refine wpAny_bind (wpAny_setField g1 g3 (by simp) ?_)
 have g':(s.heap.update it (Obj.mapFields (·.setIfInBounds 1 (rawInt ((i:Int)+1))))).IsKeyIter it d (i+1) es.size ep :=
  ⟨_,zyv _ g1 (Obj.isFreed_of_fields (Obj.data_mapFields g3 _)),(Obj.cls_mapFields ..).trans g2,by rw[Obj.data_mapFields g3];simp[rawInt]⟩
 refine wpAny_bind (wpAny_holding (wpAny_bind (wpAny_isOneOf_keyiter (s:={ s with heap:=s.heap.update it (Obj.mapFields (·.setIfInBounds 1 (rawInt ((i:Int)+1)))) }) g'.typeIs ?_)))
 show wpAny _ _ (pure es[i].key) _ _ _
 exact wpAny_pure (wpAny_pure ⟨_,rfl,wpAny_pure (q _ g' (zzX ..))⟩)
theorem yi{n:Nat}{Q:Option Value->Shared->Prop}(hh:A.handled=none)(hi:es.size <= i)(en:es.size=n)(g:s.heap.IsKeyIter it d i n ep)(r:RawD d es ep s.heap)
  (q:∀h',Heap.ExtBut it s.heap h'->Q none { s with heap:=h' }):wpAny (model prog w) A (pyNext (.ref it)) Q E s:=by
 subst en
 have ty:=g.typeIs
 obtain⟨o,g1,g2,g3⟩:=g
 obtain⟨od,r1,_,r2⟩:=r
 unfold pyNext
 refine wpAny_bind (wpAny_attempt (wpAny_callSpecial?_slot (name:=Str.ofString "__next__") ty F.slot_dict_keyiterator_next (wpAny_call_entry F.slot_dict_keyiterator_next ty F.entry_dict_keyiterator_next ?_ (F.args_dict_keyiterator_next_1 _))))
 refine wpAny_bind (wpAny_pure (wpAny_bind (wpAny_bind (wpAny_bind (wpAny_typeNameOfWhole_keyiter ty (wpAny_pure (wpAny_bind (wpAny_fieldsOf g1 g3 ?_))))))))
 simp only[show Builtin.Dict_items.ownsTuple "dict_keyiterator" = false by decide,zyr,if_false]
 show wpAny _ _ (if (Value.ref d == Value.none)=true then _ else _) _ _ s
 rw[if_neg (show ¬((Value.ref d == Value.none)=true) from zzo)]
 refine wpAny_bind (wpAny_pure (wpAny_bind (wpAny_dictEntries r1 r2 ?_)))
 rw[if_neg (by simp)]
 refine wpAny_bind (wpAny_pure (wpAny_bind (wpAny_dictEpoch r1 r2 ?_)))
 rw[if_neg (by simp)]
 refine wpAny_pure ?_
 simp only[show ¬((i:Int)<0) from by omega,if_false,zzY,zyQ hi]
 refine wpAny_bind (wpAny_bind (wpAny_typeNameOfWhole_keyiter ty (wpAny_pure ?_)))
 show wpAny _ _ (setField (.ref it) 0 .none >>= _) _ _ s
 refine wpAny_bind (wpAny_setField g1 g3 (by simp) ?_)
 show wpAny _ _ (newExc (.type "StopIteration") [] >>= _) _ _ _
 refine wpAny_bind ?_
 simp only[newExc,newTuple]
 refine wpAny_bind (wpAny_newObj_type ?_ (by size_fits))
 refine wpAny_bind (m:=firstArgMember _ _) (wpAny_of_eq (a:=Value.none) (by first|rfl | (simp only[firstArgMember];rfl)) ?_)
 refine wpAny_newObj_type ?_ (by size_fits)
 simp only[raiseNew]
 refine wpAny_bind (wpAny_handled ?_)
 rw[show A.in1.handled=none from hh]
 refine wpAny_bind (wpAny_pure (wpAny_throw ?_))
 refine wpAny_bind (wpAny_isInstance (T:="StopIteration") (b:=true) ⟨_,zzn _ rfl,rfl⟩ isSubtype_stop ?_)
 exact wpAny_pure (q _ (((zzX ..).extBut.push _).push _))
theorem CM(lo:(d == sysModules)=false)(es:Array DictEntry)(ep:Nat):KdlSrc prog w "dict" d d es.size (fun i v=>(es[i]?).map (·.key)=some v) (RawD d es ep) where
 type:=fun _ r=>r.type
 there:=fun _ ⟨_,e,_⟩=>⟨zzr e,zzr e⟩
 keep:=fun _ _ r k=>r.keep fun o e=>k d (.inl rfl) o e
 notList:=by decide
 notTuple:=by decide
 hint:=fun _ _ _ _ r q=>kdl_hint_dict r.type q
 iter:=fun A s hh r=>⟨_,fun i h=>h.IsKeyIter s.heap.objs.size d i es.size ep/\RawD d es ep h,(fun _ _ q=>ve lo r q),{
  sub:=fun b hb=>by simp at hb;simp[hb]
  frame:=fun _ _ _ st k=>⟨st.1.at fun o e=>k _ (by simp) o e,st.2.keep fun o e=>k d (by simp) o e⟩
  item:=fun i s' Q E hi st q=>vf hi rfl st.1 st.2 fun h' g' sb=>by
   have ne:d≠s.heap.objs.size:=by
    obtain⟨_,e,_⟩:=r
    exact zzJ (zzr e)
   refine q es[i].key h' s'.toks (by simp[hi]) ⟨g',st.2.keep fun o e=>(sb.2 d ne).trans e⟩ fun b o hb e=>?_
   have hb:b≠s.heap.objs.size:=by simpa using hb
   exact(sb.2 b hb).trans e
  done:=fun s' Q E st q=>yi hh (zzh _) rfl st.1 st.2 fun h' eb=>q h' s'.toks fun b o hb e=>eb b o (by simpa using hb) e
  self:=fun _ _ _ _ st q=>wpAny_pyIter_keyiter st.1 q },⟨⟨_,zzn _ rfl,rfl,rfl⟩,r.keep fun o e=>zzf _ e⟩⟩
end
section
variable{prog:Program}{w:World}{A:Around}{E:Value->Shared->Prop}{s:Shared}
theorem TupI.keep{h h':Heap}{k:List Key}{v:Value}{a:Addr}{xs:Array Value}{n:Nat}(t:TupI h k v)(ha:h.get? a=some (seqObj "list" xs n))(kp:∀b o,b≠a->h.get? b=some o->h'.get? b=some o):TupI h' k v:=by
 obtain⟨b,o,ys,m,rfl,e,c,d,p⟩:=t
 refine⟨b,o,ys,m,rfl,kp b o ?_ e,c,d,p⟩
 rintro rfl
 rw[ha]at e
 cases e
 simp[seqObj]at c
theorem iG{α β:Type}{R S:α->β->Prop}{xs:List α}{ys:List β}(h:Paired R xs ys)(f:∀a b,R a b->S a b):Paired S xs ys:=by
 induction h with
 |nil=>exact .nil
 |cons h _ ih=>exact .cons (f _ _ h) ih
theorem kA{α β:Type}{R:α->β->Prop}{d:α}{e:β}{xs:List α}{ys:List β}(h:Paired R xs ys):∀i,i<xs.length->R (xs.getD i d) (ys.getD i e):=by
 induction h with
 |nil=>intro i hi;simp at hi
 |cons h _ ih =>
  intro i hi
  cases i with
  |zero=>simpa using h
  |succ i=>simpa using ih i (by simpa using hi)
theorem mY{α β:Type}{R:α->β->Prop}{d:α}{e:β}{xs:List α}{ys:List β}(h:Paired R xs ys):∀(is:List Nat),(∀i∈is,i<xs.length)->Paired R (is.map fun i=>xs.getD i d) (is.map fun i=>ys.getD i e)
 |[],_=>.nil
 |i::is,hi=>.cons (kA h i (hi i zzd)) (mY h is fun j hj=>hi j (zzb _ hj))
theorem Bq{h:Heap}:∀{ks:List (List Key)}{vs:List Value},Paired (TupI h) ks vs->(∀k∈ks,k≠[])->∃fs,KatTups h vs fs/\fs.length=vs.length/\∀v∈fs,∃i t,v=Value.int i t
 |_,_,.nil,_=>⟨[],.nil,rfl,fun v hv=>by simp at hv⟩
 |k::ks,v::vs,.cons h1 r,ne=>by
  obtain⟨fs,h2,h3,h4⟩:=Bq r fun k hk=>ne k (zzb _ hk)
  obtain⟨a,o,xs,n,rfl,e,c,d,p⟩:=h1
  have hk:=ne k zzd
  generalize hxs:xs.toList=l at p
  cases p with
  |nil=>exact absurd rfl hk
  |@cons x u ks' us hx hr =>
   obtain⟨i,t,rfl,rfl⟩:=hx
   refine⟨Value.int i t::fs,.cons e c d ?_ h2,by simp[h3],fun v hv=>?_⟩
   ·rw[←zyw,hxs]
    rfl
   ·rcases zzj.mp hv with rfl|hv
    ·exact⟨i,t,rfl⟩
    ·exact h4 v hv
theorem yj{a:Addr}{vs:List Value}{ks:List (List Key)}{n:Nat}{P:PySem.Fin->Shared->Prop}(ho:s.heap.get? a=some (seqObj "list" vs.toArray n))(hp:Paired (TupI s.heap) ks vs)(hne:2 <= ks.length->∀k∈ks,k≠[])(h64:vs.length<64)
  (q:∀(h':Heap) (out:List Value) (c:Nat),(∀b o,b≠a->s.heap.get? b=some o->h'.get? b=some o)->h'.get? a=some (seqObj "list" out.toArray c)->(∀R:List Key->Value->Prop,Paired R ks vs->Paired R (srtK ks) out)->P (.done (.ret .none)) { s with heap:=h' }) :
  wpAny (model prog w) A (Builtin.«list.sort» ⟨[.ref a],[]⟩) P E s:=by
 have hl:=ky hp
 have ha:a<s.heap.objs.size:=zzr ho
 have sb:=zzX s.heap a (Obj.mapSeq fun _=>(#[]:Array Value))
 obtain⟨e1,ho1⟩:∃e1,(s.heap.update a (Obj.mapSeq fun _=>(#[]:Array Value))).get? a=some (seqObj "list" #[] e1):=⟨_,get?_update_seq ho fun _=>#[]⟩
 rw[list_sort_plain]
 refine wpAny_bind (listItems_at ho rfl (wpAny_bind (listUpdate_at ho rfl ?_ (by rw[zzs,sizeLine_eq];omega) (zzH _))))
 refine wpAny_bind (seqEpoch_at ho1 rfl (wpAny_bind (wpAny_newTuple ?_ (by show vs.length <= _;rw[sizeLine_eq];omega))))
 refine wpAny_bind (wpAny_newList (wpAny_holding ?_) (zzH _))
 show wpAny (model prog w) A _ P E { s with heap:=((s.heap.update a (Obj.mapSeq fun _=>(#[]:Array Value))).push (seqObj "tuple" vs.toArray 0)).push (seqObj "list" #[] 0) }
 have kp:∀b o,b≠a->s.heap.get? b=some o->(((s.heap.update a (Obj.mapSeq fun _=>(#[]:Array Value))).push (seqObj "tuple" vs.toArray 0)).push (seqObj "list" #[] 0)).get? b=some o:=fun b o hb e =>
  zzf _ (zzf _ ((sb.2 b hb).trans e))
 have ho3:(((s.heap.update a (Obj.mapSeq fun _=>(#[]:Array Value))).push (seqObj "tuple" vs.toArray 0)).push (seqObj "list" #[] 0)).get? a=some (seqObj "list" #[] e1):=zzf _ (zzf _ ho1)
 generalize ((s.heap.update a (Obj.mapSeq fun _=>(#[]:Array Value))).push (seqObj "tuple" vs.toArray 0)).push (seqObj "list" #[] 0)=h3 at kp ho3
 have hp3:Paired (TupI h3) ks vs:=iG hp fun k v t=>t.keep ho kp
 dsimp only
 have fin:∀(st:SortSt) (out:List Value),(arrOf st).map (·.2)=out.toArray->failedOf st=none->out.length<64->(∀R:List Key->Value->Prop,Paired R ks vs->Paired R (srtK ks) out) ->
   wpAny (model prog w) A (do
    let touched:=(←seqEpoch a) != e1
    Builtin.List.listUpdate (.ref a) fun _=>(arrOf st).map (·.2)
    if let some e:=failedOf st then rule "list.sort.comparison-raised";throw e
    if touched then rule "list.sort.modified";raiseError "ValueError" "list modified during sort"
    ret .none) P E { s with heap:=h3 }:=by
  intro st out e f hz hR
  rw[e,f]
  refine wpAny_bind (seqEpoch_at ho3 rfl ?_)
  refine wpAny_bind (listUpdate_at ho3 rfl ?_ (zzH _) (by show out.toArray.size <= _;rw[zzs,sizeLine_eq];omega))
  simp only[bne_self_eq_false,zyr,if_false]
  refine wpAny_pure (q _ out _ (fun b o hb e=>?_) (get?_update_seq ho3 fun _=>out.toArray) hR)
  exact((zzX h3 a (Obj.mapSeq fun _=>out.toArray)).2 b hb).trans (kp b o hb e)
 by_cases h2:vs.length<2
 ·have hz:vs.toArray.size<2:=by rw[zzs];exact h2
  rw[if_pos hz,if_pos hz]
  refine wpAny_bind (wpAny_pure (wpAny_bind (wpAny_pure ?_)))
  refine fin _ vs ?_ rfl h64 fun R hR=>?_
  ·show (vs.toArray.zip vs.toArray).map (·.2)=vs.toArray
   apply Array.toList_inj.mp
   simp[List.map_snd_zip]
  ·unfold srtK
   rw[if_pos (by omega)]
   exact hR
 ·have hz:¬vs.toArray.size<2:=by rw[zzs];exact h2
  rw[if_neg hz,if_neg hz]
  obtain⟨fs,t1,t2,t3⟩:=Bq hp3 (hne (by omega))
  refine wpAny_bind (kat_kind (s:={ s with heap:=h3 }) (T:=.type "int") t1 (by omega) (fun v hv=>?_) (by decide) ?_)
  ·obtain⟨i,t,rfl⟩:=t3 v hv
   exact Looks.of_pure rfl
  ·refine wpAny_bind (wpAny_mono (kat_run (Q:=fun st' s'=>s'={ s with heap:=h3 }/\(arrOf st').map (·.2)=List.toArray ((kRun (fun i j=>lexI (ks.getD i []) (ks.getD j [])) (kas_sort ks.length)).toList.map fun i=>vs.getD i Value.none)/\failedOf st'=none) (G:=fun p s'=>s'={ s with heap:=h3 }/\p=kRun (fun i j=>lexI (ks.getD i []) (ks.getD j [])) (kas_sort ks.length)) rfl (by omega) h64 (fun p st' s' a1 a2 a3 a4=>?_) ?_) (fun r s' hq=>?_) fun _ _ x=>x)
   ·obtain⟨rfl,rfl⟩:=a4
    exact⟨rfl,kat_snds rfl a2,a3⟩
   ·rw[←hl]
    refine KGood.wp (N:=ks.length) (P:=PmN ks.length) (fun i j C hi hj hC=>?_) _ _ (eZ (by omega)) ⟨rfl,rfl⟩
    show wpAny (model prog w) A (keyLt' _ (vs.getD i Value.none) (vs.getD j Value.none)) C (fun _ _=>False) _
    exact CL (s:={ s with heap:=h3 }) (kA hp3 i hi) (kA hp3 j hj) hC
   ·obtain⟨⟨⟩,st'⟩:=r
    obtain⟨rfl,e,f⟩:=hq
    refine fin st' _ e f ?_ fun R hR=>?_
    ·have:=(KGood.end (fun i j=>lexI (ks.getD i []) (ks.getD j [])) _ (eZ (N:=ks.length) (by omega))).length_eq
     rw[zyc]at this
     rw[zza,this,hl]
     exact h64
    ·unfold srtK
     rw[if_neg (by omega)]
     refine mY hR _ fun i hi=>?_
     have:=KGood.end (fun i j=>lexI (ks.getD i []) (ks.getD j [])) _ (eZ (N:=ks.length) (by omega))
     exact zzR.mp (this.mem_iff.mp hi)
end
section
variable{X:Cx}
def CN(H:Hp)(k:List Key)(v:V):Prop:=∃b,v=.ref b/\H b=some (.tup (k.map kV))
def wm(k:List Key):Prop:=∀x∈k,∃i:Int,x=.inl i
theorem vg:∀{k:List Key}{us:List Value},wm k->Vals (k.map kV) us->Paired isI k us
 |[],us,_,h=>by cases h;exact .nil
 |x::k,us,hi,h=>by
  obtain⟨i,rfl⟩:=hi _ zzd
  rw[zzc]at h
  cases h with
  |cons h1 h2 =>
   obtain⟨t,rfl⟩:=(show ∃t,_=Value.int i t from h1)
   exact .cons ⟨i,t,rfl,rfl⟩ (vg (fun y hy=>hi y (zzb _ hy)) h2)
theorem Inv.tupI{pins:List (Addr×Obj)}{σ:St}{H:Hp}{s:Shared}{k:List Key}{b:Addr}(I:Inv X pins σ H s)(hi:wm k)(e:H b=some (.tup (k.map kV))):TupI s.heap k (.ref b):=by
 obtain⟨_,its,r,o,h1,h2,n,h3⟩:=(show ObjOk X.prog X.w H s.heap b (.tup (k.map kV)) from I.hok b _ e)
 refine⟨b,o,its.toArray,n,rfl,h1,?_,h3,?_⟩
 ·exact h2
 ·rw[zyz]
  exact vg hi r
theorem yk{H:Hp}:∀{ks:List (List Key)}{out:List Value},Paired (fun k v=>∃b,v=Value.ref b/\H b=some (.tup (k.map kV))) ks out->∃bs,Paired (CN H) ks bs/\Vals bs out
 |_,_,.nil=>⟨[],.nil,.nil⟩
 |_,_,.cons h r=>by
  obtain⟨b,rfl,e⟩:=h
  obtain⟨bs,h1,h2⟩:=yk r
  exact⟨.ref b::bs,.cons ⟨b,rfl,e⟩ h1,.cons rfl h2⟩
theorem CO{H:Hp}{kvs:List (List Key×V)}{xs:List (List Key×Addr×Value)}(r:KT H kvs xs):Paired (fun k v=>∃b,v=Value.ref b/\H b=some (.tup (k.map kV))) (kvs.map (·.1)) (xs.map fun x=>Value.ref x.2.1):=by
 induction r with
 |nil=>exact .nil
 |@cons p q ps qs h t ih=>exact .cons ⟨q.2.1,rfl,h.2.1⟩ ih
theorem wn{α β:Type}{R:α->β->Prop}{xs:List α}{ys:List β}(h:Paired R xs ys):Paired (fun a b=>a∈xs/\R a b) xs ys:=by
 induction h with
 |nil=>exact .nil
 |cons h _ ih=>exact .cons ⟨zzd,h⟩ (iG ih fun a b z=>⟨zzb _ z.1,z.2⟩)
theorem wo(hc:X.calm=true):eV X (.builtin "sorted") (fun xs H Q=>∃a kvs,xs=[.ref a]/\Rd H a (.dT kvs)/\(∀k∈kvs.map (·.1),wm k)/\(2 <= kvs.length->∀k∈kvs.map (·.1),k≠[])/\kvs.length<64 /\
  ∀l bs,H l=none->Paired (CN H) (srtK (kvs.map (·.1))) bs->Q (.ref l) (upd H l (.lst bs))):=by
 intro pins s σ H xs us Q I r h
 obtain⟨a,kvs,rfl,e,hi,hne,h64,q⟩:=h
 obtain⟨u,rfl,e2⟩:=oq r
 cases e2
 obtain⟨z,lo,xs,rel,o,es,ep,g1,g2,g3,g4,g5,g6⟩:=vY I.hok e
 have hsz:es.size=xs.length:=size_of_entries g4
 have hxl:kvs.length=xs.length:=Paired.length rel
 refine Calls.call_function_entry kind_sorted plain_sorted entry_sorted (args_sorted1 _) ?_
 unfold Builtin.«sorted»
 refine wpAny_bind (m:=checkCount "sorted" 1 1 _) (wpAny_pure ?_)
 refine wpAny_bind (kdu_collect (CM lo es ep) (I.ok.hd hc) ⟨o,g1,g2,g3⟩ (by rw[sizeLine_eq];omega) fun h' tk acc hk hI=>?_)
 have hacc:acc.toList=xs.map fun x=>Value.ref x.2.1:=by
  apply List.ext_getElem?
  intro i
  rw[zyw]
  cases hx:xs[i]? with
  |none =>
   have h1:xs.length <= i:=by simpa using hx
   rw[zzq,hx,zyQ (by rw[hI.1];omega)]
   rfl
  |some x =>
   have h1:i<xs.length:=(zzm.mp hx).1
   obtain⟨v,hv⟩:∃v,acc[i]? = some v:=⟨acc[i]'(by rw[hI.1];omega),by simp[hI.1,hsz,h1]⟩
   have h2:(es[i]?).map (·.key)=some v:=hI.2 i v hv
   rw[entry_at g4 i,hx]at h2
   rw[hv,zzq,hx]
   simpa[entryOfKey]using h2.symm
 rw[hacc]
 have I1:Inv X pins σ H { s with heap:=h',toks:=tk }:=I.kept hk
 refine wpAny_bind (wpAny_newList ?_ (by rw[zza,sizeLine_eq];omega))
 have hoL:(h'.push (seqObj "list" (xs.map fun x=>Value.ref x.2.1).toArray 0)).get? h'.objs.size=some (seqObj "list" (xs.map fun x=>Value.ref x.2.1).toArray 0):=zzn _ rfl
 refine wpAny_bind (wpAny_holding (wpAny_call_entry slot_list_sort ⟨_,hoL,rfl⟩ entry_list_sort ?body (args_list_sort _)))
 case body =>
  have kk:=CO rel
  refine yj (s:={ s with heap:=h'.push (seqObj "list" (xs.map fun x=>Value.ref x.2.1).toArray 0),toks:=tk }) hoL (ks:=kvs.map (·.1)) (iG (wn kk) (S:=TupI _) fun k v z=>?_) (fun h2=>hne (by simpa using h2)) (by rw[zza];omega) fun h4 out c kp ho hR=>?_
  ·obtain⟨hm,b,rfl,hb⟩:=z
   exact((I1.kept (t':=tk) fun b o e=>zzf _ e).tupI (hi k hm) hb)
  ·obtain⟨bs,p1,p2⟩:=yk (hR _ kk)
   have hb:bs.length <= sizeLine:=by
    rw[←ky p1,(yh _).length_eq,zza]
    exact z
   exact⟨_,rfl,wpAny_pure ⟨_,rfl,.ref h'.objs.size,upd H h'.objs.size (.lst bs),I1.laid (o:=.lst bs) (fun b u e=>kp b u (zzJ (zzr e)) (zzf _ e)) (zzh _) ⟨hb,out,c,p2,ho⟩,rfl,q _ bs (I1.hok.fresh (zzh _)) p1⟩⟩
end
end L2
namespace PySem
section
variable{prog:Program}{w:World}{A:Around}{E:Value->Shared->Prop}{s:Shared}
set_option maxRecDepth 100000 in
set_option maxHeartbeats 3200000 in
theorem rE{b:Addr}{its:Array Value}{ks:List Int}{R:Value->Shared->Prop}(calm:A.handled=none)(tp:s.heap.IsTuple b its)(isints:PyProof.Rows.IntsAre its.toList ks)(few:its.size+1<scanBound)
  (q:∀(h2:Heap) (tk:Nat),h2.SetOf (intKind prog w) s.heap.objs.size (fun k=>(PyProof.Rows.firstMet (fun i=>ks.getD i 0) its.size).any (· == k)) (PyProof.Rows.firstMet (fun i=>ks.getD i 0) its.size).length ->
   (∀c o,c<s.heap.objs.size->s.heap.get? c=some o->h2.get? c=some o)->R (.ref s.heap.objs.size) { s with heap:=h2,toks:=tk }):wpAny (model prog w) A (call (.type "set") [.ref b]) R E s:=by
 obtain⟨c,tl,hmro⟩:=F.called_set.mro
 have hmade:=F.called_set.made
 have hsub:=F.called_set.sub
 refine wpAny_call (codeAny_of_tree ?_)
 show wpAny _ _ (callAny (.type "set") _) _ _ _
 refine wpAny_pure ⟨Code.quiet_builtin _ (by decide +kernel),codeAny_builtin F.entry_type_call ?_⟩
 rw[Around.under_plain (weight_type_call_type "set" [.ref b] []) rfl]
 have n1:=F.called_set.notType
 have n2:=F.called_set.canCreate
 have n3:=F.typeCall_set_1 (.ref b)
 repeat (any_goals (first|assumption|wp_step))
 refine codeAny_mono (code_set_new_1 (.ref b) (E:=E) (Q₁:=fun obj z=>∃led:Bool,obj=.ref s.heap.objs.size/\z={ s with heap:=s.heap.push { cls:=.type "set",dict:=none,data:=.set #[] 0 (.fresh 0 0 led) } }) fun led=>⟨led,rfl,rfl⟩) fun r z hr=>?_
 cases r with
 |error e=>exact hr
 |ok fl =>
  cases fl with
  |ret obj =>
   obtain⟨led,rfl,rfl⟩:=hr
   have g1:(s.heap.push { cls:=.type "set",dict:=none,data:=.set #[] 0 (.fresh 0 0 led) }).get? s.heap.objs.size=some { cls:=.type "set",dict:=none,data:=.set #[] 0 (.fresh 0 0 led) }:=zzn _ rfl
   have ty:Shared.TypeIs { s with heap:=s.heap.push { cls:=.type "set",dict:=none,data:=.set #[] 0 (.fresh 0 0 led) } } (.ref s.heap.objs.size) "set":=⟨_,g1,rfl⟩
   have i1:=F.called_set.init.lookup
   have i2:=F.called_set.init.bind (.ref s.heap.objs.size)
   repeat (any_goals (first|assumption|wp_step))
   refine codeAny_mono (codeAny_call_builtin (R:=wants (fun r z=>r=.none/\∃h2 tk,z={ s with heap:=h2,toks:=tk } /\
     h2.SetOf (intKind prog w) s.heap.objs.size (fun k=>(PyProof.Rows.firstMet (fun i=>ks.getD i 0) its.size).any (· == k)) (PyProof.Rows.firstMet (fun i=>ks.getD i 0) its.size).length /\
     (∀c o,c<s.heap.objs.size->s.heap.get? c=some o->h2.get? c=some o)) E) F.called_set.init.plain F.entry_set_init (check_set_init_1 ty ?_)) fun r2 z2 hr2=>?_
   ·have tp1:(s.heap.push { cls:=.type "set",dict:=none,data:=.set #[] 0 (.fresh 0 0 led) }).IsTuple b its:=by
     obtain⟨o,e,x⟩:=tp
     exact⟨o,zzf _ e,x⟩
    have blt:b<s.heap.objs.size:=by
     obtain⟨o,e,x⟩:=tp
     exact zzr e
    obtain⟨o,e,oc,n,od⟩:=id tp1
    obtain⟨ocls,odict,odata,oslots⟩:=o
    simp only at oc od
    subst oc;subst od
    have t1:=F.sub_tuple_set
    have t2:=F.sub_tuple_frozenset
    have t3:(Value.type "tuple" == Value.type "dict")=false:=by decide
    unfold Builtin.«set.__init__» noKeywords Builtin.Frozenset.updateFrom
    generalize hPI:pyIter=PI
    wp_walk
    subst hPI
    refine wpAny_pyIter_tuple tp1 ?_
    refine wpAny_bind (wpAny_runValue ?_)
    have calm3:A.in1.in1.in1.handled=none:=by simp[calm]
    have ne:b≠(s.heap.push { cls:=.type "set",dict:=none,data:=.set #[] 0 (.fresh 0 0 led) }).objs.size:=by
     rw[zyg];exact zzJ (Nat.lt_succ_of_lt blt)
    have off:s.heap.objs.size∉[(s.heap.push { cls:=.type "set",dict:=none,data:=.set #[] 0 (.fresh 0 0 led) }).objs.size,b]:=by
     rw[zyg];simp only[zzj,zzx,zyi,or_false,not_or]
     exact⟨zzJ (Nat.lt_succ_self _),Nat.ne_of_gt blt⟩
    have val:∀(i:Nat) (v:Value),its[i]? = some v->∃t,v=.int ((fun i=>ks.getD i 0) i) t:=fun i v hv=>PyProof.Rows.IntsAre.int_at isints i v (by rw[zyw];exact hv)
    refine PyProof.Rows.codeAny_set_update_loopS ((Walks.tuple calm3 _ b ne its).toS) s.heap.objs.size off (fun i=>ks.getD i 0) val few (its.size - 0) 0 _ (by omega) (zzH _) ⟨⟨_,zzn _ rfl,rfl,rfl⟩,?_⟩ ?s0 ?r0
    ·obtain⟨o,e,x⟩:=tp1
     exact⟨o,zzf _ e,x⟩
    case s0 =>
     have hget:((s.heap.push { cls:=.type "set",dict:=none,data:=.set #[] 0 (.fresh 0 0 led) }).push { cls:=.type "tuple_iterator",data:=.fields #[.ref b,.int 0 0] }).get? s.heap.objs.size
       = some { cls:=.type "set",dict:=none,data:=.set #[] 0 (.fresh 0 0 led) }:=zzf _ g1
     exact PyProof.Rows.SetOf_congr ((PyProof.Rows.setObjOf_fresh (knd:=intKind prog w) led).setOf hget (by unfold scanBound;omega)) (fun _=>rfl) rfl
    case r0 =>
     intro z hm hS
     obtain⟨h2,g',d',tk',os'⟩:=z
     have eg:g'=s.gens:=hm.gens
     have ed:d'=s.drawn:=hm.drawn
     have eo:os'=s.os:=hm.os
     subst eg;subst ed;subst eo
     show wpAny _ _ _ _ _ _
     refine wpAny_pure ?_
     show wpAny _ _ (ret Value.none) _ _ _
     refine wpAny_pure ⟨rfl,h2,tk',rfl,hS,fun c o hc e=>?_⟩
     have hc2:c≠(s.heap.push { cls:=.type "set",dict:=none,data:=.set #[] 0 (.fresh 0 0 led) }).objs.size:=by
      rw[zyg];exact zzJ (Nat.lt_succ_of_lt hc)
     exact hm.heap c o (by simp only[zzj,zzx,zyi,or_false,not_or];exact⟨zzJ hc,hc2⟩) (zzf _ (zzf _ e))
   ·cases r2 with
    |error e=>exact hr2
    |ok fl2 =>
     cases fl2 with
     |ret r =>
      obtain⟨rfl,h2,tk,rfl,hS,hk⟩:=hr2
      repeat (any_goals (first|assumption|wp_step))
      exact q _ _ hS hk
     |_=>exact hr2.elim
  |_=>exact hr.elim
end
end PySem
namespace DL
open PySem PySem.Spec L2
open PyProof.Rows hiding St
variable[TB]
def Fu:HO->Prop
 |.lst _=>True
 |.dT _=>True
 |_=>False
section
variable{K:PySem.W.Frag}{pp:Option Addr}{M:List Addr}{H:Hp}
theorem Mv.writeX{l:Addr}{o u:HO}(hl:H l=some o)(ho:Fu o)(hm:l∈M)(hp:pp≠some l):Mv K pp M H M (upd H l u):=by
 refine⟨fun a zs e=>by rw[ao (jl e hl (by rintro rfl;exact ho))];exact e,fun a zs e n q=>⟨by rw[ao (by rintro rfl;exact n hm)];exact e,n⟩,fun p e h=>?_,fun tb=>tb.upd hl (by rintro(⟨_,rfl⟩|⟨_,_,rfl⟩)<;>exact ho)⟩
 obtain⟨a,ns,t,k,h⟩:=h
 refine⟨a,ns,t,k,?_,?_,h.t0⟩
 ·rw[ao (by rintro rfl;exact hp e)];exact h.lst
 ·rcases h.scr with ⟨o',e⟩|e
  ·refine .inl ⟨o',?_⟩
   rw[ao (jl e hl (by rintro rfl;exact ho))];exact e
  ·exact .inr e
end
def k1D:Key->D
 |.inl i=>.int i
 |.inr x=>.str x
def keyD(k:List Key):D:=.tup (k.map k1D)
theorem pU{K:PySem.W.Frag}{pp:Option Addr}{M:List Addr}{H:Hp}:∀{k:List Key}{xs:List V},Reps K pp M H (k.map k1D) xs->xs=k.map kV
 |[],xs,h=>by simpa only[zyb,Reps]using h
 |.inl i::r,xs,h=>by
  simp only[zzc,k1D,Reps,Rep]at h
  obtain⟨x,t,rfl,rfl,h⟩:=h
  rw[pU h];rfl
 |.inr i::r,xs,h=>by
  simp only[zzc,k1D,Reps,Rep]at h
  obtain⟨x,t,rfl,rfl,h⟩:=h
  rw[pU h];rfl
theorem pV{K:PySem.W.Frag}{pp:Option Addr}{M:List Addr}{H:Hp}:∀(k:List Key),Reps K pp M H (k.map k1D) (k.map kV)
 |[]=>by simp only[zyb,Reps]
 |.inl i::r=>by
  simp only[zzc,k1D,kV,Reps,Rep]
  exact⟨_,_,rfl,rfl,pV r⟩
 |.inr i::r=>by
  simp only[zzc,k1D,kV,Reps,Rep]
  exact⟨_,_,rfl,rfl,pV r⟩
theorem hW{K:PySem.W.Frag}{pp:Option Addr}{M:List Addr}{H:Hp}{k:List Key}{v:V}(h:Rep K pp M H (keyD k) v):∃b,v=.ref b/\H b=some (.tup (k.map kV)):=by
 simp only[keyD,Rep]at h
 obtain⟨b,xs,rfl,hb,h⟩:=h
 rw[pU h]at hb
 exact⟨b,rfl,hb⟩
theorem vh{K:PySem.W.Frag}{pp:Option Addr}{M:List Addr}{H:Hp}{k:List Key}{b:Addr}(h:H b=some (.tup (k.map kV))):Rep K pp M H (keyD k) (.ref b):=by
 simp only[keyD,Rep]
 exact⟨b,_,rfl,h,pV k⟩
section
variable{α β:Type}
def fB(ps:List (List Key×α))(k:List Key):Option α:=(ps.find? fun p=>decide (p.1=k)).map (·.2)
def putA(ps:List (List Key×α))(k:List Key)(x:α):List (List Key×α) :=
 if (ps.any fun p=>decide (p.1=k))=true then ps.map (fun p=>if p.1=k then(p.1,x) else p) else ps++[(k,x)]
abbrev PK(R:α->β->Prop):List (List Key×α)->List (List Key×β)->Prop:=Paired fun p q=>p.1=q.1/\R p.2 q.2
theorem PK.find{R:α->β->Prop}{ps:List (List Key×α)}{qs:List (List Key×β)}(h:PK R ps qs)(k:List Key):(fB ps k=none/\fB qs k=none)∨∃x y,fB ps k=some x/\fB qs k=some y/\R x y:=by
 induction h with
 |nil=>exact .inl ⟨rfl,rfl⟩
 |@cons p q ps qs h _ ih =>
  unfold fB at ih ⊢
  by_cases e:p.1=k
  ·have e':q.1=k:=h.1.symm.trans e
   refine .inr ⟨p.2,q.2,?_,?_,h.2⟩
   ·rw[zzt (by simpa using e)];rfl
   ·rw[zzt (by simpa using e')];rfl
  ·have e':¬q.1=k:=fun z=>e (h.1.trans z)
   rw[zzu (by simpa using e),zzu (by simpa using e')]
   exact ih
theorem PK.any{R:α->β->Prop}{ps:List (List Key×α)}{qs:List (List Key×β)}(h:PK R ps qs)(k:List Key):(ps.any fun p=>decide (p.1=k))=qs.any fun p=>decide (p.1=k):=by
 induction h with
 |nil=>rfl
 |@cons p q ps qs h _ ih=>simp only[List.any_cons,ih,h.1]
theorem PK.put{R:α->β->Prop}{ps:List (List Key×α)}{qs:List (List Key×β)}(h:PK R ps qs)(k:List Key){x:α}{y:β}(r:R x y):PK R (putA ps k x) (putA qs k y):=by
 unfold putA
 rw[h.any k]
 by_cases e:(qs.any fun p=>decide (p.1=k))=true
 ·rw[if_pos e,if_pos e]
  clear e
  induction h with
  |nil=>exact .nil
  |@cons p q ps qs h _ ih =>
   rw[zzc,zzc]
   refine .cons ?_ ih
   by_cases e:p.1=k
   ·rw[if_pos e,if_pos (h.1.symm.trans e)];exact⟨h.1,r⟩
   ·rw[if_neg e,if_neg (fun z=>e (h.1.trans z))];exact h
 ·rw[if_neg e,if_neg e]
  exact Paired.snoc h ⟨rfl,r⟩
theorem PK.keys{R:α->β->Prop}{ps:List (List Key×α)}{qs:List (List Key×β)}(h:PK R ps qs):ps.map (·.1)=qs.map (·.1):=by
 induction h with
 |nil=>rfl
 |cons h _ ih=>simp only[zzc,ih,h.1]
end
theorem jE(kvs:List (List Key×V))(k:List Key):fB kvs k=valV kvs k:=rfl
section
variable{K:PySem.W.Frag}{pp:Option Addr}{M:List Addr}{H:Hp}
theorem Ai:∀{kds:List (List Key×D)}{kvs:List (List Key×V)},kvs.map (·.1)=kds.map (·.1)->Reps K pp M H (kds.map (·.2)) (kvs.map (·.2))->PK (Rep K pp M H) kds kvs
 |[],[],_,_=>.nil
 |[],_::_,h,_=>by simp at h
 |_::_,[],h,_=>by simp at h
 |p::ps,q::qs,h,r=>by
  simp only[zzc,List.cons.injEq]at h
  simp only[zzc,Reps]at r
  obtain⟨x,t,e,r1,r2⟩:=r
  injection e with e1 e2
  subst e1 e2
  exact .cons ⟨h.1.symm,r1⟩ (Ai h.2 r2)
theorem CP{kds:List (List Key×D)}{kvs:List (List Key×V)}(h:PK (Rep K pp M H) kds kvs):Reps K pp M H (kds.map (·.2)) (kvs.map (·.2)):=by
 induction h with
 |nil=>simp only[zyb,Reps]
 |cons h _ ih=>exact .cons h.2 ih
theorem PK.imp{α β:Type}{R S:α->β->Prop}{ps:List (List Key×α)}{qs:List (List Key×β)}(h:PK R ps qs)(f:∀a b,R a b->S a b):PK S ps qs:=by
 induction h with
 |nil=>exact .nil
 |cons h _ ih=>exact .cons ⟨h.1,f _ _ h.2⟩ ih
def dvO(kds:List (List Key×D)):O:=.dct (kds.map (·.1)) (kds.map fun p=>.val p.2)
theorem ro_dv{kds:List (List Key×D)}{v:V}{A:List Addr}:RO K pp M H (dvO kds) v A↔∃a kvs,v=.ref a/\H a=some (.dT kvs)/\A=[a]/\PK (Rep K pp M H) kds kvs:=by
 have vals:∀{kds:List (List Key×D)}{xs:List V}{B:List Addr},ROs K pp M H (kds.map fun p=>O.val p.2) xs B->B=[]/\Reps K pp M H (kds.map (·.2)) xs:=by
  intro kds
  induction kds with
  |nil=>intro xs B h;simp only[zyb,ROs]at h;exact⟨h.2,by simp only[zyb,Reps];exact h.1⟩
  |cons p ps ih =>
   intro xs B h
   simp only[zzc,ROs,RO]at h
   obtain⟨x,r,B1,C,rfl,rfl,⟨rfl,h1⟩,h2⟩:=h
   obtain⟨rfl,h3⟩:=ih h2
   exact⟨rfl,.cons h1 h3⟩
 constructor
 ·intro h
  simp only[dvO,RO]at h
  obtain⟨a,kvs,B,rfl,ha,ek,rfl,r⟩:=h
  obtain⟨rfl,r2⟩:=vals r
  exact⟨a,kvs,rfl,ha,rfl,Ai ek r2⟩
 ·rintro⟨a,kvs,rfl,ha,rfl,r⟩
  simp only[dvO,RO]
  refine⟨a,kvs,[],rfl,ha,r.keys.symm,rfl,?_⟩
  have:=ROs.vals (CP r)
  rw[zzg]at this
  exact this
def dlO(kls:List (List Key×List D)):O:=.dct (kls.map (·.1)) (kls.map fun p=>.lst (p.2.map .val))
def PL(K:PySem.W.Frag)(pp:Option Addr)(M:List Addr)(H:Hp):List (List Key×List D)->List (List Key×V)->List Addr->Prop
 |[],kvs,ls=>kvs=[]/\ls=[]
 |p::ps,kvs,ls=>∃l xs r t,kvs=(p.1,.ref l)::r/\ls=l::t/\H l=some (.lst xs)/\Reps K pp M H p.2 xs/\PL K pp M H ps r t
theorem Aj{ds:List D}{xs:List V}{B:List Addr}(h:ROs K pp M H (ds.map O.val) xs B):B=[]/\Reps K pp M H ds xs:=by
 induction ds generalizing xs B with
 |nil=>simp only[zyb,ROs]at h;exact⟨h.2,by simp only[Reps];exact h.1⟩
 |cons d ds ih =>
  simp only[zzc,ROs,RO]at h
  obtain⟨x,r,B1,C,rfl,rfl,⟨rfl,h1⟩,h2⟩:=h
  obtain⟨rfl,h3⟩:=ih h2
  exact⟨rfl,.cons h1 h3⟩
theorem Fv:∀{kls:List (List Key×List D)}{kvs:List (List Key×V)}{B:List Addr},kvs.map (·.1)=kls.map (·.1)->ROs K pp M H (kls.map fun p=>O.lst (p.2.map .val)) (kvs.map (·.2)) B->PL K pp M H kls kvs B
 |[],[],B,_,h=>by simp only[zyb,ROs]at h;exact⟨rfl,h.2⟩
 |[],_::_,_,h,_=>by simp at h
 |_::_,[],_,h,_=>by simp at h
 |p::ps,q::qs,B,e,h=>by
  simp only[zzc,List.cons.injEq]at e
  simp only[zzc,ROs,RO]at h
  obtain⟨x,r,B1,C,e1,rfl,⟨l,xs,B2,rfl,hl,rfl,h1⟩,h2⟩:=h
  injection e1 with e2 e3
  subst e3
  obtain⟨rfl,h3⟩:=Aj h1
  exact⟨l,xs,qs,C,by rw[←e.1,←e2],rfl,hl,h3,Fv e.2 h2⟩
theorem Fw:∀{kls:List (List Key×List D)}{kvs:List (List Key×V)}{B:List Addr},PL K pp M H kls kvs B->kvs.map (·.1)=kls.map (·.1)/\ROs K pp M H (kls.map fun p=>O.lst (p.2.map .val)) (kvs.map (·.2)) B
 |[],kvs,B,h=>by
  obtain⟨rfl,rfl⟩:=h
  simp only[zyb,ROs]
  exact⟨trivial,trivial,trivial⟩
 |p::ps,kvs,B,h=>by
  obtain⟨l,xs,r,t,rfl,rfl,hl,h1,h2⟩:=h
  obtain⟨e,h3⟩:=Fw h2
  refine⟨by simp only[zzc,e],?_⟩
  simp only[zzc,ROs,RO]
  exact⟨.ref l,_,[l],t,rfl,rfl,⟨l,xs,[],rfl,hl,rfl,ROs.vals h1⟩,h3⟩
theorem ro_dl{kls:List (List Key×List D)}{v:V}{A:List Addr}:RO K pp M H (dlO kls) v A↔∃a kvs ls,v=.ref a/\H a=some (.dT kvs)/\A=a::ls/\PL K pp M H kls kvs ls:=by
 constructor
 ·intro h
  simp only[dlO,RO]at h
  obtain⟨a,kvs,B,rfl,ha,ek,rfl,r⟩:=h
  exact⟨a,kvs,B,rfl,ha,rfl,Fv ek r⟩
 ·rintro⟨a,kvs,ls,rfl,ha,rfl,r⟩
  simp only[dlO,RO]
  obtain⟨e,r⟩:=Fw r
  exact⟨a,kvs,ls,rfl,ha,e,rfl,r⟩
end
variable[Frm]
section
variable{K:PySem.W.Frag}{F:Fx}{M M':List Addr}{H H':Hp}{σ:St}{ρ:DS}{i:Nat}{q q':O}
theorem RSt.objStep(r:RSt K F M H σ ρ)(h:ρ[i]? = some (.obj q))(m:Mv K F.pp M H M' H')
  (k:∀v A,σ[i]? = some (some v)->A.Nodup->RO K F.pp M H q v A->(∀a∈A,a∈M/\F.H0 a=none/\F.pp≠some a)->∃A',A'.Nodup/\RO K F.pp M' H' q' v A'/\(∀b∈A',b∈M'/\F.H0 b=none/\F.pp≠some b/\(b∈A∨b∉M)) /\
   ∀a,a∈M->F.pp≠some a->F.H0 a=none->a∉A->a∈M'/\∀x,H a=some x->NT x->H' a=some x)
  (sub:∀a∈F.M0,a∈M') (same:SameQ K F.pp F.H0 H') (liv:Lv0 F.pp M' H'):RSt K F M' H' σ (ρ.set i (.obj q')):=by
 obtain⟨v,A,ho,nd,hq,hA,hoth⟩:=r.objAt h
 obtain⟨_,_,_,_,ke⟩:=k v A ho nd hq hA
 refine⟨by simp[r.len],fun j s o h1 h2=>?_,r.ow.step m i (fun _ _=>rfl) (fun j e=>zzG (Ne.symm e)) (fun A1 hA1 hB1=>?_),sub,same,r.old,liv,r.lk.cl m⟩
 ·by_cases e:i=j
  ·subst e
   rw[ho]at h2
   rw[aS h1]
   cases h2
   exact⟨v,rfl⟩
  ·rw[zzG e]at h1
   have q':=r.sl j s o h1 h2
   cases s with
   |nil=>trivial
   |val d=>obtain⟨v,e,q⟩:=q';exact⟨v,e,q.mv m⟩
   |pin w d=>obtain⟨v,e,ew,q⟩:=q';exact⟨v,e,ew,q.mv m⟩
   |own es =>
    obtain⟨l',zs,rfl,hm',h0',hp',hl'',hr'⟩:=q'
    have nl:l'∉A:=hoth j _ _ (Ne.symm e) h1 h2 _ ⟨es,rfl⟩ rfl
    obtain⟨k1,k2⟩:=ke l' hm' hp' h0' nl
    exact⟨l',zs,rfl,k1,h0',hp',k2 _ hl'' (by intro _ z;cases z),hr'.mv m⟩
   |obj q=>exact q'
 ·obtain⟨nd1,v1,e1,hq1⟩:=hA1 _ _ h ho
  cases e1
  obtain⟨A',nd',ro,hb,ha⟩:=k v A1 ho nd1 hq1 hB1
  refine⟨A',fun s o e1 e2=>?_,hb,ha⟩
  rw[ho]at e2
  cases e2
  rw[aS e1]
  exact⟨nd',v,rfl,ro⟩
theorem Lv0.upd{pp:Option Addr}{l:Addr}{o:HO}(h:Lv0 pp M H):Lv0 pp M (L2.upd H l o):=by
 refine⟨fun a ha=>?_,fun p e=>?_⟩
 ·by_cases z:a=l
  ·subst z;rw[ak];intro z;cases z
  ·rw[ao z];exact h.m a ha
 ·by_cases z:p=l
  ·subst z;rw[ak];intro z;cases z
  ·rw[ao z];exact h.p p e
theorem RSt.sameW{l:Addr}{o:HO}(r:RSt K F M H σ ρ)(h0:F.H0 l=none)(m:Mv K F.pp M H M' (L2.upd H l o)):SameQ K F.pp F.H0 (L2.upd H l o):=by
 refine⟨fun b o e n=>?_,fun p e h=>m.pen p e (r.same.pen p e h),fun b e=>?_⟩
 ·rw[ao (by rintro rfl;rw[h0]at e;cases e)]
  exact r.same.keep b o e n
 ·by_cases z:b=l
  ·subst z;rw[ak];intro z;cases z
  ·rw[ao z];exact r.same.live b e
end
section
variable{X:Cx}
def Fy:Sl->Prop
 |.obj _=>True
 |_=>False
omit [Frm] in
theorem Ak{s:Sl}(h:Fy s):∃q,s=.obj q:=by
 cases s<;>first|exact⟨_,rfl⟩|exact h.elim
abbrev GX(i:Nat):DTS:=fun E ρ=>E.nx (ρ.set i (.obj (.dct [] [])))
theorem tG{i:Nat}{y:Str}{py dpos pos:Pos}(hN:X.N.Nodup)(hi:X.N[i]? = some y)(hx:Loc X.env.scope y)(hs:swapsWith (.Dict [] [] dpos) (some (.Name y py)) pos.line X.env=pure false:=by rfl)
  (hf:X.fn y=true∨X.env.scope.names.lookup y=some .local:=by first|exact .inl rfl|exact .inr rfl|assumption):PSD X (.Assign [.Name y py] (.Dict [] [] dpos) pos) (GX i):=by
 refine⟨_,jm hN hi hx zU hs hf,fun {F} M H σ ρ E D rs o q p hp=>?_⟩
 have lf:=rs.liv.fresh hp
 obtain⟨m,rs2⟩:=rs.newObj (q:=.dct [] []) (A:=[p]) (v:=.ref p) (.new hp) (by simp) (fun a ha=>by rw[zzx.mp ha];exact⟨hp,lf.2⟩) (by simp only[RO,ROs];exact⟨p,[],[],rfl,ak,rfl,rfl,rfl,rfl⟩) i
 exact o.nx _ _ _ _ m rs2 q
abbrev GY(i:Nat)(tk te:DE):DTS:=fun E ρ=>te ρ fun d ρ1=>Fy (slot ρ1 i)/\tk ρ1 fun dk ρ2=>∃kds k,slot ρ2 i=.obj (dvO kds)/\dk=keyD k/\kds.length<sizeLine/\E.nx (ρ2.set i (.obj (dvO (putA kds k d))))
omit [Frm] in
theorem Fz{α β:Type}{R:α->β->Prop}{ps:List (List Key×α)}{qs:List (List Key×β)}(h:PK R ps qs):ps.length=qs.length:=ky h
theorem CQ{i r:Nat}{o ek e:Expr}{pos' pos:Pos}{tk te:DE}(hr:Room r X.A)(ho:PE X o (tVar i))(hk:PED X ek tk)(he:PED X e te)(hs:swapsWith e (some (.Subscript o ek pos')) pos.line X.env=pure false:=by rfl) :
  PSD X (.Assign [.Subscript o ek pos'] e pos) (GY i tk te):=by
 obtain⟨Tk,pk,rk⟩:=hk.run
 obtain⟨Te,pe,re⟩:=he.run
 refine⟨_,Co (by have:=hr.units;omega) ho pk pe hs,fun {F} M H σ ρ E D rs oo h=>re M H σ ρ _ rs (he.mono _ _ _ (fun d ρ1 h M1 H1 v m1 rs1 r1=>?_) h)⟩
 obtain⟨q0,e0⟩:=Ak h.1
 obtain⟨v0,_,hv0,_⟩:=rs1.objAt (aF e0 (by intro z;cases z))
 refine⟨v0,hv0,rk M1 H1 σ ρ1 _ rs1 (hk.mono _ _ _ (fun dk ρ2 h M2 H2 y m2 rs2 r2=>?_) h.2)⟩
 obtain⟨kds,k,es,rfl,hl,h⟩:=h
 obtain⟨b,rfl,hb⟩:=hW r2
 have g:=aF es (by intro z;cases z)
 obtain⟨v1,A,hv1,nd,hq,hA,_⟩:=rs2.objAt g
 rw[hv0]at hv1
 cases hv1
 obtain⟨a,kvs,rfl,ha,rfl,pk⟩:=ro_dv.mp hq
 obtain⟨am,a0,ap⟩:=hA a (by simp)
 have mw:Mv X.K F.pp M2 H2 M2 (upd H2 a (.dT (putK kvs k v))):=.writeX ha trivial am ap
 refine⟨a,_,rfl,DPut.t ha hb (by rw[←Fz pk];exact hl),oo.nx M2 _ σ _ ((m1.trans m2).trans mw) ?_ h⟩
 refine rs2.objStep g mw (fun v' A' hv' _ hq' hA'=>?_) rs2.sub (rs2.sameW a0 mw) rs2.liv.upd
 rw[hv0]at hv'
 cases hv'
 obtain⟨a',kvs',e,ha',rfl,pk'⟩:=ro_dv.mp hq'
 cases e
 rw[ha]at ha'
 cases ha'
 refine⟨[a],by simp,ro_dv.mpr ⟨a,_,rfl,ak,rfl,(pk'.imp fun x y z=>z.mv mw).put k ((r1.mv m2).mv mw)⟩,fun c hc=>?_,fun c hc _ _ hn=>⟨hc,fun x e _=>?_⟩⟩
 ·rw[zzx.mp hc]
  exact⟨am,a0,ap,.inl (by simp)⟩
 ·rw[ao (by rintro rfl;exact hn (by simp))]
  exact e
def CS:Sl->Prop
 |.obj (.dct _ _)=>True
 |_=>False
omit [Frm] in
theorem vi{s:Sl}(h:CS s):∃ks os,s=.obj (.dct ks os):=by
 cases s with
 |obj q=>cases q with
  |dct ks os=>exact⟨ks,os,rfl⟩
  |_=>exact h.elim
 |_=>exact h.elim
abbrev GZ(i:Nat)(tk te:DE):DE:=fun ρ Q=>CS (slot ρ i)/\tk ρ fun dk ρ1=>te ρ1 fun d ρ2=>∃kds k,slot ρ2 i=.obj (dvO kds)/\dk=keyD k/\Q ((fB kds k).getD d) ρ2
theorem CT{i r:Nat}{o ek e:Expr}{apos cpos:Pos}{tk te:DE}(hr:Room r X.A)(ho:PE X o (tVar i))(hk:PED X ek tk)(he:PED X e te)(m:M2 X o "get" apos ek e cpos:=by exact⟨rfl,rfl,rfl,rfl⟩) :
  PED X (.Call (.Attribute o "get" apos) [ek,e] [] cpos) (GZ i tk te):=by
 obtain⟨Tk,pk,rk⟩:=hk.run
 obtain⟨Te,pe,re⟩:=he.run
 refine⟨fun ρ P P' f h=>⟨h.1,hk.mono _ _ _ (fun dk ρ1 h=>he.mono _ _ _ (fun d ρ2 ⟨kds,k,h1,h2,h3⟩=>⟨kds,k,h1,h2,f _ _ h3⟩) h) h.2⟩,_,uF (by have:=hr.units;omega) ho pk pe m,fun {F} M H σ ρ Q rs h=>?_⟩
 obtain⟨ks,os,e0⟩:=vi h.1
 obtain⟨v0,A0,hv0,_,hq0,_⟩:=rs.objAt (aF e0 (by intro z;cases z))
 simp only[RO]at hq0
 obtain⟨a,kvs0,B,rfl,ha0,_⟩:=hq0
 refine⟨.ref a,hv0,a,rfl,.inr ⟨kvs0,.inl ha0⟩,?_⟩
 refine rk M H σ ρ _ rs (hk.mono _ _ _ (fun dk ρ1 h M1 H1 y m1 rs1 r1=>?_) h.2)
 refine re M1 H1 σ ρ1 _ rs1 (he.mono _ _ _ (fun d ρ2 h M2 H2 z m2 rs2 r2=>?_) h)
 obtain⟨kds,k,es,ek,h9⟩:=h
 subst ek
 obtain⟨b,rfl,hb⟩:=hW (r1.mv m2)
 have g:=aF es (by intro z;cases z)
 obtain⟨v1,A,hv1,nd,hq,hA,_⟩:=rs2.objAt g
 rw[hv0]at hv1
 cases hv1
 obtain⟨a',kvs,e,ha,rfl,pk⟩:=ro_dv.mp hq
 cases e
 refine⟨_,DGet.t ha hb,h9 M2 H2 _ (m1.trans m2) rs2 ?_⟩
 rcases pk.find k with ⟨e1,e2⟩|⟨x,y,e1,e2,rr⟩
 ·rw[jE]at e2
  rw[e1,e2]
  exact r2
 ·rw[jE]at e2
  rw[e1,e2]
  exact rr
def gIxT:D->D->(D->Prop)->Prop:=fun x y P=>∃(kds:List (List Key×D)) (k:List Key) (d:D),x=.dT (kds.map (·.1)) (kds.map (·.2))/\y=keyD k/\fB kds k=some d/\P d
theorem rF{r:Nat}{a b:Expr}{ta tb:DE}{pos:Pos}(hr:Room r X.A)(ha:PED X a ta)(hb:PED X b tb)(hs:NoSl b):PED X (.Subscript a b pos) (dOp gIxT ta tb):=by
 have gm:∀x y P P',(∀d,P d->P' d)->gIxT x y P->gIxT x y P':=fun x y P P' f ⟨kds,k,d,h1,h2,h3,h4⟩=>⟨kds,k,d,h1,h2,h3,f _ h4⟩
 obtain⟨Ta,pa,ra⟩:=ha.run
 obtain⟨Tb,pb,rb⟩:=hb.run
 refine⟨ju gm ha hb,_,Cn (by have:=hr.units;omega) pa pb hs,fun {F} M H σ ρ Q rs h=>?_⟩
 refine ra M H σ ρ _ rs (ha.mono _ _ _ (fun x ρ1 h M1 H1 v m1 rs1 r1=>?_) h)
 refine rb M1 H1 σ ρ1 _ rs1 (hb.mono _ _ _ (fun y ρ2 h M2 H2 u m2 rs2 r2=>?_) h)
 obtain⟨kds,k,d,rfl,rfl,ef,h⟩:=h
 obtain⟨b,rfl,hb⟩:=hW r2
 have r1:=r1.mv m2
 simp only[Rep]at r1
 obtain⟨c,kvs,rfl,_,_,hc,ek,rr⟩:=r1
 rcases (Ai ek rr).find k with ⟨e1,e2⟩|⟨x,y,e1,e2,rxy⟩
 ·rw[ef]at e1;cases e1
 ·rw[ef]at e1
  cases e1
  rw[jE]at e2
  exact⟨c,y,rfl,e2 ▸ .inr ⟨kvs,k,b,hc,rfl,hb,rfl⟩,h M2 H2 y (m1.trans m2) rs2 rxy⟩
def ym:DSp:=fun ds P=>match ds with
 |[.dT ks _]=>((∀k∈ks,wm k)/\(2 <= ks.length->∀k∈ks,k≠[])/\ks.length<64)/\P (.lst ((srtK ks).map keyD))
 |_=>False
omit [Frm] in
theorem yn{K:PySem.W.Frag}{pp:Option Addr}{M:List Addr}{H:Hp}{ks:List (List Key)}{bs:List V}(h:Paired (CN H) ks bs):Reps K pp M H (ks.map keyD) bs:=by
 induction h with
 |nil=>simp only[zyb,Reps]
 |cons h _ ih =>
  obtain⟨b,rfl,hb⟩:=h
  exact .cons (vh hb) ih
theorem pW(hc:X.calm=true:=by rfl):CallD X (.builtin "sorted") ym:=by
 refine⟨fun ds P P' f h=>?_,_,wo hc,fun {pp} M H ds vs Q lv r h=>?_⟩
 ·unfold ym at h ⊢
  split at h
  ·exact⟨h.1,f _ h.2⟩
  ·exact h.elim
 ·unfold ym at h
  split at h
  ·rename_i ks es
   obtain⟨⟨h1,h2,h3⟩,h⟩:=h
   simp only[Reps,Rep]at r
   obtain⟨x,t,rfl,⟨a,kvs,rfl,_,_,ha,rfl,_⟩,rfl⟩:=r
   rw[zza]at h2 h3
   refine⟨a,kvs,rfl,ha,h1,h2,h3,fun l bs hl hp=>h _ _ (.new hl) ?_⟩
   simp only[Rep]
   exact⟨l,bs,rfl,(lv.fresh hl).1,(lv.fresh hl).2,ak,(yn hp).mv (.new hl)⟩
  ·exact h.elim
end
end DL
namespace L2
open PySem PySem.Spec PyProof.Rows
section
variable{X:Cx}
def tH(ns:List Int):Nat:=(firstMet (fun i=>ns.getD i 0) ns.length).length
theorem oR:∀{ns:List Int}{us:List Value},Vals (ns.map V.int) us->IntsAre us ns
 |[],us,h=>by cases h;exact .nil
 |n::r,us,h=>by
  rw[zzc]at h
  cases h with
  |cons h1 h2 =>
   obtain⟨t,rfl⟩:=(show ∃t,_=Value.int n t from h1)
   exact .cons _ _ (oR h2)
theorem yo(hc:X.calm=true):eV X (.type "set") (fun xs H Q=>∃b ns,xs=[.ref b]/\H b=some (.tup (ns.map V.int))/\ns.length <= 1000/\∀l S,H l=none->Q (.ref l) (upd H l (.set S (tH ns)))):=by
 intro pins s σ H xs us Q I r h
 obtain⟨b,ns,rfl,e,hl,q⟩:=h
 obtain⟨u,rfl,e2⟩:=oq r
 cases e2
 obtain⟨_,its,rv,o,h1,h2,n,h3⟩:=(show ObjOk X.prog X.w H s.heap b (.tup (ns.map V.int)) from I.hok b _ e)
 have hlen:its.length=ns.length:=by have:=rv.length;simpa using this.symm
 refine rE (its:=its.toArray) (ks:=ns) (I.ok.hd hc) ⟨o,h1,h2,n,h3⟩ (by rw[zyz];exact oR rv) (by rw[zzs,hlen];unfold scanBound;omega) fun h' tk hS hk=>?_
 have hz:its.toArray.size=ns.length:=by rw[zzs,hlen]
 rw[hz]at hS
 exact⟨.ref s.heap.objs.size,_,I.laid (o:=.set (fun k=>(firstMet (fun i=>ns.getD i 0) ns.length).any (· == k)) (tH ns)) (fun b o e=>hk b o (zzr e) e) (zzh _) hS,rfl,q _ _ (I.hok.fresh (zzh _))⟩
theorem yp:eV X (.builtin "len") (fun xs H Q=>∃p S n,xs=[.ref p]/\H p=some (.set S n)/\Q (.int n) H):=by
 intro pins s σ H xs us Q I r h
 obtain⟨p,S,n,rfl,e,q⟩:=h
 obtain⟨u,rfl,e2⟩:=oq r
 cases e2
 obtain⟨o,es,ep,t,g1,g2,g3,_,_,g4,g5,g6⟩:=(show ObjOk X.prog X.w H s.heap p (.set S n) from I.hok p _ e)
 refine call_len_set g1 g2 g3 g5 (by unfold scanBound at g4;omega) ?_
 rw[g6]
 exact⟨.int n,H,I.tok _,⟨_,rfl⟩,q⟩
theorem tI{ns:List Int}(h:ns.Nodup):tH ns=ns.length:=by
 unfold tH
 have key:∀i,i <= ns.length->(firstMet (fun i=>ns.getD i 0) i).length=i:=by
  intro i
  induction i with
  |zero=>intro _;rfl
  |succ i ih =>
   intro hi
   rw[firstMet_succ,step_length,firstMet_any,if_neg,ih (by omega)]
   intro hz
   obtain⟨x,hx,e⟩:=List.any_eq_true.mp hz
   obtain⟨j,hj,rfl⟩:=zze.mp hx
   have hj:=zzR.mp hj
   have hji:j<ns.length:=by omega
   have e:ns[j]=ns[i]:=by simpa[hji,show i<ns.length by omega]using e
   have:=(List.getElem_inj h).mp e
   omega
 exact key _ (zzh _)
end
end L2
namespace DL
open PySem PySem.Spec L2
open PyProof.Rows hiding St
variable[TB]
variable[Frm]
section
variable{X:Cx}
omit [Frm] in
theorem oS{K:PySem.W.Frag}{pp:Option Addr}{M:List Addr}{H:Hp}:∀{ns:List Int}{xs:List V},Reps K pp M H (ns.map D.int) xs->xs=ns.map V.int
 |[],xs,h=>by simpa only[zyb,Reps]using h
 |n::r,xs,h=>by
  simp only[zzc,Reps,Rep]at h
  obtain⟨x,t,rfl,rfl,h⟩:=h
  rw[oS h];rfl
abbrev CU(te:DE):DE:=fun ρ Q=>te ρ fun d ρ'=>∃ns:List Int,d=.tup (ns.map .int)/\ns.length <= 1000/\Q (.int (tH ns)) ρ'
theorem yq{e:Expr}{te:DE}{p p' pos pos':Pos}(hc:X.calm=true)(hgl:Gl X "len")(hml:X.mg "len" = none)(hgs:Gl X "set")(hms:X.mg "set" = none)(he:PED X e te)
  (h1:starEach [e] X.env=(false,eval e X.env)::starEach [] X.env:=by rfl)
  (h2:starEach [.Call (.Name "set" p') [e] [] pos'] X.env=(false,eval (.Call (.Name "set" p') [e] [] pos') X.env)::starEach [] X.env:=by rfl)
  (hp:(backTo pos (starEach [] X.env)).any (·.1)=false:=by rfl) (hp':(backTo pos' (starEach [] X.env)).any (·.1)=false:=by rfl) :
  PED X (.Call (.Name "len" p) [.Call (.Name "set" p') [e] [] pos'] [] pos) (CU te):=by
 obtain⟨T,pe,re⟩:=he.run
 refine⟨fun ρ P P' f h=>he.mono _ _ _ (fun d ρ1 ⟨ns,e1,e2,h⟩=>⟨ns,e1,e2,f _ _ h⟩) h,_,jn (he:=h2) (hpl:=hp) yp hgl hml zzE (bC (qF (he:=h1) (hpl:=hp') (yo hc) hgs hms rfl (bC pe da h1)) da h2),fun {F} M H σ ρ Q rs h=>?_⟩
 refine re M H σ ρ _ rs (he.mono _ _ _ (fun d ρ1 h M1 H1 v m1 rs1 r1=>?_) h)
 obtain⟨ns,rfl,hl,h9⟩:=h
 simp only[Rep]at r1
 obtain⟨a,xs,rfl,ha,rr⟩:=r1
 rw[oS rr]at ha
 refine⟨a,ns,rfl,ha,hl,fun l S hn=>⟨l,S,tH ns,rfl,ak,h9 M1 _ _ (m1.trans (.new hn)) (rs1.sameP (.new hn)) bM⟩⟩
def Ha(i:Nat)(E:DEnds)(ρ:DS)(d:D):Sl->Prop
 |.own ds=>∃es,d=.lst es/\ds.length+es.length <= sizeLine/\E.nx (ρ.set i (.own (ds++es)))
 |_=>False
abbrev dExt(i:Nat)(te:DE):DTS:=fun E ρ=>xT (slot ρ i)/\te ρ fun d ρ'=>Ha i E ρ' d (slot ρ' i)
theorem Bt{i:Nat}{o e:Expr}{apos cpos pos:Pos}{te:DE}(ho:PE X o (tVar i))(he:PED X e te)
  (hbase:attributeBase o "extend" X.env (eval o X.env)=eval o X.env:=by rfl)
  (hfew:((backTo cpos (starEach [e] X.env)).all (fun x=>!x.1) && (backToKw cpos (keywordEach [] X.env)).all (fun x=>x.1.isSome)
   && decide ([e].length+([]:List Keyword).length+(if ([]:List Keyword).isEmpty then 0 else 1)<30))=true:=by rfl)
  (hline:(apos.endLine == cpos.line)=true:=by rfl) (hst:starEach [e] X.env=(false,eval e X.env)::starEach [] X.env:=by rfl) (hpl:(backTo cpos (starEach [] X.env)).any (·.1)=false:=by rfl)
  (hs:swapsWith (.Call (.Attribute o "extend" apos) [e] [] cpos) none pos.line X.env=pure false:=by rfl):PSD X (.Expr (.Call (.Attribute o "extend" apos) [e] [] cpos) pos) (dExt i te):=by
 have hm:PE X (.Call (.Attribute o "extend" apos) [e] [] cpos) (tBM X.K "list" xx (tVar i) (xm (Classical.choose he.run) tNil)):=qH zyt PySem.F.slot_list_extend PySem.F.type_list_extend xy ho (bC (zzA he.run).1 da hst) hbase hfew hline hst hpl
 obtain⟨_,r⟩:=zzA he.run
 refine⟨_,jY hm hs,fun {F} M H σ ρ E D rs oo h=>?_⟩
 obtain⟨h0,h⟩:=h
 cases q:slot ρ i with
 |nil=>rw[q]at h0;exact h0.elim
 |val d=>rw[q]at h0;exact h0.elim
 |pin w d=>rw[q]at h0;exact h0.elim
 |obj z=>rw[q]at h0;exact h0.elim
 |own ds =>
  obtain⟨oo1,ho1,l,xs,rfl,hm1,h01,hp1,hl1,hr1⟩:=rs.at (aF q (by intro z;cases z))
  refine⟨.ref l,ho1,.inl ⟨rfl,xs,SqL.of hl1⟩,?_⟩
  refine r M H σ ρ _ rs (he.mono _ _ _ (fun d ρ' h M' H' v m rs' rd=>?_) h)
  cases q':slot ρ' i with
  |nil=>rw[q']at h;exact h.elim
  |val d=>rw[q']at h;exact h.elim
  |pin w d=>rw[q']at h;exact h.elim
  |obj z=>rw[q']at h;exact h.elim
  |own ds' =>
   rw[q']at h
   obtain⟨es,rfl,hlen,h9⟩:=h
   have g1:=aF q' (by intro z;cases z)
   obtain⟨l',xs',e',hm',h0',hp',hl',hr'⟩:=rs'.sl i _ _ g1 ho1
   cases e'
   simp only[Rep]at rd
   obtain⟨c,zs,rfl,hc,_,hzs,rz⟩:=rd
   obtain⟨m2,rs2⟩:=rs'.write g1 ho1 (hr'.append rz)
   exact⟨l,c,xs',zs,rfl,rfl,hl',hzs,by rw[←hr'.length,←rz.length];exact hlen,oo.nx M' _ _ _ (m.trans m2) rs2 h9⟩
end
section
variable{K:PySem.W.Frag}{pp:Option Addr}{M M':List Addr}{H H':Hp}
omit [Frm] in
theorem PL.mv(m:Mv K pp M H M' H'):∀{kls:List (List Key×List D)}{kvs:List (List Key×V)}{ls:List Addr},(∀b∈ls,∀o,H b=some o->H' b=some o)->PL K pp M H kls kvs ls->PL K pp M' H' kls kvs ls
 |[],kvs,ls,_,h=>h
 |p::ps,kvs,ls,kp,h=>by
  obtain⟨l,xs,r,t,rfl,rfl,hl,h1,h2⟩:=h
  exact⟨l,xs,r,t,rfl,rfl,kp l zzd _ hl,h1.mv m,PL.mv m (fun b hb=>kp b (zzb _ hb)) h2⟩
omit [Frm] in
theorem PL.snoc{k:List Key}{es:List D}{l:Addr}{xs:List V}(hl:H l=some (.lst xs))(hr:Reps K pp M H es xs):∀{kls:List (List Key×List D)}{kvs:List (List Key×V)}{ls:List Addr},PL K pp M H kls kvs ls->PL K pp M H (kls++[(k,es)]) (kvs++[(k,.ref l)]) (ls++[l])
 |[],kvs,ls,h=>by
  obtain⟨rfl,rfl⟩:=h
  exact⟨l,xs,[],[],rfl,rfl,hl,hr,rfl,rfl⟩
 |p::ps,kvs,ls,h=>by
  obtain⟨l',xs',r,t,rfl,rfl,hl',h1,h2⟩:=h
  exact⟨l',xs',r++[(k,.ref l)],t++[l],rfl,rfl,hl',h1,PL.snoc hl hr h2⟩
def fC(k:List Key)(d:D):List (List Key×List D)->List (List Key×List D)
 |[]=>[(k,[d])]
 |p::r=>if p.1=k then(p.1,p.2++[d])::r else p::fC k d r
omit [Frm] in
theorem PL.add(k:List Key)(d:D):∀{kls:List (List Key×List D)}{kvs:List (List Key×V)}{ls:List Addr},PL K pp M H kls kvs ls->ls.Nodup ->
  (valV kvs k=none/\fC k d kls=kls++[(k,[d])])∨∃l0 xs,valV kvs k=some (.ref l0)/\l0∈ls/\H l0=some (.lst xs)/\(∃p∈kls,p.1=k/\p.2.length=xs.length) /\
   ∀{M':List Addr}{H':Hp}{v:V},Mv K pp M H M' H'->Rep K pp M' H' d v->H' l0=some (.lst (xs++[v]))->(∀b∈ls,b≠l0->∀o,H b=some o->H' b=some o)->PL K pp M' H' (fC k d kls) kvs ls
 |[],kvs,ls,h,_=>by
  obtain⟨rfl,rfl⟩:=h
  exact .inl ⟨rfl,rfl⟩
 |p::ps,kvs,ls,h,nd=>by
  obtain⟨l,xs,r,t,rfl,rfl,hl,h1,h2⟩:=h
  obtain⟨n1,n2⟩:=zzL.mp nd
  by_cases e:p.1=k
  ·refine .inr ⟨l,xs,bV (p:=(p.1,V.ref l)) e,zzd,hl,⟨p,zzd,e,h1.length⟩,fun {M' H' v} m rd hv kp=>?_⟩
   unfold fC
   rw[if_pos e]
   exact⟨l,_,r,t,rfl,rfl,hv,(h1.mv m).append (.one rd),PL.mv m (fun b hb=>kp b (zzb _ hb) (by rintro rfl;exact n1 hb)) h2⟩
  ·rcases PL.add k d h2 n2 with ⟨a1,a2⟩|⟨l0,ys,a1,a2,a3,⟨p',a4,a5⟩,f⟩
   ·refine .inl ⟨by rw[bJ (p:=(p.1,V.ref l)) e];exact a1,?_⟩
    unfold fC
    rw[if_neg e,a2]
    rfl
   ·refine .inr ⟨l0,ys,by rw[bJ (p:=(p.1,V.ref l)) e];exact a1,zzb _ a2,a3,⟨p',zzb _ a4,a5⟩,fun {M' H' v} m rd hv kp=>?_⟩
    unfold fC
    rw[if_neg e]
    exact⟨l,xs,r,t,rfl,rfl,kp l zzd (by rintro rfl;exact n1 a2) _ hl,h1.mv m,f m rd hv fun b hb=>kp b (zzb _ hb)⟩
end
section
variable{X:Cx}
abbrev dSda(i jk ja:Nat):DTS:=fun E ρ=>∃(kls:List (List Key×List D)) (k:List Key) (d:D),slot ρ i=.obj (dlO kls)/\slot ρ jk=.val (keyD k)/\slot ρ ja=.val d/\kls.length<sizeLine/\(∀p∈kls,p.2.length<sizeLine)/\E.nx (ρ.set i (.obj (dlO (fC k d kls))))
omit [Frm] in
theorem PL.len{K:PySem.W.Frag}{pp:Option Addr}{M:List Addr}{H:Hp}:∀{kls:List (List Key×List D)}{kvs:List (List Key×V)}{ls:List Addr},PL K pp M H kls kvs ls->kls.length=kvs.length
 |[],kvs,ls,h=>by rw[h.1];rfl
 |p::ps,kvs,ls,h=>by
  obtain⟨l,xs,r,t,rfl,rfl,hl,h1,h2⟩:=h
  simp[PL.len h2]
theorem FB{i jk ja r:Nat}{o ek ea:Expr}{lp p1 p2 p3 p4 pos:Pos}(hr:Room r X.A)(ho:PE X o (tVar i))(hk:PE X ek (tVar jk))(ha:PE X ea (tVar ja))
  (b1:attributeBase o "setdefault" X.env (eval o X.env)=eval o X.env:=by rfl)
  (f1:((backTo p2 (starEach [ek,.List [] lp] X.env)).all (fun x=>!x.1) && (backToKw p2 (keywordEach [] X.env)).all (fun x=>x.1.isSome)
   && decide ([ek,.List [] lp].length+([]:List Keyword).length+(if ([]:List Keyword).isEmpty then 0 else 1)<30))=true:=by rfl)
  (l1:(p1.endLine == p2.line)=true:=by rfl) (s1:starEach [ek,.List [] lp] X.env=(false,eval ek X.env)::starEach [.List [] lp] X.env:=by rfl) (s1':starEach [.List [] lp] X.env=(false,eval (.List [] lp) X.env)::starEach [] X.env:=by rfl)
  (q1:(backTo p2 (starEach [.List [] lp] X.env)).any (·.1)=false:=by rfl)
  (b2:attributeBase (.Call (.Attribute o "setdefault" p1) [ek,.List [] lp] [] p2) "append" X.env (eval (.Call (.Attribute o "setdefault" p1) [ek,.List [] lp] [] p2) X.env)=eval (.Call (.Attribute o "setdefault" p1) [ek,.List [] lp] [] p2) X.env:=by rfl)
  (f2:((backTo p4 (starEach [ea] X.env)).all (fun x=>!x.1) && (backToKw p4 (keywordEach [] X.env)).all (fun x=>x.1.isSome)
   && decide ([ea].length+([]:List Keyword).length+(if ([]:List Keyword).isEmpty then 0 else 1)<30))=true:=by rfl)
  (l2:(p3.endLine == p4.line)=true:=by rfl) (s2:starEach [ea] X.env=(false,eval ea X.env)::starEach [] X.env:=by rfl) (q2:(backTo p4 (starEach [] X.env)).any (·.1)=false:=by rfl)
  (hs:swapsWith (.Call (.Attribute (.Call (.Attribute o "setdefault" p1) [ek,.List [] lp] [] p2) "append" p3) [ea] [] p4) none pos.line X.env=pure false:=by rfl) :
  PSD X (.Expr (.Call (.Attribute (.Call (.Attribute o "setdefault" p1) [ek,.List [] lp] [] p2) "append" p3) [ea] [] p4) pos) (dSda i jk ja):=by
 have hm:=qH zyt PySem.F.slot_list_append PySem.F.type_list_append jp (qH zyM PySem.F.slot_dict_setdefault PySem.F.type_dict_setdefault (jB (X:=X) (by have:=hr.units;omega)) ho (bC hk (bC (uA (pos:=lp) da) da s1') s1) b1 f1 l1 s1 q1) (bC ha da s2) b2 f2 l2 s2 q2
 refine⟨_,jY hm hs,fun {F} M H σ ρ E D rs oo h=>?_⟩
 obtain⟨kls,k,d,e1,e2,e3,hlen,hlens,h9⟩:=h
 have g1:=aF e1 (by intro z;cases z)
 obtain⟨v0,A,hv0,nd,hq,hA,_⟩:=rs.objAt g1
 obtain⟨a,kvs,ls,rfl,hd,rfl,pl⟩:=ro_dl.mp hq
 obtain⟨_,hk0,vk,rfl,rk⟩:=rs.at (aF e2 (by intro z;cases z))
 obtain⟨_,ha0,va,rfl,ra⟩:=rs.at (aF e3 (by intro z;cases z))
 obtain⟨b,rfl,hb⟩:=hW rk
 obtain⟨am,a0,ap⟩:=hA a zzd
 obtain⟨nd1,nd2⟩:=zzL.mp nd
 refine⟨.ref a,hv0,.inr (.inr (.inl ⟨rfl,.inr ⟨kvs,hd⟩⟩)),.ref b,hk0,zzH _,fun l hl=>?_⟩
 have la:a≠l:=by rintro rfl;rw[hd]at hl;cases hl
 have lb:b≠l:=by rintro rfl;rw[hb]at hl;cases hl
 have lf:=rs.liv.fresh hl
 have hd1:upd H l (.lst []) a=some (.dT kvs):=by rw[ao la];exact hd
 have mn:Mv X.K F.pp M H M (upd H l (.lst [])):=.new hl
 have rs1:RSt X.K F M (upd H l (.lst [])) σ ρ:=rs.sameP (.new hl)
 have f0:F.H0 l=none:=by
  cases e:F.H0 l with
  |none=>rfl
  |some o=>exact absurd hl (rs.same.live l (by rw[e];intro z;cases z))
 refine⟨a,kvs,k,b,.ref l,rfl,rfl,hd1,by rw[ao lb];exact hb,by rw[←pl.len];exact hlen,fun v hv=>?_,fun hn=>?_⟩
 ·rcases pl.add k d nd2 with ⟨a1,_⟩|⟨l0,xs,a1,a2,a3,⟨p',c1,c2,c3⟩,_⟩
  ·rw[hv]at a1;cases a1
  rw[hv]at a1
  cases a1
  obtain⟨lm,l00,lp0⟩:=hA l0 (zzb _ a2)
  have n0:l0≠l:=by rintro rfl;rw[hl]at a3;cases a3
  have hl1:upd H l (.lst []) l0=some (.lst xs):=by rw[ao n0];exact a3
  have mw:Mv X.K F.pp M (upd H l (.lst [])) M (upd (upd H l (.lst [])) l0 (.lst (xs++[va]))):=.writeX hl1 trivial lm lp0
  have m:=mn.trans mw
  refine⟨.inl ⟨rfl,xs,SqL.of hl1⟩,va,ha0,l0,xs,va,rfl,rfl,hl1,by rw[←c3];exact hlens p' c1,oo.nx M _ σ _ m ?_ h9⟩
  refine rs.objStep g1 m (fun v' A' hv' nd' hq' hA'=>?_) rs.sub (rs1.sameW l00 mw) rs1.liv.upd
  rw[hv0]at hv'
  cases hv'
  obtain⟨a',kvs',ls',e,hd',rfl,pl'⟩:=ro_dl.mp hq'
  cases e
  rw[hd]at hd'
  cases hd'
  obtain⟨nd1',nd2'⟩:=zzL.mp nd'
  rcases pl'.add k d nd2' with ⟨z,_⟩|⟨l0',xs',z1,z2,z3,_,f⟩
  ·rw[hv]at z;cases z
  rw[hv]at z1
  cases z1
  rw[a3]at z3
  cases z3
  have na:a≠l0:=by rintro rfl;exact nd1' z2
  have keep:∀c x,c≠l0->H c=some x->upd (upd H l (.lst [])) l0 (.lst (xs++[va])) c=some x:=fun c x h1 h2=>by
   rw[ao h1,ao (by rintro rfl;rw[hl]at h2;cases h2)]
   exact h2
  refine⟨a::ls',nd',ro_dl.mpr ⟨a,kvs,ls',rfl,keep a _ na hd,rfl,f m (ra.mv m) ak fun c _ h1 x h2=>keep c x h1 h2⟩,fun c hc=>⟨(hA' c hc).1,(hA' c hc).2.1,(hA' c hc).2.2,.inl hc⟩,fun c hc _ _ hn=>⟨hc,fun x e _=>keep c x (by rintro rfl;exact hn (zzb _ z2)) e⟩⟩
 ·have hput:putK kvs k (.ref l)=kvs++[(k,.ref l)]:=by
   unfold putK
   rw[gY,hn]
   rfl
  rw[hput]
  have m1:Mv X.K F.pp M H (l::M) (upd H l (.lst [])):=.newOwn hl
  have m2:Mv X.K F.pp (l::M) (upd H l (.lst [])) (l::M) (upd (upd H l (.lst [])) a (.dT (kvs++[(k,.ref l)]))):=.writeX hd1 trivial (zzb _ am) ap
  have m2':Mv X.K F.pp M (upd H l (.lst [])) M (upd (upd H l (.lst [])) a (.dT (kvs++[(k,.ref l)]))):=.writeX hd1 trivial am ap
  have hl2:upd (upd H l (.lst [])) a (.dT (kvs++[(k,.ref l)])) l=some (.lst []):=by rw[ao (Ne.symm la),ak]
  have m3:Mv X.K F.pp (l::M) (upd (upd H l (.lst [])) a (.dT (kvs++[(k,.ref l)]))) (l::M) (upd (upd (upd H l (.lst [])) a (.dT (kvs++[(k,.ref l)]))) l (.lst ([]++[va]))):=.writeX hl2 trivial zzd lf.2
  have m:=(m1.trans m2).trans m3
  have same2:=rs1.sameW a0 m2'
  have same3:SameQ X.K F.pp F.H0 (upd (upd (upd H l (.lst [])) a (.dT (kvs++[(k,.ref l)]))) l (.lst ([]++[va]))):=by
   refine⟨fun c x e n=>?_,fun p e h=>m3.pen p e (same2.pen p e h),fun c e=>?_⟩
   ·rw[ao (by rintro rfl;rw[f0]at e;cases e)]
    exact same2.keep c x e n
   ·by_cases z:c=l
    ·subst z;rw[ak];intro z;cases z
    ·rw[ao z];exact same2.live c e
  have lv3:=(rs1.liv.upd (l:=a) (o:=.dT (kvs++[(k,.ref l)]))).upd (l:=l) (o:=.lst ([]++[va]))
  refine⟨.inl ⟨rfl,[],SqL.of hl2⟩,va,ha0,l,[],va,rfl,rfl,hl2,by decide,oo.nx (l::M) _ σ _ m ?_ h9⟩
  refine rs.objStep g1 m (fun v' A' hv' nd' hq' hA'=>?_) (fun c hc=>zzb _ (rs.sub c hc)) same3 ⟨fun c hc=>?_,lv3.p⟩
  ·rw[hv0]at hv'
   cases hv'
   obtain⟨a',kvs',ls',e,hd',rfl,pl'⟩:=ro_dl.mp hq'
   cases e
   rw[hd]at hd'
   cases hd'
   obtain⟨nd1',nd2'⟩:=zzL.mp nd'
   have lls:l∉ls':=fun z=>lf.1 (hA' l (zzb _ z)).1
   rcases pl'.add k d nd2' with ⟨_,z⟩|⟨l0',xs',z1,_⟩
   ·have keep:∀c x,c≠a->c≠l->H c=some x->upd (upd (upd H l (.lst [])) a (.dT (kvs++[(k,.ref l)]))) l (.lst ([]++[va])) c=some x:=fun c x h1 h2 h3=>by
     rw[ao h2,ao h1,ao h2]
     exact h3
    have hal:upd (upd (upd H l (.lst [])) a (.dT (kvs++[(k,.ref l)]))) l (.lst ([]++[va])) a=some (.dT (kvs++[(k,.ref l)])):=by rw[ao la,ak]
    refine⟨a::(ls'++[l]),?_,ro_dl.mpr ⟨a,_,ls'++[l],rfl,hal,rfl,?_⟩,fun c hc=>?_,fun c hc _ _ hn=>⟨zzb _ hc,fun x e _=>keep c x (by rintro rfl;exact hn zzd) (by rintro rfl;exact lf.1 hc) e⟩⟩
    ·refine zzL.mpr ⟨fun z=>?_,List.nodup_append.mpr ⟨nd2',by simp,fun x hx y hy e=>?_⟩⟩
     ·rcases zzw.mp z with z|z
      ·exact nd1' z
      ·exact la (zzx.mp z)
     ·rw[zzx.mp hy]at e
      subst e
      exact lls hx
    ·rw[z]
     exact PL.snoc ak (.one (ra.mv m)) (pl'.mv m fun c hc x e=>keep c x (by rintro rfl;exact nd1' hc) (by rintro rfl;exact lls hc) e)
    ·rcases zzj.mp hc with rfl|hc
     ·exact⟨zzb _ am,a0,ap,.inl zzd⟩
     rcases zzw.mp hc with hc|hc
     ·have:=hA' c (zzb _ hc)
      exact⟨zzb _ this.1,this.2.1,this.2.2,.inl (zzb _ hc)⟩
     ·rw[zzx.mp hc]
      exact⟨zzd,f0,lf.2,.inr lf.1⟩
   ·rw[hn]at z1;cases z1
  ·rcases zzj.mp hc with rfl|hc
   ·rw[ak];intro z;cases z
   ·exact lv3.m c hc
end
def touch(k:List Key):List (List Key×List D)->List (List Key×List D)
 |[]=>[(k,[])]
 |p::r=>if p.1=k then p::r else p::touch k r
omit [Frm] in
theorem rG(k:List Key)(d:D):∀kls,fC k d (touch k kls)=fC k d kls
 |[]=>by simp[touch,fC]
 |p::r=>by
  unfold touch
  by_cases e:p.1=k
  ·rw[if_pos e]
  ·rw[if_neg e]
   unfold fC
   rw[if_neg e,if_neg e,rG k d r]
section
variable{K:PySem.W.Frag}{F:Fx}{M:List Addr}{H:Hp}{σ:St}{ρ:DS}{i:Nat}
omit [Frm] in
theorem PL.touch(k:List Key):∀{kls:List (List Key×List D)}{kvs:List (List Key×V)}{ls:List Addr},PL K F.pp M H kls kvs ls->(valV kvs k=none/\touch k kls=kls++[(k,[])])∨∃l0,valV kvs k=some (.ref l0)/\touch k kls=kls/\l0∈ls
 |[],kvs,ls,h=>by
  obtain⟨rfl,rfl⟩:=h
  exact .inl ⟨rfl,rfl⟩
 |p::ps,kvs,ls,h=>by
  obtain⟨l,xs,r,t,rfl,rfl,hl,h1,h2⟩:=h
  unfold DL.touch
  by_cases e:p.1=k
  ·rw[if_pos e]
   exact .inr ⟨l,bV (p:=(p.1,V.ref l)) e,rfl,zzd⟩
  ·rw[if_neg e,bJ (p:=(p.1,V.ref l)) e]
   rcases PL.touch k h2 with ⟨a,b⟩|⟨l0,a,b,c⟩
   ·exact .inl ⟨a,by rw[b];rfl⟩
   ·exact .inr ⟨l0,a,by rw[b],zzb _ c⟩
theorem RSt.dlAt{kls:List (List Key×List D)}(rs:RSt K F M H σ ρ)(g1:ρ[i]? = some (.obj (dlO kls))):∃a kvs ls,σ[i]? = some (some (.ref a))/\H a=some (.dT kvs)/\(a::ls).Nodup/\PL K F.pp M H kls kvs ls/\∀b∈a::ls,b∈M/\F.H0 b=none/\F.pp≠some b:=by
 obtain⟨v0,A,hv0,nd,hq,hA,_⟩:=rs.objAt g1
 obtain⟨a,kvs,ls,rfl,hd,rfl,pl⟩:=ro_dl.mp hq
 exact⟨a,kvs,ls,hv0,hd,nd,pl,hA⟩
theorem RSt.touch{kls:List (List Key×List D)}{a l:Addr}{kvs:List (List Key×V)}(rs:RSt K F M H σ ρ)(g1:ρ[i]? = some (.obj (dlO kls)))(hv0:σ[i]? = some (some (.ref a)))(hd:H a=some (.dT kvs))(hl:H l=none)(k:List Key) :
  kvs.length=kls.length/\(∀v,valV kvs k=some v->∃l0,v=.ref l0/\RSt K F M (upd H l (.lst [])) σ (ρ.set i (.obj (dlO (DL.touch k kls))))/\upd H l (.lst []) a=some (.dT kvs)) /\
  (valV kvs k=none->Mv K F.pp M H (l::M) (upd (upd H l (.lst [])) a (.dT (putK kvs k (.ref l))))/\RSt K F (l::M) (upd (upd H l (.lst [])) a (.dT (putK kvs k (.ref l)))) σ (ρ.set i (.obj (dlO (DL.touch k kls))))/\valV (putK kvs k (.ref l)) k=some (.ref l)):=by
 obtain⟨a1,kvs1,ls,hv1,hd1,nd,pl,hA⟩:=rs.dlAt g1
 rw[hv0]at hv1
 cases hv1
 rw[hd]at hd1
 cases hd1
 obtain⟨am,a0,ap⟩:=hA a zzd
 obtain⟨nd1,nd2⟩:=zzL.mp nd
 have la:a≠l:=by rintro rfl;rw[hd]at hl;cases hl
 have lf:=rs.liv.fresh hl
 have hda:upd H l (.lst []) a=some (.dT kvs):=by rw[ao la];exact hd
 have rs1:RSt K F M (upd H l (.lst [])) σ ρ:=rs.sameP (.new hl)
 have f0:F.H0 l=none:=by
  cases e:F.H0 l with
  |none=>rfl
  |some o=>exact absurd hl (rs.same.live l (by rw[e];intro z;cases z))
 refine⟨pl.len.symm,fun v hv=>?_,fun hn=>?_⟩
 ·rcases pl.touch k with ⟨z,_⟩|⟨l0,z,e,_⟩
  ·rw[hv]at z;cases z
  ·rw[hv]at z
   cases z
   refine⟨l0,rfl,?_,hda⟩
   rw[e]
   have:ρ.set i (.obj (dlO kls))=ρ:=by
    have hi:=(zzm.mp g1).1
    have:=(zzm.mp g1).2
    rw[←this]
    exact List.set_getElem_self hi
   rw[this]
   exact rs1
 ·have hput:putK kvs k (.ref l)=kvs++[(k,.ref l)]:=by
   unfold putK
   rw[gY,hn]
   rfl
  have hval:valV (putK kvs k (.ref l)) k=some (.ref l):=by rw[zR,if_pos rfl]
  rw[hput]at hval ⊢
  have m1:Mv K F.pp M H (l::M) (upd H l (.lst [])):=.newOwn hl
  have m2:Mv K F.pp (l::M) (upd H l (.lst [])) (l::M) (upd (upd H l (.lst [])) a (.dT (kvs++[(k,.ref l)]))):=.writeX hda trivial (zzb _ am) ap
  have m2':Mv K F.pp M (upd H l (.lst [])) M (upd (upd H l (.lst [])) a (.dT (kvs++[(k,.ref l)]))):=.writeX hda trivial am ap
  have m:=m1.trans m2
  have lv3:=rs1.liv.upd (l:=a) (o:=.dT (kvs++[(k,.ref l)]))
  refine⟨m,rs.objStep g1 m (fun v' A' hv' nd' hq' hA'=>?_) (fun c hc=>zzb _ (rs.sub c hc)) (rs1.sameW a0 m2') ⟨fun c hc=>?_,lv3.p⟩,hval⟩
  ·rw[hv0]at hv'
   cases hv'
   obtain⟨a',kvs',ls',e,hd',rfl,pl'⟩:=ro_dl.mp hq'
   cases e
   rw[hd]at hd'
   cases hd'
   obtain⟨nd1',nd2'⟩:=zzL.mp nd'
   have lls:l∉ls':=fun z=>lf.1 (hA' l (zzb _ z)).1
   rcases pl'.touch k with ⟨_,z⟩|⟨l0',z1,_⟩
   ·have keep:∀c x,c≠a->c≠l->H c=some x->upd (upd H l (.lst [])) a (.dT (kvs++[(k,.ref l)])) c=some x:=fun c x h1 h2 h3=>by
     rw[ao h1,ao h2]
     exact h3
    refine⟨a::(ls'++[l]),?_,ro_dl.mpr ⟨a,_,ls'++[l],rfl,ak,rfl,?_⟩,fun c hc=>?_,fun c hc _ _ hn=>⟨zzb _ hc,fun x e _=>keep c x (by rintro rfl;exact hn zzd) (by rintro rfl;exact lf.1 hc) e⟩⟩
    ·refine zzL.mpr ⟨fun z=>?_,List.nodup_append.mpr ⟨nd2',by simp,fun x hx y hy e=>?_⟩⟩
     ·rcases zzw.mp z with z|z
      ·exact nd1' z
      ·exact la (zzx.mp z)
     ·rw[zzx.mp hy]at e
      subst e
      exact lls hx
    ·rw[z]
     exact PL.snoc (xs:=[]) (by rw[ao (Ne.symm la),ak]) .nil (pl'.mv m fun c hc x e=>keep c x (by rintro rfl;exact nd1' hc) (by rintro rfl;exact lls hc) e)
    ·rcases zzj.mp hc with rfl|hc
     ·exact⟨zzb _ am,a0,ap,.inl zzd⟩
     rcases zzw.mp hc with hc|hc
     ·have:=hA' c (zzb _ hc)
      exact⟨zzb _ this.1,this.2.1,this.2.2,.inl (zzb _ hc)⟩
     ·rw[zzx.mp hc]
      exact⟨zzd,f0,lf.2,.inr lf.1⟩
   ·rw[hn]at z1;cases z1
  ·rcases zzj.mp hc with rfl|hc
   ·rw[ao (Ne.symm la),ak];intro z;cases z
   ·exact lv3.m c hc
theorem RSt.appL{kls:List (List Key×List D)}{a l0:Addr}{kvs:List (List Key×V)}{k:List Key}{d:D}{v:V}(rs:RSt K F M H σ ρ)(g1:ρ[i]? = some (.obj (dlO kls)))(hv0:σ[i]? = some (some (.ref a)))(hd:H a=some (.dT kvs))(hv:valV kvs k=some (.ref l0))(ra:Rep K F.pp M H d v) :
  ∃xs,H l0=some (.lst xs)/\(∃p∈kls,p.1=k/\p.2.length=xs.length)/\Mv K F.pp M H M (upd H l0 (.lst (xs++[v])))/\RSt K F M (upd H l0 (.lst (xs++[v]))) σ (ρ.set i (.obj (dlO (fC k d kls)))):=by
 obtain⟨a1,kvs1,ls,hv1,hd1,nd,pl,hA⟩:=rs.dlAt g1
 rw[hv0]at hv1
 cases hv1
 rw[hd]at hd1
 cases hd1
 obtain⟨nd1,nd2⟩:=zzL.mp nd
 rcases pl.add k d nd2 with ⟨a1,_⟩|⟨l0',xs,a1,a2,a3,a4,_⟩
 ·rw[hv]at a1;cases a1
 rw[hv]at a1
 cases a1
 obtain⟨lm,l00,lp0⟩:=hA l0 (zzb _ a2)
 have mw:Mv K F.pp M H M (upd H l0 (.lst (xs++[v]))):=.writeX a3 trivial lm lp0
 refine⟨xs,a3,a4,mw,rs.objStep g1 mw (fun v' A' hv' nd' hq' hA'=>?_) rs.sub (rs.sameW l00 mw) rs.liv.upd⟩
 rw[hv0]at hv'
 cases hv'
 obtain⟨a',kvs',ls',e,hd',rfl,pl'⟩:=ro_dl.mp hq'
 cases e
 rw[hd]at hd'
 cases hd'
 obtain⟨nd1',nd2'⟩:=zzL.mp nd'
 rcases pl'.add k d nd2' with ⟨z,_⟩|⟨l0',xs',z1,z2,z3,_,f⟩
 ·rw[hv]at z;cases z
 rw[hv]at z1
 cases z1
 rw[a3]at z3
 cases z3
 have na:a≠l0:=by rintro rfl;exact nd1' z2
 have keep:∀c x,c≠l0->H c=some x->upd H l0 (.lst (xs++[v])) c=some x:=fun c x h1 h2=>by rw[ao h1];exact h2
 refine⟨a::ls',nd',ro_dl.mpr ⟨a,kvs,ls',rfl,keep a _ na hd,rfl,f mw (ra.mv mw) ak fun c _ h1 x h2=>keep c x h1 h2⟩,fun c hc=>⟨(hA' c hc).1,(hA' c hc).2.1,(hA' c hc).2.2,.inl hc⟩,fun c hc _ _ hn=>⟨hc,fun x e _=>keep c x (by rintro rfl;exact hn (zzb _ z2)) e⟩⟩
end
section
variable{X:Cx}
abbrev Hb(i:Nat)(tk ta:DE):DTS:=fun E ρ=>CS (slot ρ i)/\tk ρ fun dk ρ1=>∃(kls:List (List Key×List D)) (k:List Key),slot ρ1 i=.obj (dlO kls)/\dk=keyD k/\kls.length<sizeLine/\(∀p∈kls,p.2.length<sizeLine) /\
 ∀vs:Nat->V,ta (pinL vs 0 (ρ1.set i (.obj (dlO (touch k kls))))) fun d ρ'=>(flD d/\ρ'=pinL vs 0 (ρ1.set i (.obj (dlO (touch k kls)))))/\E.nx (ρ1.set i (.obj (dlO (fC k d kls))))
omit [Frm] in
theorem rH{k:List Key}{n:Nat}(hn:0<n):∀{kls:List (List Key×List D)},(∀p∈kls,p.2.length<n)->∀p∈touch k kls,p.2.length<n
 |[],_,p,hp=>by
  rw[zzx.mp hp]
  exact hn
 |q::r,h,p,hp=>by
  unfold touch at hp
  split at hp
  ·exact h p hp
  ·rcases zzj.mp hp with rfl|hp
   ·exact h p zzd
   ·exact rH hn (fun p hp=>h p (zzb _ hp)) p hp
theorem CV{i r:Nat}{o ek ea:Expr}{lp p1 p2 p3 p4 pos:Pos}{tk ta:DE}(hr:Room r X.A)(ho:PE X o (tVar i))(hk:PED X ek tk)(ha:PED X ea ta)
  (b1:attributeBase o "setdefault" X.env (eval o X.env)=eval o X.env:=by rfl)
  (f1:((backTo p2 (starEach [ek,.List [] lp] X.env)).all (fun x=>!x.1) && (backToKw p2 (keywordEach [] X.env)).all (fun x=>x.1.isSome)
   && decide ([ek,.List [] lp].length+([]:List Keyword).length+(if ([]:List Keyword).isEmpty then 0 else 1)<30))=true:=by rfl)
  (l1:(p1.endLine == p2.line)=true:=by rfl) (s1:starEach [ek,.List [] lp] X.env=(false,eval ek X.env)::starEach [.List [] lp] X.env:=by rfl) (s1':starEach [.List [] lp] X.env=(false,eval (.List [] lp) X.env)::starEach [] X.env:=by rfl)
  (q1:(backTo p2 (starEach [.List [] lp] X.env)).any (·.1)=false:=by rfl)
  (b2:attributeBase (.Call (.Attribute o "setdefault" p1) [ek,.List [] lp] [] p2) "append" X.env (eval (.Call (.Attribute o "setdefault" p1) [ek,.List [] lp] [] p2) X.env)=eval (.Call (.Attribute o "setdefault" p1) [ek,.List [] lp] [] p2) X.env:=by rfl)
  (f2:((backTo p4 (starEach [ea] X.env)).all (fun x=>!x.1) && (backToKw p4 (keywordEach [] X.env)).all (fun x=>x.1.isSome)
   && decide ([ea].length+([]:List Keyword).length+(if ([]:List Keyword).isEmpty then 0 else 1)<30))=true:=by rfl)
  (l2:(p3.endLine == p4.line)=true:=by rfl) (s2:starEach [ea] X.env=(false,eval ea X.env)::starEach [] X.env:=by rfl) (q2:(backTo p4 (starEach [] X.env)).any (·.1)=false:=by rfl)
  (hs:swapsWith (.Call (.Attribute (.Call (.Attribute o "setdefault" p1) [ek,.List [] lp] [] p2) "append" p3) [ea] [] p4) none pos.line X.env=pure false:=by rfl) :
  PSD X (.Expr (.Call (.Attribute (.Call (.Attribute o "setdefault" p1) [ek,.List [] lp] [] p2) "append" p3) [ea] [] p4) pos) (Hb i tk ta):=by
 obtain⟨Tk,pk,rk⟩:=hk.run
 obtain⟨Ta,pa,ra⟩:=ha.run
 have hm:=qH zyt PySem.F.slot_list_append PySem.F.type_list_append jp (qH zyM PySem.F.slot_dict_setdefault PySem.F.type_dict_setdefault (jB (X:=X) (by have:=hr.units;omega)) ho (bC pk (bC (uA (pos:=lp) da) da s1') s1) b1 f1 l1 s1 q1) (bC pa da s2) b2 f2 l2 s2 q2
 refine⟨_,jY hm hs,fun {F} M H σ ρ E D rs oo h=>?_⟩
 obtain⟨ks,os,e0⟩:=vi h.1
 obtain⟨v0,A0,hv0,_,hq0,_⟩:=rs.objAt (aF e0 (by intro z;cases z))
 simp only[RO]at hq0
 obtain⟨a,kvs0,B,rfl,hd0,_⟩:=hq0
 refine⟨.ref a,hv0,.inr (.inr (.inl ⟨rfl,.inr ⟨kvs0,hd0⟩⟩)),?_⟩
 refine rk M H σ ρ _ rs (hk.mono _ _ _ (fun dk ρ1 h M1 H1 y m1 rs1 r1=>?_) h.2)
 obtain⟨kls,k,es,ek',hlen,hlens,h9⟩:=h
 subst ek'
 obtain⟨b,rfl,hb⟩:=hW r1
 have g1:=aF es (by intro z;cases z)
 refine⟨zzH _,fun l hl=>?_⟩
 obtain⟨a1,kvs,ls,hv1,hd,_⟩:=rs1.dlAt g1
 rw[hv0]at hv1
 cases hv1
 have la:a≠l:=by rintro rfl;rw[hd]at hl;cases hl
 have lb:b≠l:=by rintro rfl;rw[hb]at hl;cases hl
 obtain⟨el,t1,t2⟩:=rs1.touch g1 hv0 hd hl k
 have g2:(ρ1.set i (.obj (dlO (touch k kls))))[i]? = some (.obj (dlO (touch k kls))):=by
  have hi:=(zzm.mp g1).1
  simp[hi]
 have go:∀(M2:List Addr) (H2:Hp) (kvs2:List (List Key×V)) (l0:Addr),Mv X.K F.pp M1 H1 M2 H2->RSt X.K F M2 H2 σ (ρ1.set i (.obj (dlO (touch k kls))))->H2 a=some (.dT kvs2)->valV kvs2 k=some (.ref l0) ->
   tyV X.K "list" (.ref l0) H2/\xm Ta tNil σ H2 fun xs H3=>sN (.ref l0) xs H3 fun _ H'=>D.nx σ H':=by
  intro M2 H2 kvs2 l0 m2 rs2 hd2 hv2
  obtain⟨xs0,hx0,_⟩:=rs2.appL (d:=.non) (v:=.non) g2 hv0 hd2 hv2 (by simp only[Rep])
  refine⟨.inl ⟨rfl,xs0,SqL.of hx0⟩,?_⟩
  obtain⟨M0,m0,rs0,th,As,k1,kp⟩:=rs2.look _ (GV σ)
  refine ra M0 H2 σ _ _ rs0 (ha.mono _ _ _ (fun d ρ' q M' H' v m rs' rd=>?_) (h9 _))
  obtain⟨⟨fl,rfl⟩,q⟩:=q
  obtain⟨M3,m3,rs3⟩:=th M' H' σ _ _ m rs' (Unp.self _ _ 0)
  have hda:H' a=some (.dT kvs2):=by
   obtain⟨_,v1,e1,ro⟩:=k1 i _ _ g2 hv0
   cases e1
   obtain⟨a',kvs',ls',e,_,eA,_⟩:=ro_dl.mp ro
   cases e
   exact kp M' H' m i (zzm.mp g2).1 a (by rw[eA];exact zzd) _ hd2 (by intro _ z;cases z)
  obtain⟨xs,hx,⟨p',c1,_,c3⟩,mw,rs4⟩:=rs3.appL g2 hv0 hda hv2 (rd.flat _ _ fl)
  refine⟨l0,xs,v,rfl,rfl,hx,by rw[←c3];exact rH (by decide) hlens p' c1,oo.nx M3 _ σ _ ((m1.trans (m2.trans m3)).trans mw) rs4 ?_⟩
  rw[rG,List.set_set]
  exact q
 refine⟨a,kvs,k,b,.ref l,rfl,rfl,by rw[ao la];exact hd,by rw[ao lb];exact hb,by rw[el];exact hlen,fun v hv=>?_,fun hn=>?_⟩
 ·obtain⟨l0,rfl,rs2,hd2⟩:=t1 v hv
  exact go M1 _ kvs l0 (.new hl) rs2 hd2 hv
 ·obtain⟨m2,rs2,hv2⟩:=t2 hn
  exact go (l::M1) _ _ l m2 rs2 ak hv2
def isDT:D->Prop
 |.dT _ _=>True
 |_=>False
abbrev Hc(tx tk te:DE):DE:=fun ρ Q=>tx ρ fun x ρ0=>isDT x/\tk ρ0 fun dk ρ1=>te ρ1 fun d ρ2=>∃kds k,x=.dT (List.map (·.1) kds) (List.map (·.2) kds)/\dk=keyD k/\Q ((fB kds k).getD d) ρ2
theorem CW{r:Nat}{o ek e:Expr}{apos cpos:Pos}{tx tk te:DE}(hr:Room r X.A)(hx:PED X o tx)(hk:PED X ek tk)(he:PED X e te)(m:M2 X o "get" apos ek e cpos:=by exact⟨rfl,rfl,rfl,rfl⟩) :
  PED X (.Call (.Attribute o "get" apos) [ek,e] [] cpos) (Hc tx tk te):=by
 obtain⟨Tx,px,rx⟩:=hx.run
 obtain⟨Tk,pk,rk⟩:=hk.run
 obtain⟨Te,pe,re⟩:=he.run
 refine⟨fun ρ P P' f h=>hx.mono _ _ _ (fun x ρ0 h=>⟨h.1,hk.mono _ _ _ (fun dk ρ1 h=>he.mono _ _ _ (fun d ρ2 ⟨kds,k,h1,h2,h3⟩=>⟨kds,k,h1,h2,f _ _ h3⟩) h) h.2⟩) h,_,uF (by have:=hr.units;omega) px pk pe m,fun {F} M H σ ρ Q rs h=>?_⟩
 refine rx M H σ ρ _ rs (hx.mono _ _ _ (fun x ρ0 h M0 H0 v m0 rs0 r0=>?_) h)
 cases x with
 |dT ks ds =>
  simp only[Rep]at r0
  obtain⟨a,kvs,rfl,an,ap,ha,ek',rr⟩:=r0
  refine⟨a,rfl,.inr ⟨kvs,ha⟩,?_⟩
  refine rk M0 H0 σ ρ0 _ rs0 (hk.mono _ _ _ (fun dk ρ1 h M1 H1 y m1 rs1 r1=>?_) h.2)
  refine re M1 H1 σ ρ1 _ rs1 (he.mono _ _ _ (fun d ρ2 h M2 H2 z m2 rs2 r2=>?_) h)
  obtain⟨kds,k,e1,e2,h9⟩:=h
  subst e2
  cases e1
  obtain⟨b,rfl,hb⟩:=hW (r1.mv m2)
  have ha2:Rd H2 a (.dT kvs):=by
   rcases ha with ha|⟨o,ha⟩
   ·exact .inl ((m1.trans m2).oth a _ ha an (np ap)).1
   ·exact .inr ⟨o,((m1.trans m2).oth a _ ha an (np ap)).1⟩
  refine⟨_,.inr ⟨kvs,k,b,ha2,rfl,hb,rfl⟩,h9 M2 H2 _ ((m0.trans m1).trans m2) rs2 ?_⟩
  rcases (Ai ek' (Reps.mv (m1.trans m2) _ _ rr)).find k with ⟨e1,e2⟩|⟨x,y,e1,e2,rxy⟩
  ·rw[jE]at e2
   rw[e1,e2]
   exact r2
  ·rw[jE]at e2
   rw[e1,e2]
   exact rxy
 |_=>exact h.1.elim
end
end DL
namespace DL
open PySem PySem.Spec L2
open PyProof.Rows hiding St
variable[TB]
variable[Frm]{X:Cx}{st:Stmt}
abbrev CY(k:Nat)(t:DTS):DTS:=fun E ρ=>∃ds,slot ρ k=.own ds/\t E (ρ.set k (.val (.lst ds)))
theorem rJ{k:Nat}{t:DTS}(h:PSD X st t):PSD X st (CY k t):=by
 obtain⟨T,p,r⟩:=h
 refine⟨T,p,fun {F} M H σ ρ E D rs o q=>?_⟩
 obtain⟨ds,e,q⟩:=q
 obtain⟨M',v,_,m,rs',_⟩:=rs.freeze (aF e (fun z=>by cases z))
 exact r M' H σ _ E D rs' ⟨fun M1 H1 σ1 ρ1 m1 r1 q=>o.nx M1 H1 σ1 ρ1 (m.trans m1) r1 q,fun M1 H1 σ1 ρ1 m1 r1 q=>o.bk M1 H1 σ1 ρ1 (m.trans m1) r1 q,fun M1 H1 σ1 ρ1 m1 r1 q=>o.ct M1 H1 σ1 ρ1 (m.trans m1) r1 q,fun M1 H1 σ1 ρ1 d v m1 r1 rd q=>o.rt M1 H1 σ1 ρ1 d v (m.trans m1) r1 rd q⟩ q
end DL
namespace DL
open PySem PySem.Spec L2
open PyProof.Rows hiding St
variable[TB]
section
variable{X:Cx}
theorem ka2{K:PySem.W.Frag}{t:Value}{a b:Bool}(h1:PySem.W.kitOne K t (.type "list")=some a)(h2:PySem.W.kitOne K t (.type "tuple")=some b):PySem.W.kitAny K t [.type "list",.type "tuple"]=some (a || b):=by
 unfold PySem.W.kitAny
 rw[h1]
 cases a with
 |true=>rfl
 |false =>
  show PySem.W.kitAny K t [.type "tuple"]=_
  unfold PySem.W.kitAny
  rw[h2]
  cases b<;>rfl
theorem wq:eV X (.builtin "isinstance") (fun xs H Q=>∃x p,xs=[x,.ref p]/\H p=some (.tup [.ty "list",.ty "tuple"])/\knV H x/\Q (.bl (dH H x || bz H x)) H):=by
 intro pins s σ H xs us Q I r h
 obtain⟨x,p,rfl,hp,kn,q⟩:=h
 obtain⟨u1,u2,rfl,r1,r2⟩:=Cf r
 cases r2
 obtain⟨_,its,vz,ob,ho,hc,n,hd⟩:=I.hok p _ hp
 have ei:its=[.type "list",.type "tuple"]:=by
  cases vz with
  |cons a b =>
   cases b with
   |cons b c =>
    cases c
    cases (show _=Value.type "list" from a)
    cases (show _=Value.type "tuple" from b)
    rfl
 subst ei
 obtain⟨oc,od,odt,osl⟩:=ob
 dsimp only at hc hd
 subst hc hd
 have fin:∀tk,EP X pins σ Q (.bool (dH H x || bz H x)) { s with toks:=tk }:=fun tk=>⟨.bl _,H,I.tok tk,rfl,q⟩
 cases x with
 |non=>cases (show u1=Value.none from r1);exact zyu PySem.W.kitx_none I.kIn True.intro ho (ka2 lL eW) (fun z=>nomatch z) fin
 |bl c=>cases (show u1=Value.bool c from r1);exact zyu PySem.W.kitx_bool I.kIn True.intro ho (ka2 qP jq) (fun z=>nomatch z) fin
 |int i=>obtain⟨t,z⟩:=(show ∃t,u1=Value.int i t from r1);cases z;exact zyu PySem.W.kitx_int I.kIn True.intro ho (ka2 sU lu) (fun z=>nomatch z) fin
 |str y=>obtain⟨t,z⟩:=(show ∃t,u1=Value.str y t from r1);cases z;exact zyu PySem.W.kitx_str I.kIn True.intro ho (ka2 sV lw) (fun z=>nomatch z) fin
 |ref a =>
  cases (show u1=Value.ref a from r1)
  rcases kn with ⟨ys,e⟩|⟨o,ys,e⟩|⟨ys,e⟩|⟨ys,e⟩|⟨ys,e⟩
  ·have eb:(dH H (.ref a) || bz H (.ref a))=true:=by simp only[dH,bz,e];rfl
   rw[eb]at fin
   obtain⟨_,_,n,_,h1⟩:=(show ObjOk X.prog X.w H s.heap a (.lst ys) from I.hok a _ e)
   exact zyu PySem.W.kitx_list I.kIn ⟨_,h1,rfl⟩ ho (ka2 lx dL) (fun z=>nomatch z) fin
  ·have eb:(dH H (.ref a) || bz H (.ref a))=true:=by simp only[dH,bz,e];rfl
   rw[eb]at fin
   obtain⟨_,_,_,n,_,h1⟩:=(show ObjOk X.prog X.w H s.heap a (.frz o (.lst ys)) from I.hok a _ e)
   exact zyu PySem.W.kitx_list I.kIn ⟨_,h1,rfl⟩ ho (ka2 lx dL) (fun z=>nomatch z) fin
  ·have eb:(dH H (.ref a) || bz H (.ref a))=true:=by simp only[dH,bz,e];rfl
   rw[eb]at fin
   obtain⟨_,_,_,o,h1,h2,_⟩:=(show ObjOk X.prog X.w H s.heap a (.tup ys) from I.hok a _ e)
   exact zyu PySem.W.kitx_tuple I.kIn ⟨o,h1,h2⟩ ho (ka2 pI io) (fun z=>nomatch z) fin
  ·have eb:(dH H (.ref a) || bz H (.ref a))=false:=by simp only[dH,bz,e];rfl
   rw[eb]at fin
   obtain⟨_,_,vs,_,p⟩:=(show ObjOk X.prog X.w H s.heap a (.dK ys) from I.hok a _ e)
   obtain⟨o,es,ep,h1,h2,_⟩:=p
   exact zyu PySem.W.kitx_dict I.kIn ⟨o,h1,h2.1⟩ ho (ka2 ly dM) (fun z=>nomatch z) fin
  ·have eb:(dH H (.ref a) || bz H (.ref a))=false:=by simp only[dH,bz,e];rfl
   rw[eb]at fin
   obtain⟨_,_,xs,_,o,es,ep,h1,h2,_⟩:=(show ObjOk X.prog X.w H s.heap a (.dT ys) from I.hok a _ e)
   exact zyu PySem.W.kitx_dict I.kIn ⟨o,h1,h2.1⟩ ho (ka2 ly dM) (fun z=>nomatch z) fin
 |_=>exact kn.elim
def CZ(d:D):Bool:=Fb d || qW d
def Hd:DSp:=fun ds P=>∃d,ds=[d,.tup [.ty "list",.ty "tuple"]]/\xR d=true/\P (.bl (CZ d))
theorem yr:CallD X (.builtin "isinstance") Hd:=by
 refine⟨fun ds P P' f ⟨d,a,b,h⟩=>⟨d,a,b,f _ h⟩,_,wq,fun {pp} M H ds vs Q _ r h=>?_⟩
 obtain⟨d,rfl,fd,h⟩:=h
 simp only[Reps]at r
 obtain⟨x1,_,rfl,r1,x2,_,rfl,r2,rfl⟩:=r
 simp only[Rep]at r2
 obtain⟨a,zs,rfl,ha,rz⟩:=r2
 have ez:zs=[.ty "list",.ty "tuple"]:=by
  simp only[Reps,Rep]at rz
  obtain⟨_,_,rfl,rfl,_,_,rfl,rfl,rfl⟩:=rz
  rfl
 subst ez
 have kn:=Bm r1 fd
 have e:(dH H x1 || bz H x1)=CZ d:=by
  unfold CZ
  cases d<;>first|cases fd|skip
  all_goals simp only[Rep]at r1
  case non=>subst r1;rfl
  case bl=>subst r1;rfl
  case int=>subst r1;rfl
  case str=>subst r1;rfl
  case tup=>obtain⟨a,xs,rfl,h,_⟩:=r1;simp only[dH,bz,h];rfl
  case lst=>obtain⟨a,xs,rfl,_,_,h,_⟩:=r1;simp only[dH,bz,h];rfl
  case dK=>obtain⟨a,xs,rfl,_,_,h,_⟩:=r1;simp only[dH,bz,h];rfl
 exact⟨x1,a,rfl,ha,kn,by rw[e];exact h H _ .refl eY⟩
end
end DL
namespace L2
open PySem PySem.Spec PyProof.Rows PySem.W
theorem fc{α β:Type}(c:Nat->Nat->Bool)(f:α->KasT β):∀t:KasT α,kRun c (t.bind f)=kRun c (f (kRun c t))
 |.ret _=>rfl
 |.ask i j k=>fc c f (k (c i j))
structure StrO(N:Nat)(c:Nat->Nat->Bool):Prop where
 tr:∀i j k,i<N->j<N->k<N->c i j=true->c j k=true->c i k=true
 as:∀i j,i<N->j<N->c i j=true->c j i=false
 to:∀i j,i<N->j<N->i≠j->c i j=false->c j i=true
section
variable{N:Nat}{c:Nat->Nat->Bool}{p:Array Nat}
theorem PmN.size(h:PmN N p):p.size=N:=by
 have:=h.length_eq
 simpa using this
theorem PmN.ne(h:PmN N p){i j:Nat}(hi:i<N)(hj:j<N)(e:i≠j):p.getD i 0≠p.getD j 0:=by
 have nd:p.toList.Nodup:=h.nodup_iff.mpr List.nodup_range
 have s:=h.size
 have e1:p.getD i 0=p.toList[i]'(by simpa[s]using hi):=by simp[Array.getD,s,hi]
 have e2:p.getD j 0=p.toList[j]'(by simpa[s]using hj):=by simp[Array.getD,s,hj]
 rw[e1,e2]
 intro z
 exact e ((List.getElem_inj nd).mp z)
def Asc(c:Nat->Nat->Bool)(p:Array Nat)(n:Nat):Prop:=∀i j,i<j->j<n->c (p.getD i 0) (p.getD j 0)=true
def Dsc(c:Nat->Nat->Bool)(p:Array Nat)(n:Nat):Prop:=∀i j,i<j->j<n->c (p.getD j 0) (p.getD i 0)=true
theorem Asc.step(O:StrO N c)(h:PmN N p){n:Nat}(hn:1 <= n)(hN:n<N)(a:Asc c p n)(e:c (p.getD n 0) (p.getD (n - 1) 0)=false):Asc c p (n+1):=by
 have h0:0<N:=by omega
 have last:c (p.getD (n - 1) 0) (p.getD n 0)=true:=O.to _ _ (h.lt h0 _) (h.lt h0 _) (h.ne hN (by omega) (by omega)) e
 intro i j hij hj
 by_cases z:j=n
 ·subst z
  by_cases y:i=j - 1
  ·subst y;exact last
  ·exact O.tr _ _ _ (h.lt h0 _) (h.lt h0 _) (h.lt h0 _) (a i (j - 1) (by omega) (by omega)) last
 ·exact a i j hij (by omega)
theorem Dsc.step(O:StrO N c)(h:PmN N p){n:Nat}(hn:1 <= n)(hN:n<N)(a:Dsc c p n)(last:c (p.getD n 0) (p.getD (n - 1) 0)=true):Dsc c p (n+1):=by
 have h0:0<N:=by omega
 intro i j hij hj
 by_cases z:j=n
 ·subst z
  by_cases y:i=j - 1
  ·subst y;exact last
  ·exact O.tr _ _ _ (h.lt h0 _) (h.lt h0 _) (h.lt h0 _) last (a i (j - 1) (by omega) (by omega))
 ·exact a i j hij (by omega)
theorem tJ(O:StrO N c)(h:PmN N p):∀(f n:Nat),1 <= n->n+f <= N->Asc c p n->Asc c p (kRun c (kas_asc p f n))/\n <= kRun c (kas_asc p f n)/\kRun c (kas_asc p f n) <= n+f/\(kRun c (kas_asc p f n)=n+f∨c (p.getD (kRun c (kas_asc p f n)) 0) (p.getD (kRun c (kas_asc p f n) - 1) 0)=true)
 |0,n,_,_,a=>⟨a,zzh _,zzh _,.inl rfl⟩
 |f+1,n,hn,hN,a=>by
  have e0:kRun c (kas_asc p (f+1) n)=kRun c (if c (p.getD n 0) (p.getD (n - 1) 0)=true then .ret n else kas_asc p f (n+1)):=rfl
  cases e:c (p.getD n 0) (p.getD (n - 1) 0) with
  |true =>
   rw[e0,if_pos e]
   exact⟨a,zzh _,by show n <= _;omega,.inr e⟩
  |false =>
   rw[e0,if_neg (by rw[e];intro z;cases z)]
   obtain⟨b1,b2,b3,b4⟩:=tJ O h f (n+1) (by omega) (by omega) (a.step O h hn (by omega) e)
   refine⟨b1,by omega,by omega,?_⟩
   rcases b4 with b4|b4
   ·exact .inl (by omega)
   ·exact .inr b4
theorem vj(O:StrO N c)(h:PmN N p):∀(f n:Nat),1 <= n->n+f <= N->Dsc c p n->∃m,kRun c (kas_desc f p n 0)=(p,m,0)/\Dsc c p m/\n <= m/\m <= n+f
 |0,n,_,_,a=>⟨n,rfl,a,zzh _,zzh _⟩
 |f+1,n,hn,hN,a=>by
  have h0:0<N:=by omega
  have e0:kRun c (kas_desc (f+1) p n 0)=kRun c (if c (p.getD n 0) (p.getD (n - 1) 0)=true then(if 0>0 then kas_desc f (kas_rev p (n - (0+1)) n) (n+1) 0 else kas_desc f p (n+1) 0)
   else .ask (p.getD (n - 1) 0) (p.getD n 0) fun d=>if d=true then .ret (p,n,0) else kas_desc f p (n+1) (0+1)):=rfl
  rw[e0]
  cases e:c (p.getD n 0) (p.getD (n - 1) 0) with
  |true =>
   rw[if_pos rfl,if_neg (by omega)]
   obtain⟨m,b1,b2,b3,b4⟩:=vj O h f (n+1) (by omega) (by omega) (a.step O h hn (by omega) e)
   exact⟨m,b1,b2,by omega,by omega⟩
  |false =>
   rw[if_neg (by intro z;cases z)]
   have last:c (p.getD (n - 1) 0) (p.getD n 0)=true:=O.to _ _ (h.lt h0 _) (h.lt h0 _) (h.ne (by omega) (by omega) (by omega)) e
   have e1:kRun c (.ask (p.getD (n - 1) 0) (p.getD n 0) fun d=>if d=true then .ret (p,n,0) else kas_desc f p (n+1) (0+1))=kRun c (if c (p.getD (n - 1) 0) (p.getD n 0)=true then .ret (p,n,0) else kas_desc f p (n+1) (0+1)):=rfl
   rw[e1,if_pos last]
   exact⟨n,rfl,a,zzh _,by omega⟩
theorem yt{p:Array Nat}{a b:Nat}(ha:a<p.size)(hb:b<p.size)(i:Nat):(p.swapIfInBounds a b).getD i 0=if i=a then p.getD b 0 else if i=b then p.getD a 0 else p.getD i 0:=by
 have e:∀(q:Array Nat) (j:Nat),q.getD j 0=(q[j]?).getD 0:=fun q j=>by
  by_cases h:j<q.size<;>simp[Array.getD,h]
 rw[e,e,e,e,Array.swapIfInBounds_def,dif_pos ha,dif_pos hb,Array.getElem?_swap]
 by_cases h1:i=a
 ·subst h1
  by_cases h2:i=b
  ·subst h2;simp[hb]
  ·simp[h2,hb,Ne.symm h2]
 ·by_cases h2:i=b
  ·subst h2
   simp[h1,ha,hb]
  ·simp[h1,h2,Ne.symm h1,Ne.symm h2]
theorem vm{p:Array Nat}{k:Nat}(hk:k<p.size):∀(d:Nat),d <= k->∀i,(bubble p k d).getD i 0=if i=k - d then p.getD k 0 else if k - d<i/\i <= k then p.getD (i - 1) 0 else p.getD i 0
 |0,_,i=>by
  show p.getD i 0=_
  by_cases h:i=k
  ·subst h;simp
  ·rw[if_neg (by omega),if_neg (by omega)]
 |d+1,hd,i=>by
  rw[bubble_succ,yt (by rw[bubble_size];omega) (by rw[bubble_size];omega),vm hk d (by omega),vm hk d (by omega),vm hk d (by omega)]
  by_cases h1:i=k - d
  ·rw[if_pos h1,if_neg (by omega),if_neg (by omega),if_neg (by omega),if_pos (by omega),show k - d - 1=i - 1 by omega]
  ·rw[if_neg h1]
   by_cases h2:i=k - d - 1
   ·rw[if_pos h2,if_pos rfl,if_pos (by omega)]
   ·rw[if_neg h2,if_neg h1,if_neg (show ¬i=k - (d+1) by omega)]
    by_cases h3:k - d<i/\i <= k
    ·rw[if_pos h3,if_pos (by omega)]
    ·rw[if_neg h3,if_neg (by omega)]
theorem vn{p:Array Nat}{n:Nat}(hn:n <= p.size):∀(d:Nat),d <= n / 2->∀i,(mirror p 0 n d).getD i 0=if i<d∨(n - d <= i/\i<n) then p.getD (n - 1 - i) 0 else p.getD i 0
 |0,_,i=>by
  show p.getD i 0=_
  rw[if_neg (by omega)]
 |d+1,hd,i=>by
  rw[mirror_succ,yt (by rw[mirror_size];omega) (by rw[mirror_size];omega),vn hn d (by omega),vn hn d (by omega),vn hn d (by omega)]
  by_cases h1:i=0+d
  ·rw[if_pos h1,if_neg (by omega),if_pos (by omega),show n - 1 - d=n - 1 - i by omega]
  ·rw[if_neg h1]
   by_cases h2:i=n - 1 - d
   ·rw[if_pos h2,if_neg (by omega),if_pos (by omega),show n - 1 - i=0+d by omega]
   ·rw[if_neg h2]
    by_cases h3:i<d∨(n - d <= i/\i<n)
    ·rw[if_pos h3,if_pos (by omega)]
    ·rw[if_neg h3,if_neg (by omega)]
theorem Bu{p:Array Nat}{n:Nat}(hn:n <= p.size)(i:Nat):(kas_rev p 0 n).getD i 0=if i<n then p.getD (n - 1 - i) 0 else p.getD i 0:=by
 unfold kas_rev
 rw[vn hn _ (by omega)]
 by_cases h:i<(n - 0) / 2∨(n - (n - 0) / 2 <= i/\i<n)
 ·rw[if_pos h,if_pos (by omega)]
 ·rw[if_neg h]
  by_cases h2:i<n
  ·rw[if_pos h2,show n - 1 - i=i by omega]
  ·rw[if_neg h2]
theorem Dsc.rev{n:Nat}(h:PmN N p)(hn:n <= N)(a:Dsc c p n):Asc c (kas_rev p 0 n) n:=by
 intro i j hij hj
 have s:=h.size
 rw[Bu (by omega),Bu (by omega),if_pos (by omega),if_pos hj]
 exact a _ _ (by omega) (by omega)
theorem yu(O:StrO N c)(h:PmN N p)(h2:2 <= N):Asc c (kRun c (kas_count N p)).2 (kRun c (kas_count N p)).1/\1 <= (kRun c (kas_count N p)).1/\(kRun c (kas_count N p)).1 <= N:=by
 obtain⟨a1,a2,a3,a4⟩:=tJ O h (N - 1) 1 (zzh _) (by omega) (fun i j hij hj=>by omega)
 unfold kas_count
 rw[fc]
 generalize kRun c (kas_asc p (N - 1) 1)=n at a1 a2 a3 a4
 by_cases e1:(n == N)=true
 ·rw[if_pos e1]
  exact⟨a1,a2,by show n <= N;omega⟩
 ·rw[if_neg e1]
  have nN:n≠N:=fun z=>e1 (by rw[z];exact beq_self_eq_true _)
  by_cases e2:n>1
  ·rw[if_pos e2]
   have e3:kRun c (.ask (p.getD 0 0) (p.getD (n - 1) 0) fun b=>if b=true then .ret (n,p) else kas_descPart n N (kas_rev p 0 n))=kRun c (if c (p.getD 0 0) (p.getD (n - 1) 0)=true then .ret (n,p) else kas_descPart n N (kas_rev p 0 n)):=rfl
   rw[e3,if_pos (a1 0 (n - 1) (by omega) (by omega))]
   exact⟨a1,a2,by show n <= N;omega⟩
  ·rw[if_neg e2]
   have n1:n=1:=by omega
   subst n1
   have last:c (p.getD 1 0) (p.getD (1 - 1) 0)=true:=by
    rcases a4 with a4|a4
    ·exact absurd a4 (by omega)
    ·exact a4
   have d2:Dsc c p (1+1):=Dsc.step O h (zzh _) (by omega) (fun i j hij hj=>by omega) last
   unfold kas_descPart
   rw[fc]
   obtain⟨m,b1,b2,b3,b4⟩:=vj O h (N - (1+1)) (1+1) (by omega) (by omega) d2
   rw[b1]
   show Asc c (kRun c (if (0:Nat)>0 then _ else kas_tail3 m N p)).2 _/\_
   rw[if_neg (by omega)]
   have mN:m <= N:=by omega
   unfold kas_tail3
   rw[fc]
   obtain⟨c1,c2,c3,_⟩:=tJ O (h.rev 0 m) (N - m) m (by omega) (by omega) (b2.rev h mN)
   exact⟨c1,by show 1 <= kRun c _;omega,by show kRun c _ <= N;omega⟩
theorem mZ(O:StrO N c)(h:PmN N p){k:Nat}(hk:k<N)(a:Asc c p k):∀(f l r:Nat),r - l <= f->l <= r->r <= k->(∀i,i<l->c (p.getD i 0) (p.getD k 0)=true)->(∀i,r <= i->i<k->c (p.getD k 0) (p.getD i 0)=true) ->
  (kRun c (kas_place p k f l r) <= k/\(∀i,i<kRun c (kas_place p k f l r)->c (p.getD i 0) (p.getD k 0)=true)/\∀i,kRun c (kas_place p k f l r) <= i->i<k->c (p.getD k 0) (p.getD i 0)=true)
 |0,l,r,hf,hlr,hr,h1,h2=>by
  show l <= k/\_
  have:l=r:=by omega
  subst this
  exact⟨hr,h1,h2⟩
 |f+1,l,r,hf,hlr,hr,h1,h2=>by
  have h0:0<N:=by omega
  unfold kas_place
  by_cases e:l ≥ r
  ·rw[if_pos e]
   have:l=r:=by omega
   subst this
   exact⟨hr,h1,h2⟩
  ·rw[if_neg e]
   have e3:∀(t u:KasT Nat),kRun c (.ask (p.getD k 0) (p.getD ((l+r) / 2) 0) fun b=>if b=true then t else u)=kRun c (if c (p.getD k 0) (p.getD ((l+r) / 2) 0)=true then t else u):=fun _ _=>rfl
   rw[e3]
   cases z:c (p.getD k 0) (p.getD ((l+r) / 2) 0) with
   |true =>
    rw[if_pos rfl]
    refine mZ O h hk a f l ((l+r) / 2) (by omega) (by omega) (by omega) h1 fun i hi hik=>?_
    by_cases y:i=(l+r) / 2
    ·rw[y];exact z
    ·exact O.tr _ _ _ (h.lt h0 _) (h.lt h0 _) (h.lt h0 _) z (a _ _ (by omega) hik)
   |false =>
    rw[if_neg (by intro z;cases z)]
    have z':c (p.getD ((l+r) / 2) 0) (p.getD k 0)=true:=O.to _ _ (h.lt h0 _) (h.lt h0 _) (h.ne hk (by omega) (by omega)) z
    refine mZ O h hk a f ((l+r) / 2+1) r (by omega) (by omega) hr (fun i hi=>?_) h2
    by_cases y:i=(l+r) / 2
    ·rw[y];exact z'
    ·exact O.tr _ _ _ (h.lt h0 _) (h.lt h0 _) (h.lt h0 _) (a i _ (by omega) (by omega)) z'
theorem Asc.bub(h:PmN N p){k l:Nat}(hk:k<N)(a:Asc c p k)(hl:l <= k)(h1:∀i,i<l->c (p.getD i 0) (p.getD k 0)=true)(h2:∀i,l <= i->i<k->c (p.getD k 0) (p.getD i 0)=true):Asc c (bubble p k (k - l)) (k+1):=by
 intro i j hij hj
 have s:=h.size
 have e:=vm (p:=p) (k:=k) (by omega) (k - l) (by omega)
 have el:k - (k - l)=l:=by omega
 rw[e i,e j,el]
 by_cases i1:i=l
 ·rw[if_pos i1,if_neg (by omega),if_pos (by omega)]
  exact h2 (j - 1) (by omega) (by omega)
 ·rw[if_neg i1]
  by_cases j1:j=l
  ·rw[if_pos j1,if_neg (by omega)]
   exact h1 i (by omega)
  ·rw[if_neg j1]
   by_cases i2:l<i/\i <= k
   ·rw[if_pos i2,if_pos (by omega)]
    exact a _ _ (by omega) (by omega)
   ·rw[if_neg i2]
    by_cases j2:l<j/\j <= k
    ·rw[if_pos j2]
     exact a _ _ (by omega) (by omega)
    ·rw[if_neg j2]
     exact a _ _ hij (by omega)
theorem yw(O:StrO N c):∀(f:Nat) (p:Array Nat) (k:Nat),PmN N p->1 <= k->k+f=N->Asc c p k->Asc c (kRun c (kas_bin f p k)) N
 |0,p,k,h,_,e,a=>by
  have:k=N:=by omega
  subst this
  exact a
 |f+1,p,k,h,hk,e,a=>by
  unfold kas_bin
  rw[fc]
  obtain⟨b1,b2,b3⟩:=mZ O h (k:=k) (by omega) a k 0 k (by omega) (by omega) (zzh _) (fun i hi=>by omega) (fun i hi hik=>by omega)
  exact yw O f _ (k+1) (h.bub _ _) (by omega) (by omega) (a.bub h (by omega) b1 b2 b3)
theorem Al(O:StrO N c)(h2:2 <= N):Asc c (kRun c (kas_sort N)) N:=by
 have hp:PmN N (List.toArray (List.range N)):=by unfold PmN;rw[zyz]
 unfold kas_sort
 rw[fc]
 obtain⟨a1,a2,a3⟩:=yu O hp h2
 have pm:=KGood.end c _ (oQ (N:=N) (by omega) hp N)
 generalize kRun c (kas_count N (List.toArray (List.range N)))=r at a1 a2 a3 pm
 by_cases e:r.1<N
 ·rw[if_pos e]
  have em:max r.1 1=r.1:=by omega
  rw[em]
  exact yw O _ _ _ pm a2 (by omega) a1
 ·rw[if_neg e]
  have:r.1=N:=by omega
  rw[this]at a1
  exact a1
end
end L2
namespace L2
open PySem PySem.Spec PyProof.Rows
def IterX:Bool->Heap->Addr->Addr->Nat->Prop
 |true,h,i,a,k=>h.IsTupleIter i a k
 |false,h,i,a,k=>h.IsListIter i a k
def SeqX:Bool->Heap->Addr->Array Value->Prop
 |true,h,a,xs=>h.IsTuple a xs
 |false,h,a,xs=>h.IsList a xs
theorem IterX.extBut{t:Bool}{h h':Heap}{i a b:Addr}{k:Nat}(x:IterX t h i a k)(hs:Heap.ExtBut b h h')(e:i≠b):IterX t h' i a k:=by
 cases t with
 |true=>exact Heap.IsTupleIter.extBut x hs e
 |false=>exact Heap.IsListIter.extBut x hs e
theorem IterX.at{t:Bool}{h h':Heap}{i a:Addr}{k:Nat}(x:IterX t h i a k)(e:∀o,h.get? i=some o->h'.get? i=some o):IterX t h' i a k:=by
 cases t with
 |true=>exact Heap.IsTupleIter.at x e
 |false=>exact Heap.IsListIter.at x e
theorem IterX.cell{t:Bool}{h:Heap}{i a:Addr}{k:Nat}(x:IterX t h i a k):∃o,h.get? i=some o/\∀v,o.data ≠ .cell v:=by
 cases t with
 |true=>obtain⟨o,e,_,d⟩:=(show h.IsTupleIter i a k from x);exact⟨o,e,fun v z=>by rw[d]at z;cases z⟩
 |false=>obtain⟨o,e,_,d⟩:=(show h.IsListIter i a k from x);exact⟨o,e,fun v z=>by rw[d]at z;cases z⟩
theorem SeqX.extBut{t:Bool}{h h':Heap}{a b:Addr}{xs:Array Value}(x:SeqX t h a xs)(hs:Heap.ExtBut b h h')(e:a≠b):SeqX t h' a xs:=by
 cases t with
 |true=>exact Heap.IsTuple.extBut x hs e
 |false=>exact Heap.IsList.extBut x hs e
theorem SeqX.at{t:Bool}{h h':Heap}{a:Addr}{xs:Array Value}(x:SeqX t h a xs)(e:∀o,h.get? a=some o->h'.get? a=some o):SeqX t h' a xs:=by
 cases t with
 |true=>obtain⟨o,ho,r⟩:=(show h.IsTuple a xs from x);exact⟨o,e o ho,r⟩
 |false=>exact Heap.IsList.at x e
theorem SeqX.lt{t:Bool}{h:Heap}{a:Addr}{xs:Array Value}(x:SeqX t h a xs):a<h.objs.size:=by
 cases t with
 |true=>obtain⟨o,ho,_⟩:=(show h.IsTuple a xs from x);exact zzr ho
 |false=>obtain⟨o,ho,_⟩:=(show h.IsList a xs from x);exact zzr ho
section
variable{prog:Program}{w:World}{A:Around}{E:Value->Shared->Prop}{s:Shared}
theorem nc{it t:Addr}{i:Nat}{xs:Array Value}{v:Value}{Q:Value->Shared->Prop}(h1:s.heap.IsTupleIter it t i)(h2:s.heap.IsTuple t xs)(h3:xs[i]? = some v)
  (q:∀h',h'.IsTupleIter it t (i+1)->Heap.SameBut it s.heap h'->Q v { s with heap:=h' }):wpAny (model prog w) A (Builtin.SmallTypes.nextOf (.ref it)) Q E s:=by
 obtain⟨ob,ho,oc,od⟩:=id h1
 obtain⟨ot,hot,_,nt,odt⟩:=h2
 unfold Builtin.SmallTypes.nextOf
 refine wpAny_bind (wpAny_callSpecial?_slot (name:=Str.ofString "__next__") h1.typeIs F.slot_tuple_iterator_next (wpAny_call_entry F.slot_tuple_iterator_next h1.typeIs F.entry_tuple_iterator_next ?_ (F.args_tuple_iterator_next_1 _)))
 refine(show wpAny _ _ (field (.ref it) 0 >>= _) _ _ s from wpAny_bind (wpAny_field ho od (x:=.ref t) rfl ?_))
 refine(show wpAny _ _ (if (Value.ref t == Value.none)=true then _ else _) _ _ s from ?_)
 rw[if_neg (show ¬((Value.ref t == Value.none)=true) from fun z=>nomatch z)]
 refine(show wpAny _ _ (field (.ref it) 1 >>= _) _ _ s from wpAny_bind (wpAny_field ho od (x:=.int i 0) rfl ?_))
 refine(show wpAny _ _ (seqItems? (.ref t) >>= _) _ _ s from wpAny_bind (wpAny_seqItems hot odt ?_))
 simp only[zzY,h3]
 refine wpAny_bind (wpAny_setField ho od (by simp) (wpAny_pure ⟨v,rfl,wpAny_pure (q _ ⟨_,zyv _ ho (Obj.isFreed_of_fields (Obj.data_mapFields od _)),(Obj.cls_mapFields ..).trans oc,by rw[Obj.data_mapFields od];simp[rawInt]⟩ (zzX ..))⟩))
theorem oB{it t:Addr}{i:Nat}{xs:Array Value}{Q:Value->Shared->Prop}(hh:A.handled=none)(h1:s.heap.IsTupleIter it t i)(h2:s.heap.IsTuple t xs)(h3:xs[i]? = none)
  (q:∀h' e,Heap.ExtBut it s.heap h'->(∃o,h'.get? e=some o/\o.cls=.type "StopIteration")->E (.ref e) { s with heap:=h' }):wpAny (model prog w) A (Builtin.SmallTypes.nextOf (.ref it)) Q E s:=by
 obtain⟨ob,ho,oc,od⟩:=id h1
 obtain⟨ot,hot,_,nt,odt⟩:=h2
 unfold Builtin.SmallTypes.nextOf
 refine wpAny_bind (wpAny_callSpecial?_slot (name:=Str.ofString "__next__") h1.typeIs F.slot_tuple_iterator_next (wpAny_call_entry F.slot_tuple_iterator_next h1.typeIs F.entry_tuple_iterator_next ?_ (F.args_tuple_iterator_next_1 _)))
 refine(show wpAny _ _ (field (.ref it) 0 >>= _) _ _ s from wpAny_bind (wpAny_field ho od (x:=.ref t) rfl ?_))
 refine(show wpAny _ _ (if (Value.ref t == Value.none)=true then _ else _) _ _ s from ?_)
 rw[if_neg (show ¬((Value.ref t == Value.none)=true) from fun z=>nomatch z)]
 refine(show wpAny _ _ (field (.ref it) 1 >>= _) _ _ s from wpAny_bind (wpAny_field ho od (x:=.int i 0) rfl ?_))
 refine(show wpAny _ _ (seqItems? (.ref t) >>= _) _ _ s from wpAny_bind (wpAny_seqItems hot odt ?_))
 simp only[zzY,h3]
 refine wpAny_bind (wpAny_rule (wpAny_bind (wpAny_setField ho od (by simp) ?_)))
 refine(show wpAny _ _ (newExc (.type "StopIteration") [] >>= _) _ _ _ from wpAny_bind ?_)
 simp only[newExc,newTuple]
 refine wpAny_bind (wpAny_newObj_type (wpAny_bind (m:=firstArgMember _ _) (wpAny_of_eq (a:=Value.none) (by first|rfl | (simp only[firstArgMember];rfl)) (wpAny_newObj_type ?_ (by size_fits)))) (by size_fits))
 simp only[raiseNew];refine wpAny_bind (wpAny_handled ?_);(first|rw[show A.in1.handled=none from hh]|rw[hh]);refine wpAny_bind (wpAny_pure (wpAny_throw ?_))
 exact q _ _ (((zzX ..).extBut.push _).push _) ⟨_,zzn _ rfl,rfl⟩
theorem jF{b:Bool}{it t:Addr}{i:Nat}{xs:Array Value}{v:Value}{Q:Value->Shared->Prop}(h1:IterX b s.heap it t i)(h2:SeqX b s.heap t xs)(h3:xs[i]? = some v)
  (q:∀h',IterX b h' it t (i+1)->Heap.SameBut it s.heap h'->Q v { s with heap:=h' }):wpAny (model prog w) A (Builtin.SmallTypes.nextOf (.ref it)) Q E s:=by
 cases b with
 |true=>exact nc h1 h2 h3 q
 |false=>exact wpAny_nextOf_list_item h1 h2 h3 q
theorem lD{b:Bool}{it t:Addr}{i:Nat}{xs:Array Value}{Q:Value->Shared->Prop}(hh:A.handled=none)(h1:IterX b s.heap it t i)(h2:SeqX b s.heap t xs)(h3:xs[i]? = none)
  (q:∀h' e,Heap.ExtBut it s.heap h'->(∃o,h'.get? e=some o/\o.cls=.type "StopIteration")->E (.ref e) { s with heap:=h' }):wpAny (model prog w) A (Builtin.SmallTypes.nextOf (.ref it)) Q E s:=by
 cases b with
 |true=>exact oB hh h1 h2 h3 q
 |false=>exact wpAny_nextOf_list_end hh h1 h2 h3 q
end
section
variable{tk:Addr->Bool}
def Bv(tk:Addr->Bool)(h:Heap)(n:Nat)(src:List (Addr×Array Value))(k c:Nat):Prop:=∀(j:Nat) (p:Addr×Array Value),src[j]? = some p->IterX (tk p.1) h (n+j) p.1 (if j<c then k+1 else k)
def Bw(tk:Addr->Bool)(h:Heap)(n:Nat)(src:List (Addr×Array Value)):Prop:=∀(j:Nat) (p:Addr×Array Value),src[j]? = some p->p.1<n/\SeqX (tk p.1) h p.1 p.2
structure ZipStM(tk:Addr->Bool)(h:Heap)(n:Nat)(src:List (Addr×Array Value))(k:Nat):Prop where
 zip:∃f0 f1,OwnF f0/\eG h (n+src.length+2) (n+src.length) (n+src.length+1) f0 f1
 ti:dI h (n+src.length) (itsL n src.length).toArray
 to:∃ws:Array Value,ws.size=src.length/\dI h (n+src.length+1) ws
 its:Bv tk h n src k 0
 ls:Bw tk h n src
 ne:src≠[]
structure ZipLpM(tk:Addr->Bool)(h0:Heap)(n:Nat)(src:List (Addr×Array Value))(k c:Nat)(h:Heap):Prop where
 ti:dI h (n+src.length) (itsL n src.length).toArray
 its:Bv tk h n src k c
 ls:Bw tk h n src
 kept:KeptZ n src.length h0 h
 sz:h.objs.size=h0.objs.size
section
variable{h0 h h':Heap}{n k c:Nat}{src:List (Addr×Array Value)}
theorem ZipLpM.same{a:Nat}(L:ZipLpM tk h0 n src k c h)(hs:Heap.SameBut a h h')(ha:a=n+src.length+1∨a=n+src.length+2):ZipLpM tk h0 n src k c h' where
 ti:=hs.extBut _ _ (by intro e;have e:(_:Nat)=(_:Nat):=e;omega) L.ti
 its:=fun j p hj=>(L.its j p hj).extBut hs.extBut (by have:=iE hj;intro e;have e:(_:Nat)=(_:Nat):=e;omega)
 ls:=fun j p hj=>⟨(L.ls j p hj).1,(L.ls j p hj).2.extBut hs.extBut (zzJ (zzz (L.ls j p hj).1 (show n <= a by omega)))⟩
 kept:=fun b o hb e=>hs.extBut _ _ (by intro e;have e:(_:Nat)=(_:Nat):=e;omega) (L.kept b o hb e)
 sz:=hs.1.trans L.sz
theorem ZipLpM.next{p:Addr×Array Value}(L:ZipLpM tk h0 n src k c h)(hc:src[c]? = some p)(hit:IterX (tk p.1) h' (n+c) p.1 (k+1))(hs:Heap.SameBut (n+c) h h'):ZipLpM tk h0 n src k (c+1) h':=by
 have lt:=iE hc
 refine⟨hs.extBut _ _ (by intro e;have e:(_:Nat)=(_:Nat):=e;omega) L.ti,fun j q hj=>?_,fun j q hj=>⟨(L.ls j q hj).1,(L.ls j q hj).2.extBut hs.extBut (zzJ (zzz (L.ls j q hj).1 (Nat.le_add_right n c)))⟩,fun b o hb e=>hs.extBut _ _ (by intro e;have e:(_:Nat)=(_:Nat):=e;omega) (L.kept b o hb e),hs.1.trans L.sz⟩
 by_cases z:j=c
 ·subst z
  rw[hc]at hj
  cases hj
  rw[if_pos (by omega)]
  exact hit
 ·have:=(L.its j q hj).extBut hs.extBut (by intro e;have e:(_:Nat)=(_:Nat):=e;omega)
  by_cases y:j<c
  ·rw[if_pos y]at this
   rw[if_pos (by omega)]
   exact this
  ·rw[if_neg y]at this
   rw[if_neg (by omega)]
   exact this
theorem KeptZ.stepM{a:Nat}(L:ZipLpM tk h0 n src k c h)(hs:Heap.ExtBut a h h')(ha:(n <= a/\a<n+src.length)∨a=n+src.length+1∨a=n+src.length+2):KeptZ n src.length h0 h' :=
 fun b o hb e=>hs _ _ (by intro e;have e:(_:Nat)=(_:Nat):=e;omega) (L.kept b o hb e)
end
section
variable{prog:Program}{w:World}{A:Around}{E:Value->Shared->Prop}{s:Shared}
set_option maxHeartbeats 1000000 in
theorem yx{n k:Nat}{src:List (Addr×Array Value)}{Q:Value->Shared->Prop}(hh:A.handled=none)(hsz:src.length <= sizeLine)(hs:ZipStM tk s.heap n src k)
  (hQ:∀vs h',Told src k src.length vs->ZipStM tk h' n src (k+1)->dI h' s.heap.objs.size vs.toArray->h'.objs.size=s.heap.objs.size+1->KeptZ n src.length s.heap h'->Q (.ref s.heap.objs.size) { s with heap:=h' })
  (hE:(∃(j:Nat) (p:Addr×Array Value),src[j]? = some p/\p.2[k]? = none)->∀h' e,KeptZ n src.length s.heap h'->(∃o,h'.get? e=some o/\o.cls=.type "StopIteration")->E (.ref e) { s with heap:=h' }) :
  wpAny (model prog w) A (Builtin.«zip.__next__» ⟨[.ref (n+src.length+2)],[]⟩) (fun fin s'=>∃v,fin=.done (.ret v)/\Q v s') E s:=by
 obtain⟨⟨f0,f1,hf,hz⟩,hTI,⟨ws,hws,hTO⟩,hit,hls,hne⟩:=hs
 show wpAny _ _ (field (.ref (n+src.length+2)) 2 >>= _) _ _ _
 refine wpAny_bind (wpAny_field hz rfl (x:=.bool false) rfl ?_)
 show wpAny _ _ (field (.ref (n+src.length+2)) 3 >>= _) _ _ _
 refine wpAny_bind (wpAny_field hz rfl (x:=.ref (n+src.length)) rfl ?_)
 refine wpAny_bind (wpAny_seqItems hTI rfl ?_)
 have hem:((itsL n src.length).toArray.isEmpty)=false:=by
  cases src with
  |nil=>exact absurd rfl hne
  |cons a l=>simp[itsL]
 simp only[hem,zyr,if_false]
 refine wpAny_bind (Ae hf hz ?_ fun h1 f1' hz1 hs1=>?_)
 ·simp only[if_true]
  refine wpAny_bind (wpAny_rule ?_)
  refine wpAny_bind (wpAny_field hz rfl (x:=.ref (n+src.length+1)) rfl ?_)
  refine wpAny_bind (wpAny_setField_rec hz (by simp) fun h₁ hz₁ hs₁=>?_)
  replace hz₁:eG h₁ (n+src.length+2) (n+src.length) (n+src.length+1) .ellipsis f1:=hz₁
  have L0:ZipLpM tk s.heap n src k 0 s.heap:=⟨hTI,hit,hls,fun _ _ _ e=>e,rfl⟩
  have L1:=L0.same hs₁ (.inr rfl)
  have hTO₁:dI h₁ (n+src.length+1) ws:=hs₁.extBut _ _ (by intro e;have e:(_:Nat)=(_:Nat):=e;omega) hTO
  refine wpAny_bind (wpAny_forIn_list _ (fun rest b s'=>∃c h ws vs,rest=((itsL n src.length).toArray.toList.zipIdx).drop c/\c <= src.length/\b=(none,())/\s'={ s with heap:=h }/\eG h (n+src.length+2) (n+src.length) (n+src.length+1) .ellipsis f1/\ZipLpM tk s.heap n src k c h/\Told src k c vs/\ws.size=src.length/\dI h (n+src.length+1) ws/\∀j,j<c->ws[j]? = vs[j]?) _ ?turn ?fin _ _ ⟨0,h₁,ws,[],rfl,zzH _,rfl,rfl,hz₁,L1,⟨rfl,fun j p hj=>absurd hj (zyq _)⟩,hws,hTO₁,fun j hj=>absurd hj (zyq _)⟩)
  case turn =>
   rintro x rest b s' ⟨c,h,ws,vs,hr,hc,rfl,rfl,hz,L,ht,hws,hTO,hw⟩
   obtain⟨hx,hr2⟩:=yb hr.symm
   have hc:c<src.length:=by
    have:=iE hx
    simpa using this
   rw[zyz,List.getElem?_zipIdx,yc hc]at hx
   simp only[zyF,Nat.zero_add,Option.some.injEq]at hx
   subst hx
   have hp:src[c]? = some src[c]:=by simp[hc]
   have hi:=L.its c _ hp
   rw[if_neg (zyn _)]at hi
   have hl:=(L.ls c _ hp).2
   refine wpAny_bind (wpAny_onRaise ?_)
   show wpAny _ _ (Builtin.SmallTypes.nextOf (.ref (n+c)) >>= _) _ _ _
   cases ev:(src[c]).2[k]? with
   |none =>
    refine wpAny_bind (lD hh hi hl ev fun h₂ e hs₂ he=>?_)
    obtain⟨oe,hoe,hce⟩:=he
    have hz₂:eG h₂ (n+src.length+2) (n+src.length) (n+src.length+1) .ellipsis f1:=hs₂ _ _ (by intro e;have e:(_:Nat)=(_:Nat):=e;omega) hz
    have hez:e≠n+src.length+2:=fun x=>by subst x;rw[hz₂]at hoe;cases hoe;simp at hce
    refine wpAny_setField_rec hz₂ (by simp) fun h₃ _ hs₃=>hE ⟨c,_,hp,ev⟩ h₃ e (fun b o hb x=>hs₃.extBut _ _ (by intro e;have e:(_:Nat)=(_:Nat):=e;omega) (KeptZ.stepM L hs₂ (.inl ⟨Nat.le_add_right _ _,by omega⟩) b o hb x)) ⟨oe,hs₃.extBut _ _ hez hoe,hce⟩
   |some v =>
    refine wpAny_bind (jF hi hl ev fun h₂ hi₂ hs₂=>wpAny_pure ?_)
    have hTO₂:dI h₂ (n+src.length+1) ws:=hs₂.extBut _ _ (by intro e;have e:(_:Nat)=(_:Nat):=e;omega) hTO
    have hz₂:eG h₂ (n+src.length+2) (n+src.length) (n+src.length+1) .ellipsis f1:=hs₂.extBut _ _ (by intro e;have e:(_:Nat)=(_:Nat):=e;omega) hz
    refine wpAny_bind (wpAny_seqItems hTO₂ rfl ?_)
    refine wpAny_bind (iF hTO₂ (by omega) fun h₃ hTO₃ hs₃=>?_)
    refine wpAny_bind (wpAny_letGo (wpAny_pure ?_))
    refine⟨c+1,h₃,_,vs++[v],hr2.symm,hc,rfl,rfl,hs₃.extBut _ _ (by intro e;have e:(_:Nat)=(_:Nat):=e;omega) hz₂,(L.next hp hi₂ hs₂).same hs₃ (.inl rfl),ht.push hp ev,by simp[hws],hTO₃,fun j hj=>?_⟩
    rw[Array.getElem?_setIfInBounds]
    by_cases z:c=j
    ·subst z
     rw[if_pos rfl,if_pos (by omega),zzU (by rw[ht.1];exact zzh _),ht.1]
     simp
    ·rw[if_neg z,hw j (by omega),zyk (by rw[ht.1];omega)]
  case fin =>
   rintro b s' ⟨c,h,ws,vs,hr,hc,rfl,rfl,hz,L,ht,hws,hTO,hw⟩
   have hc:c=src.length:=by
    have:=congrArg List.length hr
    simp at this
    omega
   subst hc
   refine wpAny_bind (wpAny_seqItems hTO rfl ?_)
   have ews:ws=vs.toArray:=by
    have:ws.toList=vs:=List.ext_getElem? fun j=>by
     rw[zyw]
     by_cases z:j<src.length
     ·exact hw j z
     ·rw[zyQ (by omega),List.getElem?_eq_none (by rw[ht.1];omega)]
    rw[←this]
   subst ews
   refine wpAny_bind (wpAny_newTuple ?_ (by simp[ht.1];exact hsz))
   show wpAny _ _ (Builtin.SmallTypes.ownedTupleHandOut (.ref (n+src.length+2)) (.ref h.objs.size) >>= _) _ _ _
   refine wpAny_bind ?_
   unfold Builtin.SmallTypes.ownedTupleHandOut
   have hzlt:n+src.length+2<h.objs.size:=zzr hz
   have hz₆:eG (h.push { cls:=.type "tuple",data:=.seq vs.toArray.toList.toArray }) (n+src.length+2) (n+src.length) (n+src.length+1) .ellipsis f1:=zzf _ hz
   refine wpAny_bind (wpAny_setField_rec hz₆ (by simp) fun h₇ hz₇ hs₇=>?_)
   replace hz₇:eG h₇ (n+src.length+2) (n+src.length) (n+src.length+1) (rawInt h.objs.size) f1:=hz₇
   refine wpAny_setField_rec hz₇ (by simp) fun h₈ hz₈ hs₈=>?_
   replace hz₈:eG h₈ (n+src.length+2) (n+src.length) (n+src.length+1) (rawInt h.objs.size) (.bool false):=hz₈
   have up:∀c o,c≠n+src.length+2->h.get? c=some o->h₈.get? c=some o:=fun c o c1 e=>hs₈.extBut _ _ c1 (hs₇.extBut _ _ c1 (zzf _ e))
   have hT₈:dI h₈ h.objs.size vs.toArray:=hs₈.extBut _ _ (Nat.ne_of_gt hzlt) (hs₇.extBut _ _ (Nat.ne_of_gt hzlt) (zzn _ rfl))
   have hz8:h₈.objs.size=h.objs.size+1:=by rw[hs₈.1,hs₇.1,zyg]
   have esz:=L.sz
   rw[esz]at hT₈ hz8
   refine wpAny_pure ⟨_,rfl,?_⟩
   show Q (.ref h.objs.size) _
   rw[esz]
   refine hQ vs h₈ ht ⟨⟨_,_,.inr ⟨_,rfl⟩,hz₈⟩,up _ _ (by intro e;have e:(_:Nat)=(_:Nat):=e;omega) L.ti,⟨_,hws,up _ _ (by intro e;have e:(_:Nat)=(_:Nat):=e;omega) hTO⟩,fun j p hj=>?_,fun j p hj=>⟨(L.ls j p hj).1,(L.ls j p hj).2.at fun o e=>up _ o (zzJ (zzz (L.ls j p hj).1 (show n <= n+src.length+2 by omega))) e⟩,hne⟩ hT₈ hz8 fun b o hb e=>up b o (by intro e;have e:(_:Nat)=(_:Nat):=e;omega) (L.kept b o hb e)
   have:=iE hj
   have h1:=(L.its j p hj).at fun o e=>up _ o (by intro e;have e:(_:Nat)=(_:Nat):=e;omega) e
   rw[if_pos this]at h1
   rw[if_neg (zyq _)]
   exact h1
 ·simp only[zyr,if_false]
  have L0:ZipLpM tk s.heap n src k 0 s.heap:=⟨hTI,hit,hls,fun _ _ _ e=>e,rfl⟩
  have L1:=L0.same hs1 (.inr rfl)
  have hTO₁:dI h1 (n+src.length+1) ws:=hs1.extBut _ _ (by intro e;have e:(_:Nat)=(_:Nat):=e;omega) hTO
  refine wpAny_bind (wpAny_forIn_array' _ (fun rest b s'=>∃c h vs,rest=((itsL n src.length).toArray.toList).drop c/\c <= src.length/\b=(none,vs.toArray)/\s'={ s with heap:=h }/\eG h (n+src.length+2) (n+src.length) (n+src.length+1) f0 f1'/\ZipLpM tk s.heap n src k c h/\Told src k c vs/\dI h (n+src.length+1) ws) _ ?turn2 ?fin2 _ _ ⟨0,h1,[],rfl,zzH _,rfl,rfl,hz1,L1,⟨rfl,fun j p hj=>absurd hj (zyq _)⟩,hTO₁⟩)
  case turn2 =>
   rintro x rest b s' ⟨c,h,vs,hr,hc,rfl,rfl,hz,L,ht,hTO⟩
   obtain⟨hx,hr2⟩:=yb hr.symm
   have hc:c<src.length:=by
    have:=iE hx
    simpa using this
   rw[zyz,yc hc]at hx
   cases hx
   have hp:src[c]? = some src[c]:=by simp[hc]
   have hi:=L.its c _ hp
   rw[if_neg (zyn _)]at hi
   have hl:=(L.ls c _ hp).2
   refine wpAny_bind (wpAny_holding ?_)
   show wpAny _ _ (Builtin.SmallTypes.nextOf (.ref (n+c)) >>= _) _ _ _
   cases ev:(src[c]).2[k]? with
   |none =>
    refine wpAny_bind (lD hh hi hl ev fun h₂ e hs₂ he=>?_)
    exact hE ⟨c,_,hp,ev⟩ h₂ e (KeptZ.stepM L hs₂ (.inl ⟨Nat.le_add_right _ _,by omega⟩)) he
   |some v =>
    refine wpAny_bind (jF hi hl ev fun h₂ hi₂ hs₂=>wpAny_pure ?_)
    refine wpAny_pure ⟨c+1,h₂,vs++[v],hr2.symm,hc,by simp,rfl,hs₂.extBut _ _ (by intro e;have e:(_:Nat)=(_:Nat):=e;omega) hz,L.next hp hi₂ hs₂,ht.push hp ev,hs₂.extBut _ _ (by intro e;have e:(_:Nat)=(_:Nat):=e;omega) hTO⟩
  case fin2 =>
   rintro b s' ⟨c,h,vs,hr,hc,rfl,rfl,hz,L,ht,hTO⟩
   have hc:c=src.length:=by
    have:=congrArg List.length hr
    simp at this
    omega
   subst hc
   refine wpAny_bind (wpAny_newTuple ?_ (by simp[ht.1];exact hsz))
   have hT₈:dI (h.push { cls:=.type "tuple",data:=.seq vs.toArray.toList.toArray }) h.objs.size vs.toArray:=zzn _ rfl
   have up:∀c o,h.get? c=some o->(h.push { cls:=.type "tuple",data:=.seq vs.toArray.toList.toArray }).get? c=some o:=fun c o e=>zzf _ e
   have hz8:(h.push { cls:=.type "tuple",data:=.seq vs.toArray.toList.toArray }).objs.size=h.objs.size+1:=zyg ..
   have esz:=L.sz
   rw[esz]at hT₈ hz8
   refine wpAny_pure ⟨_,rfl,?_⟩
   show Q (.ref h.objs.size) _
   rw[esz]
   refine hQ vs _ ht ⟨⟨_,_,hf,up _ _ hz⟩,up _ _ L.ti,⟨_,hws,up _ _ hTO⟩,fun j p hj=>?_,fun j p hj=>⟨(L.ls j p hj).1,(L.ls j p hj).2.at fun o e=>up _ o e⟩,hne⟩ hT₈ hz8 fun b o hb e=>up b o (L.kept b o hb e)
   have:=iE hj
   have h1:=(L.its j p hj).at fun o e=>up _ o e
   rw[if_pos this]at h1
   rw[if_neg (zyq _)]
   exact h1
end
theorem ff{prog:Program}{w:World}{A:Around}{E:Value->Shared->Prop}{s:Shared}{n k:Nat}{src:List (Addr×Array Value)}{Q:Option Value->Shared->Prop}(hh:A.handled=none)(hsz:src.length <= sizeLine)(hs:ZipStM tk s.heap n src k)
  (hQ:∀vs h',Told src k src.length vs->ZipStM tk h' n src (k+1)->dI h' s.heap.objs.size vs.toArray->h'.objs.size=s.heap.objs.size+1->KeptZ n src.length s.heap h'->Q (some (.ref s.heap.objs.size)) { s with heap:=h' })
  (hE:(∃(j:Nat) (p:Addr×Array Value),src[j]? = some p/\p.2[k]? = none)->∀h',KeptZ n src.length s.heap h'->Q none { s with heap:=h' }) :
  wpAny (model prog w) A (pyNext (.ref (n+src.length+2))) Q E s:=by
 obtain⟨f0,f1,_,hz⟩:=hs.zip
 have hT:s.TypeIs (.ref (n+src.length+2)) "zip":=⟨_,hz,rfl⟩
 unfold pyNext
 refine wpAny_bind (wpAny_attempt (wpAny_callSpecial?_slot (name:=Str.ofString "__next__") hT F.slot_zip_next
  (wpAny_call_entry F.slot_zip_next hT F.entry_zip_next (yx hh hsz hs (fun vs h' a1 a2 a3 a4 a5=>wpAny_pure (hQ vs h' a1 a2 a3 a4 a5)) fun a h' e hk he=>?_) (F.args_zip_next_1 _))))
 obtain⟨o,ho,hc⟩:=he
 refine wpAny_bind (wpAny_isInstance (T:="StopIteration") (b:=true) ⟨o,ho,hc⟩ isSubtype_stop ?_)
 exact wpAny_pure (hE a _ hk)
def Am(tk:Addr->Bool)(s:Shared)(src:List (Addr×Array Value))(Q:Value->Shared->Prop):Prop :=
 ∀h',ZipStM tk h' s.heap.objs.size src 0->h'.objs.size=s.heap.objs.size+src.length+3->(∀c o,s.heap.get? c=some o->h'.get? c=some o)->Q (.ref (s.heap.objs.size+src.length+2)) { s with heap:=h' }
def SqX(tk:Addr->Bool)(K:PySem.W.Frag)(H:Hp)(a:Addr)(xs:List V):Prop:=if tk a=true then SqT K H a xs else SqL K H a xs
theorem SqX.inj{X:Cx}{pins:List (Addr×Obj)}{σ:St}{H:Hp}{s:Shared}(I:Inv X pins σ H s){a:Addr}{xs ys:List V}(h1:SqX tk X.K H a xs)(h2:SqX tk X.K H a ys):xs=ys:=by
 unfold SqX at h1 h2
 cases e:tk a with
 |true=>rw[if_pos e]at h1 h2;exact I.tuple_inj h1 h2
 |false=>rw[if_neg (by rw[e];intro z;cases z)]at h1 h2;exact I.list_inj h1 h2
theorem SqX.at{X:Cx}{pins:List (Addr×Obj)}{σ:St}{H:Hp}{s:Shared}(I:Inv X pins σ H s){a:Addr}{xs:List V}(h:SqX tk X.K H a xs):∃its:List Value,Vals xs its/\SeqX (tk a) s.heap a its.toArray/\xs.length <= sizeLine:=by
 unfold SqX at h
 cases e:tk a with
 |true =>
  rw[if_pos e]at h
  obtain⟨its,rv,p,hz⟩:=I.tuple h
  exact⟨its,rv,p,hz⟩
 |false =>
  rw[if_neg (by rw[e];intro z;cases z)]at h
  obtain⟨its,rv,p,hz⟩:=I.list h
  exact⟨its,rv,p.isList,hz⟩
theorem pX{X:Cx}{K:PySem.W.Frag}{pins:List (Addr×Obj)}{σ:St}{H:Hp}{s:Shared}(hK:X.K=K)(I:Inv X pins σ H s):∀{as:List Addr}{xss:List (List V)},as.length=xss.length->(∀(j:Nat) a xs,as[j]? = some a->xss[j]? = some xs->SqX tk K H a xs) ->
  ∃src:List (Addr×Array Value),src.map (·.1)=as/\SrcV xss src/\(∀p∈src,SeqX (tk p.1) s.heap p.1 p.2)/\∀xs∈xss,xs.length <= sizeLine
 |[],xss,hl,_=>by
  have h0:xss=[]:=zzK.mp (by rw[←hl];rfl)
  subst h0
  exact⟨[],rfl,⟨rfl,fun j xs p h=>by simp at h⟩,fun p hp=>by simp at hp,fun xs hx=>by simp at hx⟩
 |a::as,[],hl,_=>absurd hl (by simp)
 |a::as,xs::xss,hl,h=>by
  subst hK
  obtain⟨src,h1,h2,h3,h4⟩:=pX rfl I (as:=as) (xss:=xss) (by simpa using hl) fun j a xs ha hx=>h (j+1) a xs (by simpa using ha) (by simpa using hx)
  obtain⟨its,rv,pl,hz⟩:=(h 0 a xs rfl rfl).at I
  refine⟨(a,its.toArray)::src,by simp[h1],⟨by simp[h2.1],fun j ys p hy hp=>?_⟩,fun p hp=>?_,fun ys hy=>?_⟩
  ·cases j with
   |zero=>simp at hy hp;subst hy hp;simpa using rv
   |succ j=>exact h2.2 j ys p (by simpa using hy) (by simpa using hp)
  ·rcases zzj.mp hp with rfl|hp
   ·exact pl
   ·exact h3 p hp
  ·rcases zzj.mp hy with rfl|hy
   ·exact hz
   ·exact h4 ys hy
abbrev itO(t:Bool)(l:Addr):Obj:={ cls:=.type (match t with|true=>"tuple_iterator" |false=>"list_iterator"),data:=.fields #[.ref l,.int 0 0] }
abbrev m2H(t u:Bool)(h:Heap)(l1 l2:Addr):Heap:=(h.push (itO t l1)).push (itO u l2)
abbrev m2T(t u:Bool)(h:Heap)(l1 l2:Addr):Heap:=(m2H t u h l1 l2).push (tuO [.ref h.objs.size,.ref (h.push (itO t l1)).objs.size])
abbrev m2U(t u:Bool)(h:Heap)(l1 l2:Addr):Heap:=(m2T t u h l1 l2).push (tuO [.none,.none])
abbrev m2Z(t u:Bool)(h:Heap)(l1 l2:Addr):Heap:=(m2U t u h l1 l2).push (ziO (m2H t u h l1 l2).objs.size (m2T t u h l1 l2).objs.size)
theorem SeqX.push{t:Bool}{h:Heap}{a:Addr}{xs:Array Value}(x:SeqX t h a xs)(o:Obj):SeqX t (h.push o) a xs:=x.at fun o e=>zzf _ e
theorem Bx{prog:Program}{w:World}{A:Around}{E:Value->Shared->Prop}{s:Shared}{t:Bool}{l:Addr}{xs:Array Value}{Q:Value->Shared->Prop}(h:SeqX t s.heap l xs)(q:Q (.ref s.heap.objs.size) { s with heap:=s.heap.push (itO t l) }):wpAny (model prog w) A (pyIter (.ref l)) Q E s:=by
 cases t with
 |true=>exact wpAny_pyIter_tuple h q
 |false=>exact wpAny_pyIter_list h q
set_option maxHeartbeats 0 in
theorem oC(t u:Bool)(l1 l2:Addr)(xs ys:Array Value) :
  Meets (Builtin.«zip.__new__» ⟨[.type "zip",.ref l1,.ref l2],[]⟩) (fun _ R s=>SeqX t s.heap l1 xs/\SeqX u s.heap l2 ys /\
   R (.ok (.ret (.ref (m2U t u s.heap l1 l2).objs.size))) { s with heap:=m2Z t u s.heap l1 l2 }) :=
 .of_wp fun prog w A R s h=>by
  obtain⟨hp,g,d,tok,os⟩:=s;obtain⟨hl1,hl2,h⟩:=h
  have hsub:=sub_zip
  have hL1:SeqX t (Shared.heap ⟨hp,g,d,tok,os⟩) l1 xs:=hl1
  have hL2:SeqX u (Shared.heap ⟨hp.push (itO t l1),g,d,tok,os⟩) l2 ys:=hl2.push _
  wp_walk using Bx hL1,Bx hL2
  exact⟨_,rfl,h⟩
section
variable{prog:Program}{w:World}{A:Around}{E:Value->Shared->Prop}{s:Shared}
theorem IterX.new{t:Bool}{h:Heap}{i a:Addr}(e:h.get? i=some (itO t a)):IterX t h i a 0:=by
 cases t with
 |true=>exact⟨_,e,rfl,rfl⟩
 |false=>exact⟨_,e,rfl,rfl⟩
theorem yy{p1 p2:Addr×Array Value}{Q:Value->Shared->Prop}(h1:SeqX (tk p1.1) s.heap p1.1 p1.2)(h2:SeqX (tk p2.1) s.heap p2.1 p2.2)(h:Am tk s [p1,p2] Q) :
  wpAny (model prog w) A (call (.type "zip") [.ref p1.1,.ref p2.1]) Q E s:=by
 refine callType_new F.called_zip (by decide) (F.typeCall_zip_2 _ _) (F.newCall_zip_2 _ _) (fun obj=>F.args_object_init_3 obj _ _) F.entry_zip_new (oC (tk p1.1) (tk p2.1) p1.1 p2.1 p1.2 p2.2) ⟨h1,h2,?_⟩
 have z1:(s.heap.push (itO (tk p1.1) p1.1)).objs.size=s.heap.objs.size+1:=zyg ..
 have z2:(m2H (tk p1.1) (tk p2.1) s.heap p1.1 p2.1).objs.size=s.heap.objs.size+2:=by rw[zyg,z1]
 have z3:(m2T (tk p1.1) (tk p2.1) s.heap p1.1 p2.1).objs.size=s.heap.objs.size+3:=by rw[zyg,z2]
 have z4:(m2U (tk p1.1) (tk p2.1) s.heap p1.1 p2.1).objs.size=s.heap.objs.size+4:=by rw[zyg,z3]
 have z5:(m2Z (tk p1.1) (tk p2.1) s.heap p1.1 p2.1).objs.size=s.heap.objs.size+5:=by rw[zyg,z4]
 have up:∀c o,(m2H (tk p1.1) (tk p2.1) s.heap p1.1 p2.1).get? c=some o->(m2Z (tk p1.1) (tk p2.1) s.heap p1.1 p2.1).get? c=some o:=fun c o e=>zzf _ (zzf _ (zzf _ e))
 have g5:(m2Z (tk p1.1) (tk p2.1) s.heap p1.1 p2.1).get? (m2U (tk p1.1) (tk p2.1) s.heap p1.1 p2.1).objs.size=some _:=zzn _ rfl
 have g4:(m2Z (tk p1.1) (tk p2.1) s.heap p1.1 p2.1).get? (m2T (tk p1.1) (tk p2.1) s.heap p1.1 p2.1).objs.size=some _:=zzf _ (zzn _ rfl)
 have g3:(m2Z (tk p1.1) (tk p2.1) s.heap p1.1 p2.1).get? (m2H (tk p1.1) (tk p2.1) s.heap p1.1 p2.1).objs.size=some _:=zzf _ (zzf _ (zzn _ rfl))
 have g2:(m2Z (tk p1.1) (tk p2.1) s.heap p1.1 p2.1).get? (s.heap.push (itO (tk p1.1) p1.1)).objs.size=some (itO (tk p2.1) p2.1):=up _ _ (zzn _ rfl)
 have g1:(m2Z (tk p1.1) (tk p2.1) s.heap p1.1 p2.1).get? s.heap.objs.size=some (itO (tk p1.1) p1.1):=up _ _ (zzf _ (zzn _ rfl))
 have kp:∀c o,s.heap.get? c=some o->(m2Z (tk p1.1) (tk p2.1) s.heap p1.1 p2.1).get? c=some o:=fun c o x=>up _ _ (zzf _ (zzf _ x))
 show _/\_
 rw[z2,z3,z4]at g5
 rw[z1,z2]at g3
 rw[z3]at g4
 rw[z1]at g2
 rw[z4]
 refine⟨⟨_,g5,rfl⟩,h _ ⟨⟨_,_,.inl rfl,g5⟩,g3,⟨_,rfl,g4⟩,fun j p hj=>?_,fun j p hj=>?_,by simp⟩ z5 kp⟩
 ·rw[if_neg (zyq _)]
  rcases j with _|_|j
  ·simp at hj;subst hj;exact .new g1
  ·simp at hj;subst hj;exact .new g2
  ·simp at hj
 ·rcases j with _|_|j
  ·simp at hj;subst hj;exact⟨h1.lt,h1.at fun o e=>kp _ o e⟩
  ·simp at hj;subst hj;exact⟨h2.lt,h2.at fun o e=>kp _ o e⟩
  ·simp at hj
end
def ItzM(tk:Addr->Bool)(K:PySem.W.Frag)(as:List Addr):It :=
 ⟨fun i H=>∀a∈as,∃xs x,SqX tk K H a xs/\xs[i]? = some x,
  fun i H v H'=>∃T r,H T=none/\v=.ref T/\(r.length=as.length/\∀(j:Nat) a xs,as[j]? = some a->SqX tk K H a xs->xs[i]? = r[j]?)/\H'=upd H T (.tup r),
  fun i H=>(∀a∈as,∃xs,SqX tk K H a xs)/\∃a∈as,∃xs,SqX tk K H a xs/\xs.length <= i⟩
structure ZipTnM(tk:Addr->Bool)(n:Nat)(as:List Addr)(k:Nat)(h:Heap):Prop where
 zip:∃f0 f1,OwnF f0/\eG h (n+as.length+2) (n+as.length) (n+as.length+1) f0 f1
 ti:dI h (n+as.length) (itsL n as.length).toArray
 to:∃ws:Array Value,ws.size=as.length/\dI h (n+as.length+1) ws
 its:∀(j:Nat) (a:Addr),as[j]? = some a->IterX (tk a) h (n+j) a k
theorem tK{K:PySem.W.Frag}{H:Hp}:∀{as:List Addr},(∀a∈as,∃xs,SqX tk K H a xs)->∃xss:List (List V),as.length=xss.length/\∀(j:Nat) a xs,as[j]? = some a->xss[j]? = some xs->SqX tk K H a xs
 |[],_=>⟨[],rfl,fun j a xs h=>by simp at h⟩
 |a::as,h=>by
  obtain⟨xs,hx⟩:=h a zzd
  obtain⟨xss,h1,h2⟩:=tK fun b hb=>h b (zzb _ hb)
  refine⟨xs::xss,by simp[h1],fun j b ys hb hy=>?_⟩
  cases j with
  |zero=>simp at hb hy;subst hb hy;exact hx
  |succ j=>exact h2 j b ys (by simpa using hb) (by simpa using hy)
theorem ZipTnM.st{n k:Nat}{as:List Addr}{h:Heap}{src:List (Addr×Array Value)}(t:ZipTnM tk n as k h)(hs:src.map (·.1)=as)(hl:∀p∈src,SeqX (tk p.1) h p.1 p.2)(hlt:∀a∈as,a<n)(hne:as≠[]):ZipStM tk h n src k:=by
 have hlen:src.length=as.length:=by rw[←hs,zza]
 obtain⟨z,ti,to,its⟩:=t
 have at_:∀(j:Nat) (p:Addr×Array Value),src[j]? = some p->as[j]? = some p.1:=fun j p hp=>by rw[←hs,zzq,hp];rfl
 refine⟨by rw[hlen];exact z,by rw[hlen];exact ti,by rw[hlen];exact to,fun j p hp=>?_,fun j p hp=>⟨hlt p.1 (zzM (at_ j p hp)),hl p (zzM hp)⟩,fun e=>hne (by rw[←hs,e];rfl)⟩
 rw[if_neg (zyq _)]
 exact its j p.1 (at_ j p hp)
theorem ZipStM.tn{n k:Nat}{as:List Addr}{h:Heap}{src:List (Addr×Array Value)}(z:ZipStM tk h n src k)(hs:src.map (·.1)=as):ZipTnM tk n as k h:=by
 have hlen:src.length=as.length:=by rw[←hs,zza]
 refine⟨by rw[←hlen];exact z.zip,by rw[←hlen];exact z.ti,by rw[←hlen];exact z.to,fun j a ha=>?_⟩
 have hj:j<src.length:=by rw[hlen];exact iE ha
 have hp:src[j]? = some src[j]:=by simp[hj]
 have:=z.its j _ hp
 rw[if_neg (zyq _)]at this
 have e:(src[j]).1=a:=by
  have:as[j]? = some (src[j]).1:=by rw[←hs,zzq,hp];rfl
  rw[ha]at this
  exact(zyh this).symm
 rw[←e]
 exact this
theorem yz{P:Program}{w:World}{K:PySem.W.Frag}{elts:List Expr}{k:Nat}{tp:Pos}(n:Nat)(as:List Addr)(hlt:∀a∈as,a<n)(h1:as≠[])(hm4:as.length <= 4) :
  Turn P w K (.Tuple elts k tp) (ItzM tk K as) (fpZ n as.length) (n+as.length+2) (fun i h=>ZipTnM tk n as i h) where
 mem:=fpZ_mem.mpr ⟨by omega,by omega⟩
 obj:=fun i h st c hc=>by
  obtain⟨⟨f0,f1,_,hz⟩,hTI,⟨ws,_,hTO⟩,its⟩:=st
  rcases yg hc with rfl|rfl|rfl|⟨lt,e⟩
  ·exact⟨_,hz,fun v z=>by have z':Data.fields _=Data.cell v:=z;cases z'⟩
  ·exact⟨_,hTI,fun v z=>by have z':Data.seq _ _=Data.cell v:=z;cases z'⟩
  ·exact⟨_,hTO,fun v z=>by have z':Data.seq _ _=Data.cell v:=z;cases z'⟩
  ·obtain⟨o,eo,d⟩:=(its (c - n) as[c - n] (by simp[lt])).cell
   rw[e]at eo
   exact⟨o,eo,d⟩
 keep:=fun i h h' st kk=>by
  obtain⟨⟨f0,f1,hf,hz⟩,hTI,⟨ws,hws,hTO⟩,its⟩:=st
  exact⟨⟨f0,f1,hf,kk _ (fpZ_mem.mpr ⟨by omega,by omega⟩) _ hz⟩,kk _ (fpZ_mem.mpr ⟨by omega,by omega⟩) _ hTI,⟨ws,hws,kk _ (fpZ_mem.mpr ⟨by omega,by omega⟩) _ hTO⟩,fun j a ha=>(its j a ha).at fun o e=>kk _ (fpZ_mem.mpr ⟨by omega,by have:=iE ha;omega⟩) o e⟩
 item:=by
  intro X hP hw hK hc i pins s σ H E I hf st hg
  subst hP hw hK
  obtain⟨xss,hl,hsq⟩:=tK (tk:=tk) (K:=X.K) (H:=H) (as:=as) fun a ha=>let ⟨xs,x,h,_⟩:=hg a ha;⟨xs,h⟩
  obtain⟨src,hsa,hv,hls,hb⟩:=pX (tk:=tk) rfl I hl hsq
  have hls4:src.length=as.length:=by rw[←hsa,zza]
  have hst:=st.st hsa hls hlt h1
  have sz4:src.length <= sizeLine:=zzk (show src.length <= 4 by omega) (by decide)
  rw[show n+as.length+2=n+src.length+2 by rw[hls4]]
  refine ff (I.ok.hd hc) sz4 hst (fun vs h' ht hz' hT' hs' hk=>?_) (fun he h' hk=>?_)
  ·obtain⟨r,hr,rv⟩:=uX hv ht
   obtain⟨f0,f1,hf0,hzz⟩:=hz'.zip
   refine⟨_,rfl,CK hf0 hzz fun h4 f0' hf0' hz4 hs4=>?_⟩
   have hzl:n+src.length+2<s.heap.objs.size:=by
    obtain⟨_,_,_,q⟩:=st.zip
    rw[hls4]
    exact zzr q
   have hz4st:ZipTnM tk n as (i+1) h4:=by
    have z0:=hz'.tn hsa
    obtain⟨_,hTI,⟨ws,hws,hTO⟩,its⟩:=z0
    rw[hls4]at hz4 hs4
    refine⟨⟨f0',f1,hf0',hz4⟩,hs4.extBut _ _ (by intro e;have e:(_:Nat)=(_:Nat):=e;omega) hTI,⟨ws,hws,hs4.extBut _ _ (by intro e;have e:(_:Nat)=(_:Nat):=e;omega) hTO⟩,fun j a ha=>(its j a ha).extBut hs4.extBut (by have:=iE ha;intro e;have e:(_:Nat)=(_:Nat):=e;omega)⟩
   have I2:Inv X pins σ (upd H s.heap.objs.size (.tup r)) { s with heap:=h4 }:=by
    refine I.turnedN (t':=s.toks) (ch:=fpZ n as.length) hf (fun b o hb q=>?_) (zzh _) ⟨?_,vs,rv,?_⟩
    ·rw[←hls4]at hb
     exact hs4.extBut _ _ (Fs hb) (hk b o (uY (tF hb)) q)
    ·exact⟨by rw[hr.1,←hl];exact zzk hm4 (by decide),.inl ⟨_,hs4.extBut _ _ (by intro e;have e:(_:Nat)=(_:Nat):=e;omega) hT',rfl⟩⟩
    ·exact⟨_,hs4.extBut _ _ (by intro e;have e:(_:Nat)=(_:Nat):=e;omega) hT',rfl,_,rfl⟩
   refine⟨.ref s.heap.objs.size,_,I2,rfl,⟨s.heap.objs.size,r,I.hok.fresh (zzh _),rfl,⟨by rw[hr.1,hl],fun j a xs ha hx=>?_⟩,rfl⟩,hz4st,fun b hb=>?_⟩
   ·have hj:j<xss.length:=by rw[←hl];exact iE ha
    have hxs:xss[j]? = some xss[j]:=by simp[hj]
    have:=hsq j a xss[j] ha hxs
    rw[SqX.inj I hx this]
    exact hr.2 j _ hxs
   ·have:=fpZ_mem.mp hb
    rw[ao (by intro e;have e:(_:Nat)=(_:Nat):=e;omega)]
    exact(hf b hb).1
  ·exfalso
   obtain⟨j,p,hj,hp⟩:=he
   have ha:as[j]? = some p.1:=by rw[←hsa,zzq,hj];rfl
   obtain⟨xs,x,h,hx⟩:=hg p.1 (zzM ha)
   have hjx:j<xss.length:=by rw[←hl];exact iE ha
   have hxs:xss[j]? = some xss[j]:=by simp[hjx]
   rw[SqX.inj I h (hsq j p.1 _ ha hxs)]at hx
   obtain⟨u,hu,_⟩:=(hv.2 j _ p hxs hj).get hx
   rw[zyw,hp]at hu
   cases hu
 done:=by
  intro X hP hw hK hc i pins s σ H E I hf st hg
  subst hP hw hK
  obtain⟨hall,a0,ha0,xs0,hx0,hle⟩:=hg
  obtain⟨xss,hl,hsq⟩:=tK (tk:=tk) (K:=X.K) (H:=H) (as:=as) hall
  obtain⟨src,hsa,hv,hls,hb⟩:=pX (tk:=tk) rfl I hl hsq
  have hls4:src.length=as.length:=by rw[←hsa,zza]
  have hst:=st.st hsa hls hlt h1
  have sz4:src.length <= sizeLine:=zzk (show src.length <= 4 by omega) (by decide)
  rw[show n+as.length+2=n+src.length+2 by rw[hls4]]
  refine ff (I.ok.hd hc) sz4 hst (fun vs h' ht hz' hT' hs' hk=>?_) (fun he h' hk=>⟨rfl,?_⟩)
  ·exfalso
   obtain⟨r,hr,rv⟩:=uX hv ht
   obtain⟨j,hj⟩:=List.mem_iff_getElem?.mp ha0
   have hjx:j<xss.length:=by rw[←hl];exact iE hj
   have hxs:xss[j]? = some xss[j]:=by simp[hjx]
   have e:=SqX.inj I hx0 (hsq j a0 _ hj hxs)
   have:=hr.2 j _ hxs
   rw[←e,List.getElem?_eq_none hle,zzB (by rw[hr.1];exact hjx)]at this
   cases this
  ·refine I.turnedL (t':=s.toks) (ch:=fpZ n as.length) hf fun b o hb q=>hk b o ?_ q
   rw[←hls4]at hb
   exact uY (tF hb)
 self:=fun A i s Q E st h=>by
  obtain⟨f0,f1,_,hz⟩:=st.zip
  have hT:s.TypeIs (.ref (n+as.length+2)) "zip":=⟨_,hz,rfl⟩
  refine wpAny_pyIter_slot hT F.slot_zip_iter (wpAny_call_entry F.slot_zip_iter hT F.entry_zip_iter ?_ (F.args_zip_iter_1 _))
  show wpAny _ _ (ret (.ref (n+as.length+2))) _ _ s
  exact wpAny_pure ⟨_,rfl,"zip",_,hT,F.slot_zip_next.lookup,h⟩
end
section
variable{X:Cx}
def He(K:PySem.W.Frag)(ta:TA):TI:=fun σ H R=>ta σ H fun vs H1=>∃(tk:Addr->Bool) (a b:Addr),vs=[.ref a,.ref b]/\(∃xs,SqX tk K H1 a xs)/\(∃xs,SqX tk K H1 b xs)/\R (ItzM tk K [a,b]) H1
theorem Da{l l':Expr}{ta:TA}{p pos tp:Pos}{elts:List Expr}{k:Nat}(hg:Gl X "zip")(hm:X.mg "zip" = none)(ha:PA X [l,l'] ta)(he:starEach [l,l'] X.env=(false,eval l X.env)::starEach [l'] X.env:=by rfl)(hpl:(backTo pos (starEach [l'] X.env)).any (·.1)=false:=by rfl) :
  PI X (.Tuple elts k tp) (.Call (.Name "zip" p) [l,l'] [] pos) (He X.K ta):=by
 intro pins s σ H R I h
 refine Call_ (my I hg hm Ab (PyProof.Rows.callWith_type1 (thn (ha pos pins s σ H _ I h) fun us s1 ⟨vs,H1,I1,r1,q1⟩=>?_) he hpl))
 obtain⟨tk,a,b,e,⟨xs,hq⟩,⟨ys,hq'⟩,q⟩:=q1
 subst e
 obtain⟨u,u',rfl,ru,ru'⟩:=r1.two
 cases ru
 cases ru'
 obtain⟨its,rv,pl,hz⟩:=hq.at I1
 obtain⟨its',rv',pl',hz'⟩:=hq'.at I1
 refine yy (tk:=tk) (p1:=(a,its.toArray)) (p2:=(b,its'.toArray)) pl pl' fun h' hz hz' hk=>?_
 have I2:Inv X pins σ H1 { s1 with heap:=h' }:=I1.kept (t':=s1.toks) hk
 have hlt:∀c∈[a,b],c<s1.heap.objs.size:=fun c hc=>by
  simp only[zzj,zyi,or_false]at hc
  rcases hc with rfl|rfl
  ·exact pl.lt
  ·exact pl'.lt
 have tz:=yz (tk:=tk) (P:=X.prog) (w:=X.w) (K:=X.K) (elts:=elts) (k:=k) (tp:=tp) s1.heap.objs.size [a,b] hlt (by simp) (by simp)
 have tn:=hz.tn (as:=[a,b]) rfl
 exact tz.self X.A 0 _ _ _ tn ⟨_,_,_,ItzM tk X.K [a,b],H1,rfl,I2,tz,tn,fun b hb=>I1.fpOk (fpZ_mem.mp hb).1 (I1.hok.fresh (fpZ_mem.mp hb).1),q⟩
end
end L2
namespace DL
open PySem PySem.Spec PyProof.Rows L2
variable[TB]
variable[Frm]
def seqD:D->Option (List D)
 |.lst xs=>some xs
 |.tup xs=>some xs
 |_=>none
omit [Frm] in
theorem By{K:PySem.W.Frag}{pp:Option Addr}{M:List Addr}{H:Hp}{d:D}{v:V}{ds:List D}(r:Rep K pp M H d v)(e:seqD d=some ds) :
  ∃a xs,v=.ref a/\Reps K pp M H ds xs/\∀M2 H2,Mv K pp M H M2 H2->SqX (fun c=>L2.isTupO (H c)) K H2 a xs:=by
 cases d<;>simp only[seqD]at e<;>cases e
 all_goals simp only[Rep]at r
 ·obtain⟨a,xs,rfl,ha,rd⟩:=r
  refine⟨a,xs,rfl,rd,fun M2 H2 m2=>?_⟩
  unfold SqX
  rw[if_pos (show L2.isTupO (H a)=true by rw[ha];rfl)]
  exact SqT.of (m2.tup a xs ha)
 ·obtain⟨a,xs,rfl,hm,hp,ha,rd⟩:=r
  refine⟨a,xs,rfl,rd,fun M2 H2 m2=>?_⟩
  unfold SqX
  rw[if_neg (show ¬L2.isTupO (H a)=true by rw[ha];intro z;cases z)]
  exact SqL.of (m2.lst a xs ha hm hp).1
section
variable{X:Cx}
abbrev FC(t:DA):DA:=fun ρ Q=>t ρ fun ds ρ'=>match ds with
 |[a,b]=>∃xs ys,seqD a=some xs/\seqD b=some ys/\Q (zipD xs ys) ρ'
 |_=>False
theorem Db{l l':Expr}{tl:DA}{p pos tp:Pos}{elts:List Expr}{k:Nat}(hg:Gl X "zip")(hm:X.mg "zip" = none)(ha:PAD X [l,l'] tl)(he:starEach [l,l'] X.env=(false,eval l X.env)::starEach [l'] X.env:=by rfl)(hpl:(backTo pos (starEach [l'] X.env)).any (·.1)=false:=by rfl) :
  PID X (.Tuple elts k tp) (.Call (.Name "zip" p) [l,l'] [] pos) (FC tl):=by
 obtain⟨T,pa,r⟩:=ha.run
 refine⟨fun _ _ _ f h=>ha.mono _ _ _ (fun d _ h=>?_) h,_,Da hg hm pa he hpl,fun {F} M H σ ρ R rs h=>r M H σ ρ _ rs (ha.mono _ _ _ (fun d ρ' h M' H' v m rs' rd=>?_) h)⟩
 ·split at h
  ·obtain⟨xs,ys,a,b,h⟩:=h
   exact⟨xs,ys,a,b,f _ _ h⟩
  ·exact h.elim
 ·split at h
  case h_2=>exact h.elim
  rename_i d1 d2
  obtain⟨ds,ds',e1,e2,h⟩:=h
  simp only[Reps]at rd
  obtain⟨x,r0,rfl,hx,x',r0',rfl,hx',rfl⟩:=rd
  obtain⟨a,xs,rfl,rd,ka⟩:=By hx e1
  obtain⟨b,ys,rfl,rd',kb⟩:=By hx' e2
  have L:=mU ds ds'
  refine⟨fun c=>L2.isTupO (H' c),a,b,rfl,⟨xs,ka _ _ .refl⟩,⟨ys,kb _ _ .refl⟩,h M' H' _ m rs' ⟨fun M2 H2 m2 i d y H3 e yl=>?_,fun M2 H2 m2 i hi=>?_,fun M2 H2 m2 i hi=>?_⟩⟩
  ·obtain⟨T,r,hT,rfl,⟨hr,hz⟩,rfl⟩:=yl
   obtain⟨d1,d2,hd1,hd2,rfl⟩:=uV ds ds' i d e
   obtain⟨v1,hv1,rv1⟩:=rd.get' hd1
   obtain⟨v2,hv2,rv2⟩:=rd'.get' hd2
   have z1:=hz 0 a xs rfl (ka _ _ m2)
   have z2:=hz 1 b ys rfl (kb _ _ m2)
   rw[hv1]at z1
   rw[hv2]at z2
   have er:r=[v1,v2]:=by
    match r,hr,z1,z2 with
    |[p,q],_,z1,z2 =>
     cases z1
     cases z2
     rfl
   subst er
   refine⟨.new hT,?_⟩
   simp only[Rep]
   exact⟨T,_,rfl,ak,.cons ((rv1.mv m2).mv (.new hT)) (.one ((rv2.mv m2).mv (.new hT)))⟩
  ·rw[L,rd.length,rd'.length]at hi
   intro c hc
   simp only[zzj,zyi,or_false]at hc
   rcases hc with rfl|rfl
   ·exact⟨xs,xs[i]'(by omega),ka _ _ m2,by simp⟩
   ·exact⟨ys,ys[i]'(by omega),kb _ _ m2,by simp⟩
  ·rw[L,rd.length,rd'.length]at hi
   refine⟨fun c hc=>?_,?_⟩
   ·simp only[zzj,zyi,or_false]at hc
    rcases hc with rfl|rfl
    ·exact⟨xs,ka _ _ m2⟩
    ·exact⟨ys,kb _ _ m2⟩
   ·rcases Nat.lt_or_ge ys.length xs.length with z|z
    ·exact⟨b,by simp,ys,kb _ _ m2,by omega⟩
    ·exact⟨a,by simp,xs,ka _ _ m2,by omega⟩
end
end DL
namespace DL
open PySem PySem.Spec L2
open PyProof.Rows hiding St
variable[TB]
section
variable[Frm]{X:Cx}
theorem An{k n:Nat}{f:Addr}{fd:FuncData}{ps:List Str}{g:DSpN}{x:Str}{p cpos pos:Pos}{e:Expr}{es:List Expr}{t:DA}(Fn:FnOk X.prog X.w X.K X.mg X.base CX0 k f fd ps (spDN X.K n g))(gm:rq g)(hr:Room k X.A)(hg:Gl X x)(hm:X.mg x=some (.ref f))(hk:PySem.W.keepIn X.K (.ref f)=true)(hb:Binds X.K fd ps [])
  (ha:PAD X (e::es) t) (hdb:(x == ("__debug__" : Str))=false:=by decide) (he:starEach (e::es) X.env=(false,eval e X.env)::starEach es X.env:=by rfl) (hpl:(backTo cpos (starEach es X.env)).any (·.1)=false:=by rfl) :
  PSsN X [.Return (some (.Call (.Name x p) (e::es) [] cpos)) pos] (fun Q L ρ=>t ρ fun ds _=>ds.length=n/\g ds Q L):=by
 obtain⟨T,pa,ra⟩:=ha.run
 refine⟨_,ft (mz (sK Fn hr hg hm hk hb .nil Cp pa hdb he hpl)),fun {F} M H σ ρ Q L D rs en q=>ra M H σ ρ _ rs (ha.mono _ _ _ (fun ds ρ1 q M1 H1 vs m1 rs1 r1=>?_) q)⟩
 rw[zzy]
 refine⟨F.pp,M1,ds,rs1.liv,r1,q.1,gm _ _ _ _ _ (fun d q H' w s r=>en.rt M1 H' _ ρ1 d w (m1.trans s.mv) (rs1.sameP s) r q) (fun es q M' H' l xs s sub hl hp hM hH rr=>?_) q.2⟩
 have h0:F.H0 l=none:=by
  cases e:F.H0 l with
  |none=>rfl
  |some o=>exact absurd hl (rs1.same.live l (by rw[e];intro z;cases z))
 exact en.nw M' H' es l xs (rs1.sameT.trans s) (fun a ha=>sub a (rs1.sub a ha)) h0 hp hM hH rr q
end
end DL
namespace L2
open PySem PySem.Spec PyProof.Rows
section
variable{prog:Program}{w:World}{A:Around}{E:Value->Shared->Prop}{s:Shared}
theorem Ao{t b:Addr}{vs ws:List Value}{Q:Value->Shared->Prop}(ht:IsTup s.heap t vs.toArray)(hb:IsTup s.heap b ws.toArray)(hv:vs=[])
  (h:Q (.ref b) s):wpAny (model prog w) A (binaryOp .Add (.ref t) (.ref b)) Q E s:=by
 obtain⟨⟨cls,dd,data,sl⟩,ho,hc,n,hd⟩:=id ht
 obtain⟨⟨cls2,dd2,data2,sl2⟩,ho2,hc2,n2,hd2⟩:=id hb
 simp only at hc hd hc2 hd2
 subst hc hd hc2 hd2
 exact concat_meets ⟨_,ho,rfl⟩ ⟨_,ho2,rfl⟩ noFill_tuple_add seq_tuple_add PySem.F.slot_tuple_add PySem.F.entry_tuple_add (PySem.F.args_tuple_add_2 _ _)
   (tuple_addW0 t b vs.toArray ws.toArray n n2 dd dd2 sl sl2 (by simp[hv])) ⟨ho,ho2,h⟩
end
section
variable{X:Cx}
def FD(K:PySem.W.Frag):R2:=fun x y H Q=>∃a b ys,x=.ref a/\y=.ref b/\SqT K H a []/\SqT K H b ys/\Q (.ref b) H
theorem Dc:OpR X (binaryOp .Add) (fun x y H Q=>Ex X.K x y H Q∨FD X.K x y H Q):=by
 intro pins s σ H x y v u Q I rx ry h
 rcases h with h|h
 ·exact xr pins s σ H x y v u Q I rx ry h
 ·obtain⟨a,b,ys,rfl,rfl,ha,hb,q⟩:=h
  cases rx
  cases ry
  obtain⟨its,r1,p1,_⟩:=I.tuple ha
  obtain⟨its2,r2,p2,_⟩:=I.tuple hb
  exact Ao p1 p2 (r1.nil_iff.mpr rfl) ⟨.ref b,H,I,rfl,q⟩
end
end L2
namespace DL
open PySem PySem.Spec L2
open PyProof.Rows hiding St
variable[TB]
section
variable{X:Cx}
def Dd:D->D->(D->Prop)->Prop
 |.tup xs,.tup ys,P=>(xs.length+ys.length <= sizeLine)/\P (.tup (xs++ys))
 |_,_,_=>False
theorem yA:OpD X (binaryOp .Add) Dd:=by
 refine⟨fun x y P P' f h=>?_,_,Dc,fun {pp} M H x y v u Q lv rx ry h=>?_⟩
 ·cases x<;>first|exact h.elim|skip
  cases y<;>first|exact h.elim|exact⟨h.1,f _ h.2⟩
 ·cases x<;>first|exact h.elim|skip
  cases y<;>first|exact h.elim|skip
  rename_i xs ys
  by_cases z:xs=[]
  ·subst z
   have ry':=ry
   simp only[Rep]at rx ry
   obtain⟨a,us,rfl,ha,ra⟩:=rx
   obtain⟨b,ws,rfl,hb,rb⟩:=ry
   have e:us=[]:=zzK.mp ra.length.symm
   subst e
   exact .inr ⟨a,b,ws,rfl,rfl,SqT.of ha,SqT.of hb,h.2 H _ .refl ry'⟩
  ·have rx':=rx
   simp only[Rep]at rx ry
   obtain⟨a,us,rfl,ha,ra⟩:=rx
   obtain⟨b,ws,rfl,hb,rb⟩:=ry
   obtain⟨h2,h⟩:=h
   refine .inl ⟨a,b,us,ws,rfl,rfl,SqT.of ha,SqT.of hb,?_,by rw[←ra.length,←rb.length];exact h2,fun e=>?_,fun e l hl=>?_⟩
   ·rintro rfl
    exact z (zzK.mp ra.length)
   ·subst e
    have e2:ys=[]:=zzK.mp rb.length
    subst e2
    rw[zzy]at h
    exact h H _ .refl rx'
   ·refine h _ _ (.new hl) ?_
    simp only[Rep]
    exact⟨l,_,rfl,ak,(ra.append rb).mv (.new hl)⟩
end
end DL
namespace L2
open PySem PySem.Spec PyProof.Rows
section
variable{X:Cx}
def yB:V->List V->Hp->VK->Prop:=fun x vs H Q=>∃l xs k y,x=.ref l/\vs=[.int k,y]/\H l=some (.lst xs)/\0 <= k/\k <= (xs.length:Int)/\xs.length<1000000/\xs.length<sizeLine/\Q .non (upd H l (.lst (xs.take k.toNat++y::xs.drop k.toNat)))
theorem yC:MtM X "list.insert" yB:=by
 intro pins s σ H x vs v us Q I rx rv h
 obtain⟨l,xs,k,y,rfl,rfl,hH,k0,k1,l6,lz,q⟩:=h
 cases rx
 obtain⟨u1,u2,rfl,q1,q2⟩:∃u1 u2,us=[u1,u2]/\RelV (.int k) u1/\RelV y u2:=by
  cases rv with
  |cons a b=>cases b with
   |cons b c=>cases c;exact⟨_,_,rfl,a,b⟩
 obtain⟨t,rfl⟩:=q1
 obtain⟨z,its,n,r,hl,e⟩:=I.lstM hH
 have hf:Builtin.List.listFitsIndex k=true:=by
  unfold Builtin.List.listFitsIndex
  rw[zzT,decide_eq_true_eq,decide_eq_true_eq]
  omega
 refine call_meets F.slot_list_insert ⟨_,e,rfl⟩ F.entry_list_insert (F.args_list_insert_3 _ _ _) (PySem.AutoSeq1.list_insert_list_int_val_1 l its.toArray n k t u2 (by simp[hf]) (by rw[zzs,←hl];exact z)) ⟨e,?_⟩
 refine⟨.non,_,I.lset (its':=its.take k.toNat++u2::its.drop k.toNat) hH e ?_ ((r.take _).append (.cons q2 (r.drop _))) ?_,rfl,q⟩
 ·show (its.toArray.extract 0 (if k<0 then(k+(its.toArray.size:Int)).toNat else min k.toNat its.toArray.size)).push u2++its.toArray.extract (if k<0 then(k+(its.toArray.size:Int)).toNat else min k.toNat its.toArray.size)=_
  rw[if_neg (by omega),zzs,Nat.min_eq_left (by omega)]
  apply Array.toList_inj.mp
  simp
  rw[List.take_of_length_le]
  rw[List.length_drop]
  exact zzh _
 ·rw[zzi,zzZ,zyd,List.length_drop]
  omega
end
end L2
namespace DL
open PySem PySem.Spec L2
open PyProof.Rows hiding St
variable[TB]
section
variable[Frm]{X:Cx}
def Hf(i:Nat)(E:DEnds)(ρ:DS)(ds2:List D):Sl->Prop
 |.own ds=>∃(k:Int) (d:D),ds2=[.int k,d]/\0 <= k/\k <= (ds.length:Int)/\ds.length<1000/\E.nx (ρ.set i (.own (ds.take k.toNat++d::ds.drop k.toNat)))
 |_=>False
abbrev dIns(i:Nat)(t:DA):DTS:=fun E ρ=>xT (slot ρ i)/\t ρ fun ds2 ρ'=>Hf i E ρ' ds2 (slot ρ' i)
theorem FE{i:Nat}{o e1 e2:Expr}{apos cpos pos:Pos}{t:DA}(ho:PE X o (tVar i))(ha:PAD X [e1,e2] t)
  (hbase:attributeBase o "insert" X.env (eval o X.env)=eval o X.env:=by rfl)
  (hfew:((backTo cpos (starEach [e1,e2] X.env)).all (fun x=>!x.1) && (backToKw cpos (keywordEach [] X.env)).all (fun x=>x.1.isSome)
   && decide ([e1,e2].length+([]:List Keyword).length+(if ([]:List Keyword).isEmpty then 0 else 1)<30))=true:=by rfl)
  (hline:(apos.endLine == cpos.line)=true:=by rfl) (hst:starEach [e1,e2] X.env=(false,eval e1 X.env)::starEach [e2] X.env:=by rfl) (hpl:(backTo cpos (starEach [e2] X.env)).any (·.1)=false:=by rfl)
  (hs:swapsWith (.Call (.Attribute o "insert" apos) [e1,e2] [] cpos) none pos.line X.env=pure false:=by rfl):PSD X (.Expr (.Call (.Attribute o "insert" apos) [e1,e2] [] cpos) pos) (dIns i t):=by
 obtain⟨T,pa,r⟩:=ha.run
 have hm:PE X (.Call (.Attribute o "insert" apos) [e1,e2] [] cpos) (tBM X.K "list" yB (tVar i) T):=qH zyt PySem.F.slot_list_insert PySem.F.type_list_insert yC ho pa hbase hfew hline hst hpl
 refine⟨_,jY hm hs,fun {F} M H σ ρ E D rs oo h=>?_⟩
 obtain⟨h0,h⟩:=h
 cases q:slot ρ i with
 |nil=>rw[q]at h0;exact h0.elim
 |val d=>rw[q]at h0;exact h0.elim
 |pin w d=>rw[q]at h0;exact h0.elim
 |obj z=>rw[q]at h0;exact h0.elim
 |own ds =>
  obtain⟨oo1,ho1,l,xs,rfl,hm1,h01,hp1,hl1,hr1⟩:=rs.at (aF q (by intro z;cases z))
  refine⟨.ref l,ho1,.inl ⟨rfl,xs,SqL.of hl1⟩,?_⟩
  refine r M H σ ρ _ rs (ha.mono _ _ _ (fun ds2 ρ' h M' H' vs m rs' rd=>?_) h)
  cases q':slot ρ' i with
  |nil=>rw[q']at h;exact h.elim
  |val d=>rw[q']at h;exact h.elim
  |pin w d=>rw[q']at h;exact h.elim
  |obj z=>rw[q']at h;exact h.elim
  |own ds' =>
   rw[q']at h
   obtain⟨k,d,rfl,k0,k1,lz,h9⟩:=h
   have g1:=aF q' (by intro z;cases z)
   obtain⟨l',xs',e',hm',h0',hp',hl',hr'⟩:=rs'.sl i _ _ g1 ho1
   cases e'
   simp only[Reps]at rd
   obtain⟨x1,_,rfl,r1,x2,_,rfl,r2,rfl⟩:=rd
   simp only[Rep]at r1
   subst r1
   have hlen:=hr'.length
   obtain⟨m2,rs2⟩:=rs'.write g1 ho1 ((hr'.take k.toNat).append (.cons r2 (hr'.drop k.toNat)))
   exact⟨l,xs',k,x2,rfl,rfl,hl',k0,by omega,by omega,zzz (show xs'.length<1000 by omega) (by decide),oo.nx M' _ _ _ (m.trans m2) rs2 h9⟩
end
variable[Frm]
end DL
namespace TS
open PySem PyProof.Rows
section
variable{r:Keyed->Nat}
abbrev Up(r:Keyed->Nat)(l:List Keyed):Prop:=l.Pairwise fun x y=>r x <= r y
section
variable{a b:Array Keyed}
variable(ua:Up r a.toList)(ub:Up r b.toList)(na:0<a.size)(hl:∀y∈b.toList,r y <= r (a[a.size - 1]'(by omega)))
include ua ub hl
end
section
variable{a b:Array Keyed}
variable(ua:Up r a.toList)(ub:Up r b.toList)(b0:0<b.size)(hf:∀y∈a.toList,r (b[0]'b0) <= r y)
include ua ub hf
end
end
end TS
namespace SS
open PySem PySem.SetTable PyProof.Rows L2
set_option maxRecDepth 100000
end SS
namespace SS
open PySem PySem.SetTable PyProof.Rows L2 PySem.W
set_option maxRecDepth 100000
end SS
namespace L2
open PySem PySem.Spec PyProof.Rows
structure FA(K:PySem.W.Frag)(x:Str)(st:Stmt)(f:Addr)(fd:FuncData):Prop where
 a:PySem.W.nsIn K mainGlobals x=some (some (.ref f))
 F:Fun K x x st f fd
section
variable{K:PySem.W.Frag}{x:Str}{st:Stmt}{f:Addr}{fd:FuncData}{mg:Str->Option Value}{h:Heap}
theorem fa_mk{oc kV doc pm cdv ct:Value}{od an:Option Addr}{osl:Array (Option Value)}(a:PySem.W.nsIn K mainGlobals x=some (some (.ref f)))(l:K.lookup f=some ⟨oc,od,.func (PySem.W.fnOf x x (iy st) (dN st) (aj st) .none kV doc pm an cdv ct),osl⟩)
  (c:PySem.W.codeIn K cdv x=true) (k:PySem.W.keepIn K (.ref f)=true):FA K x st f (PySem.W.fnOf x x (iy st) (dN st) (aj st) .none kV doc pm an cdv ct):=⟨a,EK l c k⟩
abbrev BA(x:Str)(st:Stmt)(ps:List Str)(us:List Value):Prop:=∀(kV doc pm:Value) (an:Option Addr) (cdv ct:Value),bindArgs (PySem.W.fnOf x x (iy st) (dN st) (aj st) .none kV doc pm an cdv ct) ⟨us,[]⟩=pure (ps.zip us)
theorem FA.df{ps:List Str}(A:FA K x st f fd)(X:K.In h)(G:h.Ns mainGlobals mg)(b:∀us,us.length=ps.length->BA x st ps us):Df K mg x st ps f fd:=⟨A.F,zyH X G A.a,A.F.binds fun a b' c d e g us hl=>b us hl a b' c d e g⟩
theorem FA.d1{p:Str}(A:FA K x st f fd)(X:K.In h)(G:h.Ns mainGlobals mg)(b:∀u,BA x st [p] [u]):Df K mg x st [p] f fd:=A.df X G fun us hl=>match us,hl with|[u],_=>b u
theorem FA.d2{p p1:Str}(A:FA K x st f fd)(X:K.In h)(G:h.Ns mainGlobals mg)(b:∀u v,BA x st [p,p1] [u,v]):Df K mg x st [p,p1] f fd:=A.df X G fun us hl=>match us,hl with|[u,v],_=>b u v
theorem FA.d3{p p1 p2:Str}(A:FA K x st f fd)(X:K.In h)(G:h.Ns mainGlobals mg)(b:∀u v w,BA x st [p,p1,p2] [u,v,w]):Df K mg x st [p,p1,p2] f fd:=A.df X G fun us hl=>match us,hl with|[u,v,w],_=>b u v w
end
theorem bc{N P:List Str}{sc:Scope}(a:sc.kind=.function:=by rfl)(b:sc.isCoroutine=false:=by rfl)(c:sc.isGenerator=false:=by rfl)(d:N.Nodup:=by decide +kernel)(e:N.take P.length=P:=by rfl)
  (g:∀x∈P,sc.names.lookup x=some .local∨sc.names.lookup x=some .cell:=by decide +kernel) (i:∀y∈sc.names,y.2 ≠ .free:=by decide +kernel):FnScope N P sc:=⟨a,b,c,d,e,g,i⟩
theorem oo{a b:Prop}(h:a∨b:=by first|exact Or.inl rfl|exact Or.inr rfl):a∨b:=h
theorem dk{p:Prop}(h:p:=by decide +kernel):p:=h
theorem rm{j k:Nat}{A:Around}(r:Room k A)(h:j <= k:=by decide):Room j A:=r.mono h
end L2
namespace DL
open PySem PySem.Spec L2
theorem ndB{X:Cx}{scope:Scope}{cl:List (Str×Addr)}{N:List Str}{B:Blk}(h:N.Nodup:=by decide +kernel):(cxB X scope cl N B).N.Nodup:=h
end DL
namespace L2
open PySem PySem.Spec PyProof.Rows PySem.W
section
variable{P:Program}{w:World}{H:Hp}{h:Heap}{d:Addr}{u u':HO}
theorem HOk.re(ok:HOk P w H h)(e:H d=some u)(nt:∀xs,u ≠ .tup xs)(no:∀x,u ≠ .own x)(x:ObjOk P w H h d u'):HOk P w (upd H d u') h:=by
 have ho:∀a b,H b=some (.own a)->upd H d u' b=some (.own a):=fun a b r=>by
  rw[ao (by rintro rfl;rw[e]at r;cases r;exact no _ rfl)];exact r
 have ht:∀b xs,H b=some (.tup xs)->upd H d u' b=some (.tup xs):=fun b xs r=>by
  rw[ao (by rintro rfl;rw[e]at r;cases r;exact nt _ rfl)];exact r
 intro a o q
 by_cases z:a=d
 ·subst z
  rw[ak]at q
  cases q
  exact x.stay (fun b u _ r=>r) (ho a) ht
 ·rw[ao z]at q
  exact(ok a o q).stay (fun b u _ r=>r) (ho a) ht
end
section
variable{X:Cx}{pins:List (Addr×Obj)}{σ:St}{H:Hp}{s:Shared}{d:Addr}{u u':HO}{kvs:List (List Key×V)}
theorem Inv.re(I:Inv X pins σ H s)(e:H d=some u)(nt:∀xs,u ≠ .tup xs)(no:∀x,u ≠ .own x)(nb:∀ps,u ≠ .tbl ps)(nf:∀o z,X.H₀ d≠some (.frz o z))(x:ObjOk X.prog X.w H s.heap d u'):Inv X pins σ (upd H d u') s:=by
 have ne:∀b,H b=none->upd H d u' b=none:=fun b q=>by rw[ao (by rintro rfl;rw[e]at q;cases q)];exact q
 refine⟨I.ok,I.os,I.bare,⟨I.base.keep,I.base.slot,fun b o q n hx=>ne b (I.base.free b o q n hx),I.base.there,fun b xs q=>?_,fun b o z q=>?_,fun b ps q=>?_⟩,I.loc,I.cell,ne _ I.free,fun y c q=>ne _ (I.freeC y c q),fun p hp=>?_,HOk.re I.hok e nt no x,I.len⟩
 ·have r:=I.base.tups b xs q
  rw[ao (by rintro rfl;rw[e]at r;cases r;exact nt _ rfl)];exact r
 ·have r:=I.base.frzs b o z q
  rw[ao (by rintro rfl;exact nf _ _ q)];exact r
 ·obtain⟨m,r⟩:=I.base.tbls b ps q
  exact⟨m,by rw[ao (by rintro rfl;rw[e]at r;cases r;exact nb _ rfl)];exact r⟩
 ·obtain⟨a1,a2,a3⟩:=I.pin p hp
  exact⟨a1,ne _ a2,a3⟩
theorem Inv.nfz(I:Inv X pins σ H s)(e:H d=some (.dT kvs)):∀o z,X.H₀ d≠some (.frz o z):=fun o z q=>by
 have:=I.base.frzs d o z q
 rw[e]at this
 cases this
theorem Inv.frz(I:Inv X pins σ H s)(e:H d=some (.dT kvs)):∃o,(∃es ep,o.data=.dict es ep)/\Inv X pins σ (upd H d (.frz o (.dT kvs))) s:=by
 have x:=I.hok d _ e
 obtain⟨_,_,_,_,o,es,ep,g1,_,g3,_⟩:=id x
 exact⟨o,⟨es,ep,g3⟩,I.re e (by simp) (by simp) (by simp) (I.nfz e) ⟨g1,x⟩⟩
theorem Inv.thaw(I:Inv X pins σ H s){o:Obj}(e:H d=some (.frz o (.dT kvs)))(nf:∀o z,X.H₀ d≠some (.frz o z)):Inv X pins σ (upd H d (.dT kvs)) s :=
 I.re e (by simp) (by simp) (by simp) nf (I.hok d _ e).2
end
theorem nj{α β:Type}{R:α->β->Prop}:∀{xs:List α}{ys:List β}{i:Nat}{x:α},Paired R xs ys->xs[i]? = some x->∃y,ys[i]? = some y/\R x y
 |_,_,_,_,.nil,e=>by simp at e
 |_,_,0,_,.cons r _,e=>by simp at e;subst e;exact⟨_,rfl,r⟩
 |_,_,i+1,_,.cons _ t,e=>by
  obtain⟨y,e1,e2⟩:=nj (i:=i) t (by simpa using e)
  exact⟨y,by simpa using e1,e2⟩
def Itk(d:Addr)(o:Obj)(kvs:List (List Key×V)):It :=
 ⟨fun i H=>H d=some (.frz o (.dT kvs))/\i<kvs.length,fun i H x H'=>H'=H/\∃p b,kvs[i]? = some p/\x=.ref b/\H b=some (.tup (p.1.map kV)),fun i H=>H d=some (.frz o (.dT kvs))/\kvs.length <= i⟩
theorem yD{P:Program}{w:World}{K:PySem.W.Frag}{tg:Expr}{d it:Addr}{o:Obj}{kvs:List (List Key×V)}{es:Array DictEntry}{ep:Nat}(hd:o.data=.dict es ep):Turn P w K tg (Itk d o kvs) [it] it (fun i h=>h.IsKeyIter it d i kvs.length ep) where
 mem:=by simp
 obj:=fun i h st b hb=>by
  have e:b=it:=by simpa using hb
  subst e
  obtain⟨o,e,c,d⟩:=st
  exact⟨o,e,fun v z=>by rw[d]at z;cases z⟩
 keep:=fun i h h' st k=>Heap.IsKeyIter.at st fun o e=>k it (by simp) o e
 item:=by
  intro X hP hw hK hc i pins s σ H E I hf st hg
  subst hP hw hK
  obtain⟨hD,hi⟩:=hg
  obtain⟨g0,z,lo,xs,rel,o',es',ep',g1,g2,g3,g4,g5⟩:=I.hok d _ hD
  rw[g0]at g1
  cases g1
  rw[hd]at g3
  cases g3
  have hsz:es.size=xs.length:=size_of_entries g4
  have hxl:kvs.length=xs.length:=Paired.length rel
  obtain⟨f0,f1,f2,f3,f4,f5⟩:=hf it (by simp)
  refine vf (by omega) (by omega) st ⟨o,g0,g2,hd⟩ fun h' st' sb=>?_
  have I1:Inv X pins σ H { s with heap:=h' }:=I.turned (t':=s.toks) (fun b o hb e=>(sb.2 b hb).trans e) f0 f1 f3 f4 f5
  obtain⟨oo,e,c,dd⟩:=id st'
  obtain⟨q,hq,r1,r2,r3⟩:=nj rel (zzB hi)
  have ek:es[i].key=.ref q.2.1:=by
   have:=entry_at g4 i
   rw[hq,zyJ (by omega)]at this
   simp only[zyF,Option.some.injEq]at this
   rw[this]
   rfl
  rw[ek]
  exact⟨_,rfl,xb (s:={ s with heap:=h' }) e c dd (by decide) ⟨.ref q.2.1,H,I1,rfl,⟨rfl,kvs[i],q.2.1,zzB hi,rfl,r2⟩,st',fun b hb=>(hf b hb).1⟩⟩
 done:=by
  intro X hP hw hK hc i pins s σ H E I hf st hg
  subst hP hw hK
  obtain⟨hD,hi⟩:=hg
  obtain⟨g0,z,lo,xs,rel,o',es',ep',g1,g2,g3,g4,g5⟩:=I.hok d _ hD
  rw[g0]at g1
  cases g1
  rw[hd]at g3
  cases g3
  have hsz:es.size=xs.length:=size_of_entries g4
  have hxl:kvs.length=xs.length:=Paired.length rel
  obtain⟨f0,f1,f2,f3,f4,f5⟩:=hf it (by simp)
  exact yi (I.ok.hd hc) (by omega) (by omega) st ⟨o,g0,g2,hd⟩ fun h' eb=>⟨rfl,I.turned (t':=s.toks) (fun b o hb e=>eb b o hb e) f0 f1 f3 f4 f5⟩
 self:=fun _ _ _ _ _ st h=>wpAny_pyIter_keyiter st h
section
variable{X:Cx}{tg:Expr}
def iDct(J:Addr->Obj->List (List Key×V)->It)(tl:TE):TI:=fun σ H R=>tl σ H fun x H1=>∃a kvs,x=.ref a/\((H1 a=some (.dT kvs)/\∀o,(∃es ep,o.data=.dict es ep)->R (J a o kvs) (upd H1 a (.frz o (.dT kvs))))∨∃o,H1 a=some (.frz o (.dT kvs))/\R (J a o kvs) H1)
theorem De{l:Expr}{tl:TE}(hl:PE X l tl):PI X tg l (iDct Itk tl):=by
 intro pins s σ H R I h
 refine thn (hl pins s σ H _ I h) fun v s1 ⟨x,H1,I1,r1,q1⟩=>?_
 obtain⟨a,kvs,e,q⟩:=q1
 subst e
 cases r1
 have fin:∀(o:Obj) (H2:Hp),Inv X pins σ H2 s1->H2 a=some (.frz o (.dT kvs))->R (Itk a o kvs) H2->wpAny (model X.prog X.w) X.A (pyIter (.ref a)) (PIE X pins σ tg R) X.xe s1:=fun o H2 I2 hD q=>by
  obtain⟨g0,z,lo,xs,rel,o',es,ep,g1,g2,g3,g4,g5⟩:=I2.hok a _ hD
  rw[g0]at g1
  cases g1
  have hsz:es.size=xs.length:=size_of_entries g4
  have hxl:kvs.length=xs.length:=Paired.length rel
  refine ve lo ⟨o,g0,g2,g3⟩ ?_
  refine⟨s1.heap.objs.size,[s1.heap.objs.size],_,_,H2,rfl,I2.kept (t':=s1.toks) fun b o e=>zzf _ e,yD g3,⟨_,zzn _ rfl,rfl,by rw[show kvs.length=es.size by omega];rfl⟩,fun b hb=>?_,q⟩
  have e:b=s1.heap.objs.size:=by simpa using hb
  subst e
  exact I2.fpOk (zzh _) (I2.hok.fresh (zzh _))
 rcases q with ⟨hD,q⟩|⟨o,hD,q⟩
 ·obtain⟨o,od,I2⟩:=I1.frz hD
  exact fin o _ I2 ak (q o od)
 ·exact fin o H1 I1 hD q
def FF(T:TE):TE:=fun σ H Q=>(∃a kvs,H a=some (.dT kvs)/\T σ H fun v H'=>∃o,H' a=some (.frz o (.dT kvs))/\Q v (upd H' a (.dT kvs)))∨T σ H Q
theorem Dg{e:Expr}{T:TE}(h:PE X e T):PE X e (FF T):=by
 intro pins s σ H Q I q
 rcases q with ⟨a,kvs,ha,q⟩|q
 ·refine thn (h pins s σ H _ I q) fun v s1 ⟨x,H1,I1,r1,o,e1,q1⟩=>?_
  exact⟨x,_,I1.thaw e1 (I.nfz ha),r1,q1⟩
 ·exact h pins s σ H Q I q
theorem Dh{st:Stmt}{T:TE}{i:Nat}(h:PS X st (tAsg T (sJ i))):PS X st (tAsg (FF T) (sJ i)):=by
 intro pins s σ H D I q
 rcases q with ⟨a,kvs,ha,q⟩|q
 ·refine thn (h pins s σ H { D with nx:=fun σ' H'=>∃o,H' a=some (.frz o (.dT kvs))/\D.nx σ' (upd H' a (.dT kvs)) } I q) fun f s1 q1=>?_
  cases f with
  |next =>
   obtain⟨σ',H1,I1,o,e1,q1⟩:=q1
   exact⟨σ',_,I1.thaw e1 (I.nfz ha),q1⟩
  |_=>exact q1
 ·exact h pins s σ H D I q
end
section
variable{prog:Program}{w:World}{A:Around}{E:Value->Shared->Prop}{s:Shared}{d it v:Addr}{es:Array DictEntry}{ep i:Nat}
theorem wu(d:Addr)(es:Array DictEntry)(ep:Nat)(hd:(d == sysModules)=false) :
  MeetsIn prog w (Builtin.«dict.values» ⟨[.ref d],[]⟩) (fun _ R s=>RawD d es ep s.heap/\R (.ok (.ret (.ref s.heap.objs.size))) { s with heap:=s.heap.push { cls:=.type "dict_values",data:=.fields #[.ref d] } }) :=
 .of_wp fun A R s ⟨hm,h⟩=>by
  refine wpAny_bind ?_
  unfold Builtin.Dict.noArgs
  refine wpAny_bind (wpAny_notOrdered_dict hm.type ?_)
  show wpAny _ _ (pure d) _ _ s
  refine wpAny_pure ?_
  show wpAny _ _ (Builtin.Dict.showsAll d >>= _) _ _ s
  unfold Builtin.Dict.showsAll
  rw[if_neg (by rw[hd];exact zzo)]
  refine wpAny_bind (wpAny_pure ?_)
  exact wpAny_bind (wpAny_newObj_type (wpAny_pure ⟨_,rfl,h⟩))
theorem yE{Q:Value->Shared->Prop}(hv:s.heap.IsValuesView v d)(r:RawD d es ep s.heap)
  (q:Q (.ref s.heap.objs.size) { s with heap:=s.heap.push { cls:=.type "dict_valueiterator",data:=.fields #[.ref d,.int 0 0,.int es.size 0,.int ep 0] } }):wpAny (model prog w) A (pyIter (.ref v)) Q E s:=by
 obtain⟨ov,hov,hcv,hdv⟩:=id hv
 obtain⟨o,ho,_,hdat⟩:=r
 refine wpAny_pyIter_slot hv.typeIs F.slot_dict_values_iter (wpAny_call_entry F.slot_dict_values_iter hv.typeIs F.entry_dict_values_iter ?_ (F.args_dict_values_iter_1 _))
 unfold Builtin.«dict_values.__iter__»
 refine wpAny_bind (wpAny_pure ?_)
 refine wpAny_bind ?_
 unfold Builtin.Dict_items.dictOf
 refine wpAny_bind (wpAny_field hov hdv (x:=.ref d) rfl (wpAny_pure ?_))
 refine wpAny_bind ?_
 unfold Builtin.Dict_items.newIterator
 refine wpAny_bind (wpAny_dictEntries ho hdat ?_)
 refine wpAny_bind (wpAny_dictEpoch ho hdat ?_)
 simp only[show Builtin.Dict_items.ownsTuple "dict_valueiterator" = false by decide,zyr,if_false]
 refine wpAny_newObj_type (wpAny_pure ⟨_,rfl,"dict_valueiterator",_,⟨_,zzn _ rfl,rfl⟩,F.slot_dict_valueiterator_next.lookup,?_⟩)
 simpa[rawInt]using q
theorem yF{n:Nat}{Q:Option Value->Shared->Prop}(hi:i<es.size)(en:es.size=n)(g:s.heap.IsValIter it d i n ep)(r:RawD d es ep s.heap)
  (q:∀h',h'.IsValIter it d (i+1) n ep->Heap.SameBut it s.heap h'->Q (some es[i].val) { s with heap:=h' }):wpAny (model prog w) A (pyNext (.ref it)) Q E s:=by
 subst en
 have ty:=g.typeIs
 obtain⟨o,g1,g2,g3⟩:=g
 obtain⟨od,r1,_,r2⟩:=r
 unfold pyNext
 refine wpAny_bind (wpAny_attempt (wpAny_callSpecial?_slot (name:=Str.ofString "__next__") ty F.slot_dict_valueiterator_next (wpAny_call_entry F.slot_dict_valueiterator_next ty F.entry_dict_valueiterator_next ?_ (F.args_dict_valueiterator_next_1 _))))
 refine wpAny_bind (wpAny_pure (wpAny_bind (wpAny_bind (wpAny_bind (wpAny_typeNameOfWhole_valiter ty (wpAny_pure (wpAny_bind (wpAny_fieldsOf g1 g3 ?_))))))))
 simp only[show Builtin.Dict_items.ownsTuple "dict_valueiterator" = false by decide,zyr,if_false]
 show wpAny _ _ (if (Value.ref d == Value.none)=true then _ else _) _ _ s
 rw[if_neg (show ¬((Value.ref d == Value.none)=true) from zzo)]
 refine wpAny_bind (wpAny_pure (wpAny_bind (wpAny_dictEntries r1 r2 ?_)))
 rw[if_neg (by simp)]
 refine wpAny_bind (wpAny_pure (wpAny_bind (wpAny_dictEpoch r1 r2 ?_)))
 rw[if_neg (by simp)]
 refine wpAny_pure ?_
 simp only[show ¬((i:Int)<0) from by omega,if_false,zzY,zyJ hi]
 refine wpAny_bind (wpAny_bind (wpAny_typeNameOfWhole_valiter ty (wpAny_pure (wpAny_bind (wpAny_isOneOf_valiter ty ?_)))))
 show wpAny _ _ (setField (.ref it) 1 (rawInt ((i:Int)+1)) >>= _) _ _ s
 refine wpAny_bind (wpAny_setField g1 g3 (by simp) ?_)
 have g':(s.heap.update it (Obj.mapFields (·.setIfInBounds 1 (rawInt ((i:Int)+1))))).IsValIter it d (i+1) es.size ep :=
  ⟨_,zyv _ g1 (Obj.isFreed_of_fields (Obj.data_mapFields g3 _)),(Obj.cls_mapFields ..).trans g2,by rw[Obj.data_mapFields g3];simp[rawInt]⟩
 refine wpAny_bind (wpAny_holding (wpAny_bind (wpAny_isOneOf_valiter (s:={ s with heap:=s.heap.update it (Obj.mapFields (·.setIfInBounds 1 (rawInt ((i:Int)+1)))) }) g'.typeIs
  (wpAny_bind (wpAny_isOneOf_valiter (s:={ s with heap:=s.heap.update it (Obj.mapFields (·.setIfInBounds 1 (rawInt ((i:Int)+1)))) }) g'.typeIs ?_)))))
 show wpAny _ _ (pure es[i].val) _ _ _
 exact wpAny_pure (wpAny_pure ⟨_,rfl,wpAny_pure (q _ g' (zzX ..))⟩)
theorem Ap{n:Nat}{Q:Option Value->Shared->Prop}(hh:A.handled=none)(hi:es.size <= i)(en:es.size=n)(g:s.heap.IsValIter it d i n ep)(r:RawD d es ep s.heap)
  (q:∀h',Heap.ExtBut it s.heap h'->Q none { s with heap:=h' }):wpAny (model prog w) A (pyNext (.ref it)) Q E s:=by
 subst en
 have ty:=g.typeIs
 obtain⟨o,g1,g2,g3⟩:=g
 obtain⟨od,r1,_,r2⟩:=r
 unfold pyNext
 refine wpAny_bind (wpAny_attempt (wpAny_callSpecial?_slot (name:=Str.ofString "__next__") ty F.slot_dict_valueiterator_next (wpAny_call_entry F.slot_dict_valueiterator_next ty F.entry_dict_valueiterator_next ?_ (F.args_dict_valueiterator_next_1 _))))
 refine wpAny_bind (wpAny_pure (wpAny_bind (wpAny_bind (wpAny_bind (wpAny_typeNameOfWhole_valiter ty (wpAny_pure (wpAny_bind (wpAny_fieldsOf g1 g3 ?_))))))))
 simp only[show Builtin.Dict_items.ownsTuple "dict_valueiterator" = false by decide,zyr,if_false]
 show wpAny _ _ (if (Value.ref d == Value.none)=true then _ else _) _ _ s
 rw[if_neg (show ¬((Value.ref d == Value.none)=true) from zzo)]
 refine wpAny_bind (wpAny_pure (wpAny_bind (wpAny_dictEntries r1 r2 ?_)))
 rw[if_neg (by simp)]
 refine wpAny_bind (wpAny_pure (wpAny_bind (wpAny_dictEpoch r1 r2 ?_)))
 rw[if_neg (by simp)]
 refine wpAny_pure ?_
 simp only[show ¬((i:Int)<0) from by omega,if_false,zzY,zyQ hi]
 refine wpAny_bind (wpAny_bind (wpAny_typeNameOfWhole_valiter ty (wpAny_pure ?_)))
 show wpAny _ _ (setField (.ref it) 0 .none >>= _) _ _ s
 refine wpAny_bind (wpAny_setField g1 g3 (by simp) ?_)
 show wpAny _ _ (newExc (.type "StopIteration") [] >>= _) _ _ _
 refine wpAny_bind ?_
 simp only[newExc,newTuple]
 refine wpAny_bind (wpAny_newObj_type ?_ (by size_fits))
 refine wpAny_bind (m:=firstArgMember _ _) (wpAny_of_eq (a:=Value.none) (by first|rfl | (simp only[firstArgMember];rfl)) ?_)
 refine wpAny_newObj_type ?_ (by size_fits)
 simp only[raiseNew]
 refine wpAny_bind (wpAny_handled ?_)
 rw[show A.in1.handled=none from hh]
 refine wpAny_bind (wpAny_pure (wpAny_throw ?_))
 refine wpAny_bind (wpAny_isInstance (T:="StopIteration") (b:=true) ⟨_,zzn _ rfl,rfl⟩ isSubtype_stop ?_)
 exact wpAny_pure (q _ (((zzX ..).extBut.push _).push _))
end
def Itv(d:Addr)(o:Obj)(kvs:List (List Key×V)):It :=
 ⟨fun i H=>H d=some (.frz o (.dT kvs))/\i<kvs.length,fun i H x H'=>H'=H/\∃p,kvs[i]? = some p/\x=p.2,fun i H=>H d=some (.frz o (.dT kvs))/\kvs.length <= i⟩
theorem yG{P:Program}{w:World}{K:PySem.W.Frag}{tg:Expr}{d it:Addr}{o:Obj}{kvs:List (List Key×V)}{es:Array DictEntry}{ep:Nat}(hd:o.data=.dict es ep):Turn P w K tg (Itv d o kvs) [it] it (fun i h=>h.IsValIter it d i kvs.length ep) where
 mem:=by simp
 obj:=fun i h st b hb=>by
  have e:b=it:=by simpa using hb
  subst e
  obtain⟨o,e,c,d⟩:=st
  exact⟨o,e,fun v z=>by rw[d]at z;cases z⟩
 keep:=fun i h h' st k=>Heap.IsValIter.at st fun o e=>k it (by simp) o e
 item:=by
  intro X hP hw hK hc i pins s σ H E I hf st hg
  subst hP hw hK
  obtain⟨hD,hi⟩:=hg
  obtain⟨g0,z,lo,xs,rel,o',es',ep',g1,g2,g3,g4,g5⟩:=I.hok d _ hD
  rw[g0]at g1
  cases g1
  rw[hd]at g3
  cases g3
  have hsz:es.size=xs.length:=size_of_entries g4
  have hxl:kvs.length=xs.length:=Paired.length rel
  obtain⟨f0,f1,f2,f3,f4,f5⟩:=hf it (by simp)
  refine yF (by omega) (by omega) st ⟨o,g0,g2,hd⟩ fun h' st' sb=>?_
  have I1:Inv X pins σ H { s with heap:=h' }:=I.turned (t':=s.toks) (fun b o hb e=>(sb.2 b hb).trans e) f0 f1 f3 f4 f5
  obtain⟨oo,e,c,dd⟩:=id st'
  obtain⟨q,hq,r1,r2,r3⟩:=nj rel (zzB hi)
  have ek:es[i].val=q.2.2:=by
   have:=entry_at g4 i
   rw[hq,zyJ (by omega)]at this
   simp only[zyF,Option.some.injEq]at this
   rw[this]
   rfl
  rw[ek]
  exact⟨_,rfl,xb (s:={ s with heap:=h' }) e c dd (by decide) ⟨kvs[i].2,H,I1,r3,⟨rfl,kvs[i],zzB hi,rfl⟩,st',fun b hb=>(hf b hb).1⟩⟩
 done:=by
  intro X hP hw hK hc i pins s σ H E I hf st hg
  subst hP hw hK
  obtain⟨hD,hi⟩:=hg
  obtain⟨g0,z,lo,xs,rel,o',es',ep',g1,g2,g3,g4,g5⟩:=I.hok d _ hD
  rw[g0]at g1
  cases g1
  rw[hd]at g3
  cases g3
  have hsz:es.size=xs.length:=size_of_entries g4
  have hxl:kvs.length=xs.length:=Paired.length rel
  obtain⟨f0,f1,f2,f3,f4,f5⟩:=hf it (by simp)
  exact Ap (I.ok.hd hc) (by omega) (by omega) st ⟨o,g0,g2,hd⟩ fun h' eb=>⟨rfl,I.turned (t':=s.toks) (fun b o hb e=>eb b o hb e) f0 f1 f3 f4 f5⟩
 self:=fun _ _ _ _ _ st h=>wpAny_pyIter_valiter st h
section
variable{X:Cx}{tg:Expr}
theorem Di{l:Expr}{apos cpos:Pos}{tl:TE}(hl:PE X l tl)(hbase:attributeBase l "values" X.env (eval l X.env)=eval l X.env:=by rfl)(hline:(apos.endLine == cpos.line)=true:=by rfl):PI X tg (.Call (.Attribute l "values" apos) [] [] cpos) (iDct Itv tl):=by
 intro pins s σ H R I h
 refine wpAny_Call_method0_late hbase hline (thn (hl pins s σ H _ I h) fun v s1 ⟨x,H1,I1,r1,q1⟩=>?_)
 obtain⟨a,kvs,e,q⟩:=q1
 subst e
 cases r1
 obtain⟨o,H2,I2,hD,q⟩:∃o H2,Inv X pins σ H2 s1/\H2 a=some (.frz o (.dT kvs))/\R (Itv a o kvs) H2:=by
  rcases q with ⟨hD,q⟩|⟨o,hD,q⟩
  ·obtain⟨o,od,I2⟩:=I1.frz hD
   exact⟨o,_,I2,ak,q o od⟩
  ·exact⟨o,H1,I1,hD,q⟩
 obtain⟨g0,z,lo,xs,rel,o',es,ep,g1,g2,g3,g4,g5⟩:=I2.hok a _ hD
 rw[g0]at g1
 cases g1
 have hsz:es.size=xs.length:=size_of_entries g4
 have hxl:kvs.length=xs.length:=Paired.length rel
 have rw0:RawD a es ep s1.heap:=⟨o,g0,g2,g3⟩
 refine⟨"dict","dict.values",zyM,PySem.F.slot_dict_values,PySem.F.type_dict_values,rw0.type,fun b e=>(by injection e with e;subst e;exact⟨o,g0,g2.2.1⟩),Calls.callWith_builtin rfl (PySem.evalArgs_none ?_)⟩
 refine call_meetsIn PySem.F.slot_dict_values rw0.type PySem.F.entry_dict_values (PySem.F.args_dict_values_1 _) (wu a es ep lo) ⟨rw0,?_⟩
 have rw1:=rw0.keep (h':=s1.heap.push { cls:=.type "dict_values",data:=.fields #[.ref a] }) fun ob e=>zzf _ e
 have I3:Inv X pins σ H2 { s1 with heap:=s1.heap.push { cls:=.type "dict_values",data:=.fields #[.ref a] } }:=I2.kept (t':=s1.toks) fun b o e=>zzf _ e
 refine yE (s:={ s1 with heap:=s1.heap.push { cls:=.type "dict_values",data:=.fields #[.ref a] } }) ⟨_,zzn _ rfl,rfl,rfl⟩ rw1 ?_
 refine⟨_,[_],_,_,H2,rfl,I3.kept (t':=s1.toks) fun b o e=>zzf _ e,yG g3,⟨_,zzn _ rfl,rfl,by rw[show kvs.length=es.size by omega];rfl⟩,fun b hb=>?_,q⟩
 have e:=zzx.mp hb
 subst e
 exact I3.fpOk (zzh _) (I3.hok.fresh (zzh _))
end
end L2
namespace DL
open PySem PySem.Spec L2
open PyProof.Rows hiding St
variable[TB]
section
variable{K:PySem.W.Frag}{pp:Option Addr}{M:List Addr}{H H':Hp}
structure Dz(H H':Hp):Prop where
 oth:∀a u,H a=some u->(∀k,u ≠ .dT k)->(∀o k,u ≠ .frz o (.dT k))->H' a=some u
 dts:∀a k,Rd H a (.dT k)->Rd H' a (.dT k)
theorem Dz.pen(z:Dz H H'){p a:Addr}{ns:List Int}{t l:Int}(q:Pen K H p a ns t l):Pen K H' p a ns t l:=by
 refine⟨z.oth _ _ q.lst (by simp) (by simp),?_,q.t0⟩
 rcases q.scr with ⟨ob,r⟩|r
 ·exact .inl ⟨ob,z.oth _ _ r (by simp) (by simp)⟩
 ·exact .inr r
mutual
theorem Rep.dz(z:Dz H H'):∀(x:D) (v:V),Rep K pp M H x v->Rep K pp M H' x v
 |.non,_,h=>by simp only[Rep]at h ⊢;exact h
 |.bl _,_,h=>by simp only[Rep]at h ⊢;exact h
 |.int _,_,h=>by simp only[Rep]at h ⊢;exact h
 |.str _,_,h=>by simp only[Rep]at h ⊢;exact h
 |.ty _,_,h=>by simp only[Rep]at h ⊢;exact h
 |.tup ds,_,h=>by
  simp only[Rep]at h ⊢
  obtain⟨a,xs,e1,h1,h2⟩:=h
  exact⟨a,xs,e1,z.oth _ _ h1 (by simp) (by simp),Reps.dz z ds xs h2⟩
 |.lst ds,_,h=>by
  simp only[Rep]at h ⊢
  obtain⟨a,xs,e1,h0,hp,h1,h2⟩:=h
  exact⟨a,xs,e1,h0,hp,z.oth _ _ h1 (by simp) (by simp),Reps.dz z ds xs h2⟩
 |.dK ks ds,_,h=>by
  simp only[Rep]at h ⊢
  obtain⟨a,xs,e1,h0,hp,h1,h2,h3⟩:=h
  exact⟨a,xs,e1,h0,hp,z.oth _ _ h1 (by simp) (by simp),h2,Reps.dz z ds _ h3⟩
 |.dT ks ds,_,h=>by
  simp only[Rep]at h ⊢
  obtain⟨a,xs,e1,h0,hp,h1,h2,h3⟩:=h
  exact⟨a,xs,e1,h0,hp,z.dts _ _ h1,h2,Reps.dz z ds _ h3⟩
 |.pen,_,h=>by
  simp only[Rep]at h ⊢
  obtain⟨p,e1,e2,a,ns,t,l,q⟩:=h
  exact⟨p,e1,e2,a,ns,t,l,z.pen q⟩
 |.exc C,_,h=>by
  simp only[Rep]at h ⊢
  obtain⟨a,e1,h0,hp,h1⟩:=h
  exact⟨a,e1,h0,hp,z.oth _ _ h1 (by intro _ z;cases z) (by intro _ _ z;cases z)⟩
 |.cls _,_,h=>by simp only[Rep]at h ⊢;exact h
 |.exa C fs,_,h=>by
  simp only[Rep]at h ⊢
  obtain⟨a,dx,e1,h0,hp,h1,h2,h3,h4⟩:=h
  exact⟨a,dx,e1,h0,hp,z.oth _ _ h1 (by intro _ z;cases z) (by intro _ _ z;cases z),h2,h3,z.oth _ _ h4 (by intro _ z;cases z) (by intro _ _ z;cases z)⟩
theorem Reps.dz(z:Dz H H'):∀(ds:List D) (xs:List V),Reps K pp M H ds xs->Reps K pp M H' ds xs
 |[],_,h=>by simp only[Reps]at h ⊢;exact h
 |x::ds,_,h=>by
  simp only[Reps]at h ⊢
  obtain⟨y,r,e1,h1,h2⟩:=h
  exact⟨y,r,e1,Rep.dz z x y h1,Reps.dz z ds r h2⟩
end
variable{d:Addr}{kvs:List (List Key×V)}{o:Obj}
theorem Dz.fz(e:H d=some (.dT kvs)):Dz H (upd H d (.frz o (.dT kvs))) :=
 ⟨fun a u h n1 _=>by rw[ao (by rintro rfl;rw[e]at h;cases h;exact n1 _ rfl)];exact h,fun a k h=>by
  by_cases z:a=d
  ·subst z
   rcases h with h|⟨ob,h⟩<;>(rw[e]at h;cases h)
   exact .inr ⟨o,ak⟩
  ·rcases h with h|⟨ob,h⟩
   ·exact .inl (by rw[ao z];exact h)
   ·exact .inr ⟨ob,by rw[ao z];exact h⟩⟩
theorem Dz.th(e:H d=some (.frz o (.dT kvs))):Dz H (upd H d (.dT kvs)) :=
 ⟨fun a u h _ n2=>by rw[ao (by rintro rfl;rw[e]at h;cases h;exact n2 _ _ rfl)];exact h,fun a k h=>by
  by_cases z:a=d
  ·subst z
   rcases h with h|⟨ob,h⟩<;>(rw[e]at h;cases h)
   exact .inl ak
  ·rcases h with h|⟨ob,h⟩
   ·exact .inl (by rw[ao z];exact h)
   ·exact .inr ⟨ob,by rw[ao z];exact h⟩⟩
end
section
variable{X:Cx}{F:Fx}{K:PySem.W.Frag}
theorem RSt.frozen{M:List Addr}{H:Hp}{σ:St}{ρ:DS}{d:Addr}{kvs:List (List Key×V)}{o:Obj}(r:RSt K F M H σ ρ)(e:H d=some (.dT kvs)):RSt K ⟨F.pp,M,upd H d (.frz o (.dT kvs))⟩ M (upd H d (.frz o (.dT kvs))) σ (bn ρ):=by
 have z:Dz H (upd H d (.frz o (.dT kvs))):=.fz e
 have lv:∀b,H b≠none->upd H d (.frz o (.dT kvs)) b≠none:=fun b hb=>by
  by_cases q:b=d
  ·subst q;rw[ak];intro z;cases z
  ·rw[ao q];exact hb
 have rb:=r.rebase
 refine⟨rb.len,fun i s o h1 h2=>?_,OwF.none (fun i s h1=>?_),fun a h=>h,.refl,fun a ha=>lv a (r.liv.m a ha),⟨fun a ha=>lv a (r.liv.m a ha),fun p hp=>lv p (r.liv.p p hp)⟩,⟨trivial,r.lk.t.upd e Bi⟩⟩
 ·have q:=rb.sl i s o h1 h2
  cases s with
  |nil=>trivial
  |val d=>obtain⟨v,e,q⟩:=q;exact⟨v,e,q.dz z⟩
  |pin w d=>obtain⟨v,e,ew,q⟩:=q;exact⟨v,e,ew,q.dz z⟩
  |obj y=>exact q
  |own ds =>
   exfalso
   simp only[bn,zzq]at h1
   cases q:ρ[i]? with
   |none=>rw[q]at h1;cases h1
   |some s'=>rw[q]at h1;cases s'<;>cases h1
 ·simp only[bn,zzq]at h1
  cases q:ρ[i]? with
  |none=>rw[q]at h1;cases h1
  |some s' =>
   rw[q]at h1
   cases h1
   exact fA s'
theorem yH:∀(ρ:DS) (j:Nat),slot (bn ρ) j=lC (slot ρ j)
 |[],_=>rfl
 |_::_,0=>rfl
 |_::r,j+1=>yH r j
theorem Dj(js:List (Option Nat))(ρ:DS):subD js (bn ρ)=subD js ρ:=by
 simp only[subD]
 refine zzv fun jo _=>?_
 cases jo with
 |none=>rfl
 |some j =>
  show lC (slot (bn ρ) j)=lC (slot ρ j)
  rw[yH]
  cases slot ρ j<;>rfl
theorem rK{tg elt:Expr}{ifs:List Expr}{scope:Scope}{cl:List (Str×Addr)}{N':List Str}{js:List (Option Nat)}{g:DG}{tc:DT}{te:DE}{M1:List Addr}{H1:Hp}{σ:St}{ρ1:DS}{J:It}{ds:List D}{Q:VK}{Qd:List D->Prop}
  (hg:∀B:Blk,PGD (cxB X scope cl N' B) tg g) (ht:∀B:Blk,PTsD (cxB X scope cl N' B) ifs tc) (he:∀B:Blk,PED (cxB X scope cl N' B) elt te)
  (rsb:RSt X.K ⟨F.pp,M1,H1⟩ M1 H1 σ (bn ρ1)) (ok:ItOk X.K F.pp J M1 H1 ds) (h:cF g tc te ds [] (subD js ρ1) Qd)
  (fin:∀Dl H' acc ys,SameP X.K F.pp H1 (delH H' Dl)->H' Dl=some (.lst ys)->(Dl∉M1/\F.pp≠some Dl)->Reps X.K F.pp M1 (delH H' Dl) acc ys->Qd acc->Q (.ref Dl) H') :
  ∀(B:Blk) D,H1 D=none->∃W:Nat->Nat->St->Hp->Prop,(∃m,W 0 m (L2.sub js σ) (upd H1 D (.lst [])))/\∀i m σ' H',W i m σ' H' ->
   (J.stop i H'/\Q (.ref D) H')∨(J.go i H'/\∃N:St->Hp->Prop,(∀σ2 H2,N σ2 H2->∃m',m'<m/\W (i+1) m' σ2 H2)/\∀y H2,J.yld i H' y H2->(Classical.choose (hg B).run) y σ' H2 fun σ3 H3=>(Classical.choose (ht B).run) σ3 H3 fun b H4 =>
    if b=true then(Classical.choose (he B).run) σ3 H4 fun v H5=>∃ys,H5 D=some (.lst ys)/\ys.length<sizeLine/\N σ3 (upd H5 D (.lst (ys++[v]))) else N σ3 H4):=by
 intro B Dl hD
 obtain⟨_,rg⟩:=zzA (hg B).run
 obtain⟨_,rt⟩:=zzA (ht B).run
 obtain⟨_,re⟩:=zzA (he B).run
 have fr:=rsb.liv.fresh hD
 have m3:Mv X.K F.pp M1 H1 (Dl::M1) (upd H1 Dl (.lst [])):=.newOwn hD
 refine⟨fun i m σ' H'=>∃M' ρ' acc ys,m=ds.length - i/\i <= ds.length/\Mv X.K F.pp M1 H1 M' H'/\SameP X.K F.pp H1 H'/\RSt X.K ⟨F.pp,M',H'⟩ M' H' σ' (bn ρ')/\Dl∈M'/\(∀a∈M1,a∈M')/\H' Dl=some (.lst ys)/\Reps X.K F.pp M' H' acc ys /\
  cF g tc te (ds.drop i) acc (bn ρ') Qd,
  ⟨ds.length,Dl::M1,subD js ρ1,[],[],rfl,zzH _,m3,.new hD,by rw[hG,←Dj js ρ1];exact rsb.block js hD,zzd,fun a ha=>zzb _ ha,ak,.nil,by rw[hG];exact h⟩,?_⟩
 rintro i m σ' H' ⟨M',ρ',acc,ys,rfl,hil,mv,sm,rs',hDm,hsub,hDl,ra,hcoll⟩
 by_cases hlt:i<ds.length
 ·have e1:ds[i]? = some ds[i]:=by simp[hlt]
  rw[zyI hlt]at hcoll
  refine .inr ⟨ok.go M' H' mv i hlt,fun σ2 H2=>∃M2 ρ2 acc ys,Mv X.K F.pp M1 H1 M2 H2/\SameP X.K F.pp H1 H2/\RSt X.K ⟨F.pp,M2,H2⟩ M2 H2 σ2 (bn ρ2)/\Dl∈M2/\(∀a∈M1,a∈M2)/\H2 Dl=some (.lst ys)/\Reps X.K F.pp M2 H2 acc ys /\
   cF g tc te (ds.drop (i+1)) acc (bn ρ2) Qd,
   fun σ2 H2 ⟨M2,ρ2,acc,ys,a1,a2,a3,a4,a5,a6,a7,a8⟩=>⟨ds.length - (i+1),by omega,M2,ρ2,acc,ys,rfl,hlt,a1,a2,a3,a4,a5,a6,a7,a8⟩,fun y H2 yl=>?_⟩
  obtain⟨sp,rx⟩:=ok.yld M' H' mv i _ y H2 e1 yl
  have rs'':RSt X.K ⟨F.pp,M',H2⟩ M' H2 σ' (bn ρ'):=by
   have:=(rs'.sameP sp).rebase
   rw[mR]at this
   exact this
  have mv2:=mv.trans (sp.mv (M:=M'))
  have sm2:=sm.trans sp
  have ra2:=ra.mv (sp.mv (M:=M'))
  have hDl2:H2 Dl=some (.lst ys):=sp.keep Dl _ hDl (nw fr.2)
  refine rg M' H2 σ' (bn ρ') _ _ _ rs'' rx ((hg B).mono _ _ _ _ (fun ρ3 h3 M3 H3 σ3 m3 rs3=>?_) hcoll)
  refine rt M3 H3 σ3 ρ3 _ rs3 ((ht B).mono _ _ _ (fun b ρ4 h4 M4 H4 m4 rs4=>?_) h3)
  -- what stands behind a step within this turn
  have keep:∀{M5:List Addr}{H5:Hp}{σ5:St}{ρ5:DS},Mv X.K F.pp M' H2 M5 H5->RSt X.K ⟨F.pp,M',H2⟩ M5 H5 σ5 ρ5->Mv X.K F.pp M1 H1 M5 H5/\SameP X.K F.pp H1 H5/\RSt X.K ⟨F.pp,M5,H5⟩ M5 H5 σ5 (bn ρ5)/\Dl∈M5/\(∀a∈M1,a∈M5)/\H5 Dl=some (.lst ys)/\Reps X.K F.pp M5 H5 acc ys:=fun mm rr =>
   ⟨mv2.trans mm,sm2.trans rr.sameT,rr.rebase,rr.sub _ hDm,fun a ha=>rr.sub _ (hsub a ha),rr.same.keep Dl _ hDl2 (nw fr.2),ra2.mv mm⟩
  cases b with
  |false =>
   refine iteF ?_
   obtain⟨a1,a2,a3,a4,a5,a6,a7⟩:=keep (m3.trans m4) rs4
   exact⟨M4,ρ4,acc,ys,a1,a2,a3,a4,a5,a6,a7,h4.no rfl⟩
  |true =>
   refine iteT (re M4 H4 σ3 ρ4 _ rs4 ((he B).mono _ _ _ (fun y ρ5 h5 M5 H5 v m5 rs5 r5=>?_) (h4.yes rfl)))
   obtain⟨a1,a2,a3,a4,a5,a6,a7⟩:=keep ((m3.trans m4).trans m5) rs5
   have mw:Mv X.K F.pp M5 H5 M5 (upd H5 Dl (.lst (ys++[v]))):=.write a6 a4 fr.2
   refine⟨ys,a6,by rw[←a7.length];exact h5.1,M5,ρ5,acc++[y],ys++[v],a1.trans mw,?_,a3.writeFree a4 fr.2 a6,a4,a5,ak,(a7.append (.one r5)).mv mw,h5.2⟩
   refine⟨⟨fun b o e n=>?_,fun p e hp=>mw.pen p e (a2.pen p e hp),fun b hb=>?_⟩,fun tb=>mw.tb (a2.tb tb)⟩
   ·rw[ao (by rintro rfl;rw[hD]at e;cases e)]
    exact a2.keep b o e n
   ·by_cases z:b=Dl
    ·subst z;rw[ak];intro z;cases z
    ·rw[ao z];exact a2.live b hb
 ·have e:i=ds.length:=by omega
  refine .inl ⟨ok.stop M' H' mv i (by omega),?_⟩
  have hd:ds.drop i=[]:=by rw[List.drop_eq_nil_iff];omega
  rw[hd]at hcoll
  have sd:SameP X.K F.pp H1 (delH H' Dl):=by
   refine⟨⟨fun b o e n=>?_,fun p e hp=>?_,fun b hb=>?_⟩,fun tb=>(sm.tb tb).del hDl ki⟩
   ·rw[bp (by rintro rfl;rw[hD]at e;cases e)]
    exact sm.keep b o e n
   ·obtain⟨a,ns,t,l,pn⟩:=sm.pen p e hp
    have np:p≠Dl:=by rintro rfl;exact fr.2 e
    refine⟨a,ns,t,l,by rw[bp np];exact pn.lst,?_,pn.t0⟩
    rcases pn.scr with ⟨o,q⟩|q
    ·exact .inl ⟨o,by rw[bp (jl q hDl (by intro z;cases z))];exact q⟩
    ·exact .inr q
   ·rw[bp (by rintro rfl;exact hb hD)]
    exact sm.live b hb
  have md:Mv X.K F.pp M' H' M1 (delH H' Dl):=by
   refine⟨fun a xs q=>by rw[bp (jl q hDl (by intro z;cases z))];exact q,fun a o q n p=>⟨by rw[bp (by rintro rfl;exact n hDm)];exact q,fun z=>n (hsub a z)⟩,fun p e hp=>?_,fun tb=>tb.del hDl ki⟩
   obtain⟨a,ns,t,l,pn⟩:=hp
   have np:p≠Dl:=by rintro rfl;exact fr.2 e
   refine⟨a,ns,t,l,by rw[bp np];exact pn.lst,?_,pn.t0⟩
   rcases pn.scr with ⟨o,q⟩|q
   ·exact .inl ⟨o,by rw[bp (jl q hDl (by intro z;cases z))];exact q⟩
   ·exact .inr q
  exact fin Dl H' acc ys sd hDl fr (ra.mv md) hcoll
abbrev yI(f:List (List Key)->List D->List D)(j:Nat)(js:List (Option Nat))(g:DG)(tc:DT)(te:DE):DA:=fun ρ Q=>∃ks es,slot ρ j=.val (.dT ks es)/\cF g tc te (f ks es) [] (subD js ρ) fun ys=>Q ys ρ
theorem vo{iter:Expr}{J:Addr->Obj->List (List Key×V)->It}{f:List (List Key)->List D->List D}{j:Nat}{tg elt:Expr}{ifs:List Expr}{scope:Scope}{cl:List (Str×Addr)}{N':List Str}{js:List (Option Nat)}{pos:Pos}{g:DG}{tc:DT}{te:DE}
  (hc:X.calm=true) (hclo:dc X.env.cells scope.names []=some cl) (hdis:∀y∈scope.names,y.2=.free->(y.1,NameKind.cell)∉scope.names) (hkind:scope.kind=.function) (cap:Cap X scope N' js)
  (hnames:∀y∈scope.names,y.2=.local->scope.names.lookup y.1=some .local) (hi:PI X tg iter (iDct J (tVar j)))
  (itk:∀{pp:Option Addr}{M:List Addr}{a:Addr}{kvs:List (List Key×V)}{es:List D} (o:Obj) (H1:Hp),a∉M->pp≠some a->H1 a=some (.frz o (.dT kvs))->Reps X.K pp M H1 es (kvs.map (·.2))->ItOk X.K pp (J a o kvs) M H1 (f (kvs.map (·.1)) es))
  (hg:∀B:Blk,PGD (cxB X scope cl N' B) tg g) (ht:∀B:Blk,PTsD (cxB X scope cl N' B) ifs tc) (he:∀B:Blk,PED (cxB X scope cl N' B) elt te)
  (hs:∀v,foldedSetIterable iter X.env v=pure v):PCD X (.ListComp elt [⟨tg,iter,ifs,0⟩] scope pos) (yI f j js g tc te):=by
 have hb:∀B:Blk,PG (cxB X scope cl N' B) tg (Classical.choose (hg B).run)/\PTs (cxB X scope cl N' B) ifs (Classical.choose (ht B).run)/\PE (cxB X scope cl N' B) elt (Classical.choose (he B).run):=fun B =>
  ⟨(zzA (hg B).run).1,(zzA (ht B).run).1,(zzA (he B).run).1⟩
 let B0:Blk:=⟨0,X.s₀,X.H₀,[],[]⟩
 refine⟨fun ρ _ _ f ⟨ks,es,h1,h⟩=>⟨ks,es,h1,hU (hg B0).mono (ht B0).mono (he B0).mono (fun ys h=>f _ _ h) _ _ _ h⟩,_,Dg (xK hc hclo hdis hkind cap hnames hi hb hs),fun i y py spos hN hy hl hsw=>Dh (xL hN hy hl hc hclo hdis hkind cap hnames hi hb hsw hs),fun {F} M H σ ρ Q rs h=>?_⟩
 obtain⟨ks,es,hsl,h⟩:=h
 obtain⟨o,ho,v,rfl,r⟩:=rs.at (aF hsl (by intro z;cases z))
 simp only[Rep]at r
 obtain⟨a,kvs,rfl,am,ap,ha,rfl,rr⟩:=r
 rcases ha with ha|⟨ob,ha⟩
 ·refine .inl ⟨a,kvs,ha,.ref a,ho,a,kvs,rfl,.inl ⟨ha,fun o od=>?_⟩⟩
  refine rK (F:=F) (ρ1:=ρ) (Q:=fun v H'=>∃o,H' a=some (.frz o (.dT kvs))/\Q v (upd H' a (.dT kvs))) hg ht he (rs.frozen ha) (itk o _ am ap ak (rr.dz (.fz ha))) h fun Dl H' acc ys sd hDl fr ra hq=>?_
  have na:a≠Dl:=by
   rintro rfl
   have:=sd.keep a _ ak (nw ap)
   rw[jz]at this
   cases this
  have ea:H' a=some (.frz o (.dT kvs)):=by
   have:=sd.keep a _ ak (nw ap)
   rw[bp na]at this
   exact this
  refine⟨o,ea,?_⟩
  have ed:delH H' Dl a=some (.frz o (.dT kvs)):=by rw[bp na];exact ea
  have sp:SameP X.K F.pp H (upd (delH H' Dl) a (.dT kvs)):=by
   refine⟨⟨fun b u e n=>?_,fun p e ⟨a',ns,t,l,hp⟩=>?_,fun b hb=>?_⟩,fun tb=>?_⟩
   ·by_cases z:b=a
    ·subst z
     rw[ha]at e
     cases e
     exact ak
    ·rw[ao z]
     exact sd.keep b u (by rw[ao z];exact e) n
   ·obtain⟨a2,ns2,t2,l2,hp2⟩:=sd.pen p e ⟨a',ns,t,l,(Dz.fz ha).pen hp⟩
    exact⟨a2,ns2,t2,l2,(Dz.th ed).pen hp2⟩
   ·by_cases z:b=a
    ·subst z;rw[ak];intro z;cases z
    ·rw[ao z]
     exact sd.live b (by rw[ao z];exact hb)
   ·have t2:=sd.tb (tb.upd ha Bi)
    intro P ql hP
    obtain⟨ps,e1,e2,e3⟩:=t2 P ql hP
    refine⟨ps,by rw[ao (jl e1 ed (by intro z;cases z))];exact e1,e2,fun pos cv e=>?_⟩
    obtain⟨c,oc,u,vs,t,f1,f2,f3⟩:=e3 pos cv e
    refine⟨c,oc,u,vs,t,f1,?_,f3⟩
    rw[ao]
    ·exact f2
    ·rintro rfl
     rw[ed]at f2
     cases f2
     obtain⟨es,ep,q⟩:=od
     rw[q]at f3
     exact absurd f3.1 (by intro z;cases z)
  have eH:upd H' a (.dT kvs)=upd (upd (delH H' Dl) a (.dT kvs)) Dl (.lst ys):=by
   funext b
   by_cases z:b=Dl
   ·subst z;rw[ak,ao (Ne.symm na)];exact hDl
   ·rw[ao z]
    by_cases z':b=a
    ·subst z';rw[ak,ak]
    ·rw[ao z',ao z',bp z]
  exact hq M _ _ Dl ys sp.mv (rs.sameP sp) (by rw[ao (Ne.symm na)];exact jz) eH (ra.dz (.th ed))
 ·refine .inr ⟨.ref a,ho,a,kvs,rfl,.inr ⟨ob,ha,?_⟩⟩
  refine rK (F:=F) (ρ1:=ρ) (Q:=Q) hg ht he rs.rebase (itk ob H am ap ha rr) h fun Dl H' acc ys sd hDl fr ra hq=>?_
  exact hq M (delH H' Dl) H' Dl ys sd.mv (rs.sameP sd) jz (uQ hDl).symm ra
theorem vp{x:Str}{p:Pos}{j:Nat}{tg elt:Expr}{ifs:List Expr}{scope:Scope}{cl:List (Str×Addr)}{N':List Str}{js:List (Option Nat)}{pos:Pos}{g:DG}{tc:DT}{te:DE}
  (hc:X.calm=true) (hclo:dc X.env.cells scope.names []=some cl) (hdis:∀y∈scope.names,y.2=.free->(y.1,NameKind.cell)∉scope.names) (hkind:scope.kind=.function) (cap:Cap X scope N' js)
  (hnames:∀y∈scope.names,y.2=.local->scope.names.lookup y.1=some .local) (hi:PE X (.Name x p) (tVar j))
  (hg:∀B:Blk,PGD (cxB X scope cl N' B) tg g) (ht:∀B:Blk,PTsD (cxB X scope cl N' B) ifs tc) (he:∀B:Blk,PED (cxB X scope cl N' B) elt te)
  (hs:∀v,foldedSetIterable (.Name x p) X.env v=pure v:=by intro _;rfl):PCD X (.ListComp elt [⟨tg,.Name x p,ifs,0⟩] scope pos) (yI (fun ks _=>ks.map keyD) j js g tc te) :=
 vo hc hclo hdis hkind cap hnames (De hi) (fun o H1 am ap e1 rr=>by
  refine⟨fun M2 H2 m i d x H3 e y=>?_,fun M2 H2 m i hi=>⟨(m.oth _ _ e1 am (np ap)).1,by simpa using hi⟩,fun M2 H2 m i hi=>⟨(m.oth _ _ e1 am (np ap)).1,by simpa using hi⟩⟩
  obtain⟨rfl,q,b,hq,rfl,hb⟩:=y
  rw[zzq,zzq,hq]at e
  cases e
  exact⟨.refl,vh hb⟩) hg ht he hs
theorem Aq{x:Str}{p apos cpos:Pos}{j:Nat}{tg elt:Expr}{ifs:List Expr}{scope:Scope}{cl:List (Str×Addr)}{N':List Str}{js:List (Option Nat)}{pos:Pos}{g:DG}{tc:DT}{te:DE}
  (hc:X.calm=true) (hclo:dc X.env.cells scope.names []=some cl) (hdis:∀y∈scope.names,y.2=.free->(y.1,NameKind.cell)∉scope.names) (hkind:scope.kind=.function) (cap:Cap X scope N' js)
  (hnames:∀y∈scope.names,y.2=.local->scope.names.lookup y.1=some .local) (hi:PE X (.Name x p) (tVar j))
  (hg:∀B:Blk,PGD (cxB X scope cl N' B) tg g) (ht:∀B:Blk,PTsD (cxB X scope cl N' B) ifs tc) (he:∀B:Blk,PED (cxB X scope cl N' B) elt te)
  (hbase:attributeBase (.Name x p) "values" X.env (eval (.Name x p) X.env)=eval (.Name x p) X.env:=by rfl) (hline:(apos.endLine == cpos.line)=true:=by rfl)
  (hs:∀v,foldedSetIterable (.Call (.Attribute (.Name x p) "values" apos) [] [] cpos) X.env v=pure v:=by intro _;rfl):PCD X (.ListComp elt [⟨tg,.Call (.Attribute (.Name x p) "values" apos) [] [] cpos,ifs,0⟩] scope pos) (yI (fun _ es=>es) j js g tc te) :=
 vo hc hclo hdis hkind cap hnames (Di hi hbase hline) (fun o H1 am ap e1 rr=>by
  have ln:=rr.length
  rw[zza]at ln
  refine⟨fun M2 H2 m i d x H3 e y=>?_,fun M2 H2 m i hi=>⟨(m.oth _ _ e1 am (np ap)).1,by omega⟩,fun M2 H2 m i hi=>⟨(m.oth _ _ e1 am (np ap)).1,by omega⟩⟩
  obtain⟨rfl,q,hq,rfl⟩:=y
  obtain⟨v,ev,rv⟩:=(rr.mv m).get' e
  rw[zzq,hq]at ev
  cases ev
  exact⟨.refl,rv⟩) hg ht he hs
end
end DL
namespace My
open PySem L2
def top(i:Nat):Stmt:=PySem.Challenge.pw_othersum_k57_whole_each_turning_by_each.main.body.getD i (.Pass ⟨0,0,0,0⟩)
abbrev kB:Stmt:=top 6
theorem tM:FnScope ["thing"] ["thing"] (aj kB):=bc
abbrev iH:Stmt:=top 7
theorem rL:FnScope ["thing","least","most"] ["thing","least","most"] (aj iH):=bc
abbrev kC:Stmt:=top 8
theorem tN:FnScope ["thing"] ["thing"] (aj kC):=bc
abbrev kD:Stmt:=top 9
theorem sc_together:FnScope ["counts","tried","well"] ["counts"] (aj kD):=bc
abbrev cu:Stmt:=top 10
theorem ik:FnScope ["many","rows"] ["many","rows"] (aj cu):=bc
abbrev yJ:Stmt:=top 11
theorem sc_said:FnScope ["one","other","first","second"] ["one","other"] (aj yJ):=bc
abbrev fE:Stmt:=top 13
theorem oD:FnScope ["many","house"] ["many","house"] (aj fE):=bc
abbrev gj:Stmt:=top 14
theorem pY:FnScope ["many","a","b"] ["many","a","b"] (aj gj):=bc
abbrev iI:Stmt:=top 15
theorem rM:FnScope ["table"] ["table"] (aj iI):=bc
abbrev nq:Stmt:=top 23
theorem sc_book_of:FnScope ["many","marks","rows","pairs"] ["many","marks","rows"] (aj nq):=bc
abbrev kE:Stmt:=top 24
theorem sc_gathered:FnScope ["many","pairs","found","kinds","counts","cells"] ["many","pairs"] (aj kE):=bc
abbrev kF:Stmt:=top 25
theorem tO:FnScope ["counts"] ["counts"] (aj kF):=bc
abbrev dR:Stmt:=top 26
theorem sc_counts_of_row:FnScope ["row","many","counts"] ["row","many"] (aj dR):=bc
abbrev iJ:Stmt:=top 27
theorem rN:FnScope ["marks"] ["marks"] (aj iJ):=bc
abbrev kG:Stmt:=top 28
theorem tP:FnScope ["rows","many","marks"] ["rows","many","marks"] (aj kG):=bc
abbrev pZ:Stmt:=top 29
theorem yK:FnScope ["row","many","marks"] ["row","many","marks"] (aj pZ):=bc
abbrev iK:Stmt:=top 30
theorem rO:FnScope ["kinds","marks"] ["kinds","marks"] (aj iK):=bc
abbrev kH:Stmt:=top 32
theorem tQ:FnScope ["book","some"] ["book","some"] (aj kH):=bc
abbrev kJ:Stmt:=top 33
theorem tR:FnScope ["book","some"] ["book","some"] (aj kJ):=bc
abbrev iL:Stmt:=top 34
theorem rP:FnScope ["kinds","some"] ["kinds","some"] (aj iL):=bc
abbrev gk:Stmt:=top 35
theorem qa:FnScope ["book","mark"] ["book","mark"] (aj gk):=bc
abbrev fF:Stmt:=top 36
theorem sc_check_marks:FnScope ["book","some","mark"] ["book","some"] (aj fF):=bc
abbrev nr:Stmt:=top 38
theorem wv:FnScope ["table"] ["table"] (aj nr):=bc
abbrev yL:Stmt:=top 39
theorem Dk:FnScope ["table","a","b"] ["table","a","b"] (aj yL):=bc
abbrev nu:Stmt:=top 40
theorem sc_turning:FnScope ["table","a","b","told","whole","number","part"] ["table","a","b"] (aj nu):=bc
abbrev dA:Stmt:=top 41
theorem kK:FnScope ["number","whole"] ["number","whole"] (aj dA):=bc
abbrev iM:Stmt:=top 43
theorem rQ:FnScope ["book","a","b"] ["book","a","b"] (aj iM):=bc
abbrev ny:Stmt:=top 44
theorem sc_choices:FnScope ["many","told","longest"] ["many"] (aj ny):=bc
abbrev qb:Stmt:=top 45
theorem sc_longer:FnScope ["tuples","many","told","some","start","mark"] ["tuples","many"] (aj qb):=bc
abbrev tS:Stmt:=top 47
theorem sc_knots:FnScope ["book","order","told","length"] ["book","order"] (aj tS):=bc
abbrev eP:Stmt:=top 48
theorem sc_turned_knots:FnScope ["book","order","a","b","found","kids","told","values","counts","numbers","number","all_say"] ["book","order","a","b"] (aj eP):=bc
abbrev eQ:Stmt:=top 49
theorem sc_says_of_kids:FnScope ["found","a","b","kids","values","counts"] ["found","a","b"] (aj eQ):=bc
abbrev kL:Stmt:=top 51
theorem tT:FnScope ["_law_script"] ["_law_script"] (aj kL):=bc
abbrev iN:Stmt:=top 52
theorem sc__law_next:FnScope ["_law_pen_here","_law_many","_law_script","_law_turn","_law_left","_law_cell","_law_number"] ["_law_pen_here","_law_many"] (aj iN):=bc
abbrev gq:Stmt:=top 53
theorem sc__law_count:FnScope ["_law_pen_here","_law_house","_law_even","_law_tilted","_law_tried","_law_often","_law_well"] ["_law_pen_here","_law_house","_law_even","_law_tilted"] (aj gq):=bc
abbrev iO:Stmt:=top 54
theorem sc__law_rows:FnScope ["_law_pen_here","_law_many","_law_marks","_law_tilted","_law_mark","_law_rows_here","_law_k","_law_kinds","_law_house"] ["_law_pen_here","_law_many","_law_marks"] (aj iO):=bc
abbrev gr:Stmt:=top 55
theorem sc__law_parts:FnScope ["_law_rows_here","_law_some","_law_a","_law_b","_law_found","_law_house","_law_kinds","_law_tried","_law_well","_law_values","_law_one","_law_place","_law_mine"] ["_law_rows_here","_law_some","_law_a","_law_b"] (aj gr):=bc
abbrev iP:Stmt:=top 56
theorem sc__law_said:FnScope ["_law_one","_law_left","_law_right_here"] ["_law_one"] (aj iP):=bc
abbrev gs:Stmt:=top 57
theorem qc:FnScope ["_law_parts_here"] ["_law_parts_here"] (aj gs):=bc
abbrev kM:Stmt:=top 58
theorem sc__law_due:FnScope ["_law_parts_here","_law_told","_law_whole_here","_law_s","_law_i","_law_one"] ["_law_parts_here"] (aj kM):=bc
abbrev cG:Stmt:=top 59
theorem sc__law_all_choices:FnScope ["_law_size","_law_ways","_law_found","_law_turn","_law_longer","_law_some"] ["_law_size"] (aj cG):=bc
abbrev dD:Stmt:=top 60
theorem sc__law_knots_due:FnScope ["_law_rows_here","_law_order","_law_a","_law_b","_law_found","_law_deep","_law_parts_here","_law_kids","_law_values","_law_told","_law_s"] ["_law_rows_here","_law_order","_law_a","_law_b"] (aj dD):=bc
abbrev cw:Stmt:=top 61
theorem sc__law_leaves_right:FnScope ["_law_rows_here","_law_order","_law_a","_law_b","_law_turned","_law_parts_here","_law_told","_law_s"] ["_law_rows_here","_law_order","_law_a","_law_b","_law_turned"] (aj cw):=bc
abbrev gt:Stmt:=top 62
theorem sc__law_right:FnScope ["_law_book","_law_rows_here","_law_size","_law_a","_law_b","_law_order","_law_turned","_law_some","_law_due_here","_law_told"] ["_law_book","_law_rows_here","_law_size","_law_a","_law_b","_law_order"] (aj gt):=bc
abbrev Dm:Stmt:=top 63
theorem sc_law:FnScope ["_law_script","_law_pen_here","_law_many","_law_marks","_law_rows_here","_law_gone","_law_book","_law_order","_law_mark","_law_a","_law_b"] ["_law_script"] (aj Dm):=bc
set_option genInjectivity false in
set_option genSizeOf false in
structure Tx(K:PySem.W.Frag)(mg:Str->Option Value) where
 kU:Addr
 jd:FuncData
 bv:Df K mg "is_whole" kB ["thing"] kU jd
 iZ:Addr
 gU:FuncData
 az:Df K mg "is_within" iH ["thing","least","most"] iZ gU
 kY:Addr
 jf:FuncData
 fj:Df K mg "is_count" kC ["thing"] kY jf
 lh:Addr
 jg:FuncData
 fh:Df K mg "together" kD ["counts"] lh jg
 cy:Addr
 cg:FuncData
 aI:Df K mg "together_by_house" cu ["many","rows"] cy cg
 zG:Addr
 uu:FuncData
 eM:Df K mg "said" yJ ["one","other"] zG uu
 fK:Addr
 eU:FuncData
 bj:Df K mg "check_house" fE ["many","house"] fK eU
 gT:Addr
 fL:FuncData
 aP:Df K mg "check_pair" gj ["many","a","b"] gT fL
 jj:Addr
 gA:FuncData
 bT:Df K mg "houses_of" iI ["table"] jj gA
 oj:Addr
 kZ:FuncData
 gK:Df K mg "book_of" nq ["many","marks","rows"] oj kZ
 ij:Addr
 fW:FuncData
 cA:Df K mg "gathered" kE ["many","pairs"] ij fW
 ld:Addr
 ji:FuncData
 fq:Df K mg "is_tried" kF ["counts"] ld ji
 dZ:Addr
 dG:FuncData
 bQ:Df K mg "counts_of_row" dR ["row","many"] dZ dG
 iV:Addr
 gE:FuncData
 ej:Df K mg "are_marks" iJ ["marks"] iV gE
 kW:Addr
 jh:FuncData
 fo:Df K mg "are_rows" kG ["rows","many","marks"] kW jh
 qw:Addr
 on:FuncData
 jX:Df K mg "is_row" pZ ["row","many","marks"] qw on
 jc:Addr
 gF:FuncData
 ee:Df K mg "are_kinds" iK ["kinds","marks"] jc gF
 ig:Addr
 fO:FuncData
 cC:Df K mg "parts_by" kH ["book","some"] ig fO
 ii:Addr
 fP:FuncData
 cB:Df K mg "table_by" kJ ["book","some"] ii fP
 iW:Addr
 gL:FuncData
 eh:Df K mg "values_by" iL ["kinds","some"] iW gL
 gS:Addr
 fV:FuncData
 dw:Df K mg "check_mark" gk ["book","mark"] gS fV
 fX:Addr
 eS:FuncData
 bh:Df K mg "check_marks" fF ["book","some"] fX eS
 om:Addr
 kX:FuncData
 gJ:Df K mg "sums_of" nr ["table"] om kX
 vR:Addr
 qt:FuncData
 sF:Df K mg "says" yL ["table","a","b"] vR qt
 oh:Addr
 lc:FuncData
 du:Df K mg "turning" nu ["table","a","b"] oh lc
 dE:Addr
 cV:FuncData
 bH:Df K mg "turned_or_kept" dA ["number","whole"] dE cV
 iX:Addr
 gN:FuncData
 bS:Df K mg "turned_by" iM ["book","a","b"] iX gN
 oi:Addr
 li:FuncData
 gD:Df K mg "choices" ny ["many"] oi li
 qu:Addr
 nZ:FuncData
 jV:Df K mg "longer" qb ["tuples","many"] qu nZ
 qv:Addr
 mt:FuncData
 og:Df K mg "knots" tS ["book","order"] qv mt
 cZ:Addr
 cM:FuncData
 aT:Df K mg "turned_knots" eP ["book","order","a","b"] cZ cM
 eR:Addr
 dY:FuncData
 cq:Df K mg "says_of_kids" eQ ["found","a","b"] eR dY
 lg:Addr
 jb:FuncData
 fm:Df K mg "_law_pen" kL ["_law_script"] lg jb
 fT:Addr
 eN:FuncData
 ae:Df K mg "_law_next" iN ["_law_pen_here","_law_many"] fT eN
 gP:Addr
 fS:FuncData
 dq:Df K mg "_law_count" gq ["_law_pen_here","_law_house","_law_even","_law_tilted"] gP fS
 je:Addr
 gO:FuncData
 eu:Df K mg "_law_rows" iO ["_law_pen_here","_law_many","_law_marks"] je gO
 gG:Addr
 fM:FuncData
 aK:Df K mg "_law_parts" gr ["_law_rows_here","_law_some","_law_a","_law_b"] gG fM
 iU:Addr
 gI:FuncData
 ay:Df K mg "_law_said" iP ["_law_one"] iU gI
 gC:Addr
 fQ:FuncData
 bA:Df K mg "_law_whole" gs ["_law_parts_here"] gC fQ
 kT:Addr
 iT:FuncData
 fi:Df K mg "_law_due" kM ["_law_parts_here"] kT iT
 cN:Addr
 cx:FuncData
 bm:Df K mg "_law_all_choices" cG ["_law_size"] cN cx
 dF:Addr
 cU:FuncData
 bG:Df K mg "_law_knots_due" dD ["_law_rows_here","_law_order","_law_a","_law_b"] dF cU
 cz:Addr
 ci:FuncData
 aW:Df K mg "_law_leaves_right" cw ["_law_rows_here","_law_order","_law_a","_law_b","_law_turned"] cz ci
 gQ:Addr
 fR:FuncData
 dm:Df K mg "_law_right" gt ["_law_book","_law_rows_here","_law_size","_law_a","_law_b","_law_order"] gQ fR
 DN:Addr
 zJ:FuncData
 FZ:Df K mg "law" Dm ["_law_script"] DN zJ
 sG:mg "ValueError" = none
 zI:mg "sum" = none
 bU:mg "tuple" = none
 cD:mg "len" = none
 FY:mg "any" = none
 Bc:mg "all" = none
 fU:mg "enumerate" = none
 cW:mg "range" = none
 bi:mg "isinstance" = none
 uv:mg "int" = none
 Bb:mg "min" = none
 mx:mg "sorted" = none
 BV:mg "bool" = none
 FX:mg "set" = none
 zH:mg "list" = none
 FW:mg "zip" = none
 bR:Tok
 gR:mg "LEAST_HOUSES" = some (.int 2 bR)
 cr:Tok
 iw:mg "MOST_HOUSES" = some (.int 6 cr)
 cL:Tok
 jW:mg "MOST_MARKS" = some (.int 5 cL)
 dr:Tok
 lJ:mg "MOST_ROWS" = some (.int 60 dr)
 cK:Tok
 jU:mg "MOST_KINDS" = some (.int 6 cK)
 cJ:Tok
 jT:mg "MOST_TRIED" = some (.int 1000000000000 cJ)
open DL
section
variable{P:Program}{w:World}{K:PySem.W.Frag}{mg:Str->Option Value}{base:Heap}
theorem tU(T:Tx K mg):FnOk P w K mg base CX0 1 T.lg T.jb ["_law_script"] (Bh K):=by
 refine T.fm.F.ok tT (fun vs H Q E h=>?_) (fun cdv A outer s H vs Q E hr h=>?_)
 ·obtain⟨a,ns,rfl,_⟩:=h
  rfl
 ·obtain⟨a,ns,rfl,hs,k⟩:=h
  refine⟨_,(ft (mz (uA (bC (pv 0) (bC bZ (bC bZ da)))))),?_⟩
  refine⟨_,rfl,(by show (3:Nat) <= sizeLine;decide),fun p hp=>?_⟩
  refine k p _ hp ⟨ak,?_,zyx 0⟩ (uG hp)
  rcases hs with ⟨o,e⟩|e
  ·exact .inl ⟨o,kg hp e⟩
  ·exact .inr e
theorem rR(T:Tx K mg):FnOk P w K mg base CX0 1 T.fT T.eN ["_law_pen_here","_law_many"] (xH K):=by
 refine T.ae.F.ok sc__law_next (fun vs H Q E h=>?_) (fun cdv A outer s H vs Q E hr h=>?_)
 ·obtain⟨p,a,ns,t,l,m,rfl,_⟩:=h
  rfl
 ·obtain⟨p,a,ns,t,l,m,rfl,pen,m1,m2,k⟩:=h
  refine⟨_,(bI (qy (pv 0) (ES rfl (lU (pB (i:=2) sc__law_next.nd rfl (Or.inl rfl)) (lU (pB (i:=3) sc__law_next.nd rfl (Or.inl rfl)) (lU (pB (i:=4) sc__law_next.nd rfl (Or.inl rfl)) wZ)))))
   (bI (zM (mC Gk (pv 4) bZ (aw _)) (bI (qy (dJ mB (pv 3) bZ) (xa (pv 0) bZ pD))
   (bI (zM (PW.pt (Ea (mC Gn (pv 3) (jn db rfl T.cD zzE (bC (pv 2) da)) (aw _)) (Be (mC Eo (xv pC (pv 2) (pv 3) (fun _ _=>rfl)) (dJ El bZ bZ) (aw _))))) (bI (jm (i:=5) sc__law_next.nd rfl (Or.inl rfl) bZ)
   (bI (zM (mC Ep (jn db rfl T.cD zzE (bC (pv 2) da)) bZ (aw _)) (ft (jm (i:=5) sc__law_next.nd rfl (Or.inl rfl) (dJ lj (xv pC (pv 2) (dJ lj (pv 3) (jn db rfl T.cD zzE (bC (pv 2) da))) (fun _ _=>rfl)) bZ))) pA)
   (bI (jm (i:=6) sc__law_next.nd rfl (Or.inl rfl) (dJ lj (dJ kf (dJ mB (dJ mB (pv 5) (dJ kf bZ (pv 3))) bZ) bZ) bZ))
   (bI (jm (i:=6) sc__law_next.nd rfl (Or.inl rfl) (dJ lj (dJ mB (dJ mB (dJ kf (pv 6) (pv 6)) (dJ kf bZ (pv 3))) bZ) bZ))
   (ft (mz (dJ lj (dJ pK (dJ lj (dJ kf (pv 6) (dJ mB (pv 6) bZ)) bZ) bZ) (pv 1)))))))) pA)
   (ft (jm (i:=4) sc__law_next.nd rfl (Or.inl rfl) (xv pC (pv 2) (pv 3) (fun _ _=>rfl)))))) pA)
   (bI (qy (dJ pK (pv 4) (pv 1)) (xa (pv 0) bZ pD))
   (ft (mz (dJ lj (pv 4) (pv 1))))))),?_⟩
  have ht:=pen.t0
  have hm:(0:Int)<m:=by omega
  -- the pen's three parts
  refine⟨_,rfl,p,_,rfl,pen.lst,rfl,_,_,rfl,_,_,rfl,_,_,rfl,rfl,?_⟩
  -- if left == 0
  refine⟨_,rfl,rfl,_,rfl,?_⟩
  refine ite2 (fun hl=>?_) (fun hl=>?_)
  ·-- pen[1]=turn+1
   refine⟨_,rfl,_,_,rfl,rfl,_,rfl,p,_,1,1,rfl,rfl,pen.lst,rfl,?_⟩
   have pen1:Pen K (upd H p (.lst [.ref a,.int (t+1),.int l])) p a ns (t+1) l:=pen.put (by omega)
   have sq:=pen1.scr.sq
   -- if turn >= len(script) or script[turn]<10 ** 18
   refine⟨_,rfl,_,rfl,a,_,rfl,.inl sq,_,_,rfl,rfl,_,rfl,?_⟩
   refine ite2 (fun h1=>iteT ?_) (fun h1=>⟨_,rfl,_,rfl,a,_,t,_,rfl,rfl,sq,xF ht (by simp only[decide_eq_true_eq,zza]at h1;omega),_,_,rfl,rfl,⟨by decide,by decide,by decide⟩,_,_,rfl,rfl,_,rfl,ite2 (fun h2=>?_) (fun h2=>?_)⟩)
   rotate_left 2
   ·-- left=script[turn];pen[2]=left // many;return left % many
    simp only[decide_eq_true_eq,zza]at h1
    refine⟨_,rfl,_,rfl,a,_,t,_,rfl,rfl,sq,xF ht (by omega),?_⟩
    refine⟨_,rfl,_,rfl,_,_,rfl,rfl,⟨hm,xI (by omega) (by omega)⟩,_,rfl,p,_,2,2,rfl,rfl,pen1.lst,rfl,?_⟩
    refine⟨_,rfl,_,rfl,_,_,rfl,rfl,hm,?_⟩
    exact k _ (t+1) _ _ (zyP _ (by omega)) (zyB _ hm) (pen1.put (by omega)) (SBut.upd.trans SBut.upd)
   all_goals
    -- cell=..;if len(script)>0: cell=script[turn % len(script)] % ..
    refine⟨_,rfl,a,_,rfl,.inl sq,_,_,rfl,rfl,_,rfl,?_⟩
    refine ite2 (fun h3=>?_) (fun h3=>?_)
    ·simp only[decide_eq_true_eq,zza]at h3
     refine⟨_,rfl,_,rfl,_,rfl,a,_,rfl,.inl sq,_,_,rfl,rfl,(by show (0:Int)<((ns.map V.int).length:Int);rw[zza];omega),a,_,_,_,rfl,rfl,sq,xF (by rw[zza];exact zyP _ (by omega)) (by rw[zza];exact zyB _ (by omega)),_,_,rfl,rfl,mpos,?_⟩
     refine⟨_,rfl,_,rfl,_,_,rfl,rfl,zW,_,_,rfl,rfl,_,_,rfl,rfl,_,_,rfl,rfl,ET,_,_,rfl,rfl,mpos,?_⟩
     refine⟨_,rfl,_,rfl,_,_,rfl,rfl,pL (by decide) (by decide),_,rfl,_,_,rfl,rfl,zW,_,_,rfl,rfl,_,_,rfl,rfl,_,_,rfl,rfl,mpos,?_⟩
     refine⟨_,rfl,_,rfl,_,_,rfl,rfl,_,_,rfl,rfl,pL (by decide) (by decide),_,_,rfl,rfl,mpos,_,_,rfl,rfl,⟨by decide,mI (by decide) (by decide)⟩,_,rfl,_,_,rfl,rfl,hm,?_⟩
     exact k _ (t+1) _ _ (zyP _ (by omega)) (zyB _ hm) pen1 SBut.upd
    ·refine⟨_,rfl,_,rfl,_,_,rfl,rfl,zW,_,_,rfl,rfl,_,_,rfl,rfl,_,_,rfl,rfl,ET,_,_,rfl,rfl,mpos,?_⟩
     refine⟨_,rfl,_,rfl,_,_,rfl,rfl,pL (by decide) (by decide),_,rfl,_,_,rfl,rfl,zW,_,_,rfl,rfl,_,_,rfl,rfl,_,_,rfl,rfl,mpos,?_⟩
     refine⟨_,rfl,_,rfl,_,_,rfl,rfl,_,_,rfl,rfl,pL (by decide) (by decide),_,_,rfl,rfl,mpos,_,_,rfl,rfl,⟨by decide,mI (by decide) (by decide)⟩,_,rfl,_,_,rfl,rfl,hm,?_⟩
     exact k _ (t+1) _ _ (zyP _ (by omega)) (zyB _ hm) pen1 SBut.upd
  ·-- pen[2]=left // many;return left % many
   refine⟨_,rfl,_,rfl,_,_,rfl,rfl,⟨hm,xI (by omega) (by omega)⟩,_,rfl,p,_,2,2,rfl,rfl,pen.lst,rfl,?_⟩
   refine⟨_,rfl,_,rfl,_,_,rfl,rfl,hm,?_⟩
   exact k _ t _ _ (zyP _ (by omega)) (zyB _ hm) (pen.put ht) SBut.upd
theorem aD(T:Tx K mg):FnOk P w K mg base CX0 1 T.fT T.eN ["_law_pen_here","_law_many"] (spD K 2 wj):=CC (rR T)
theorem aE:aY wj:=xU
def FG:D->Bool
 |.int _=>true
 |_=>false
def gW:DSp:=fun ds Q=>match ds with
 |[d]=>xR d=true/\Q (.bl (FG d))
 |_=>False
theorem kN:aY gW:=fun ds P P' f h=>by
 unfold gW at h ⊢
 split at h
 ·exact⟨h.1,f _ h.2⟩
 ·exact h.elim
theorem kO(T:Tx K mg):FnOk P w K mg base CX0 1 T.kU T.jd ["thing"] (spD K 1 gW):=by
 refine fnD (k:=0) T.bv.F tM (fun cdv A outer s H E hr=>(ag (ax (oK (au xS rfl T.bi rfl (aa (ac 0 (pv 0)) (aa (ou (n:="int") rfl T.uv rfl) ad))) (oJ (EV (au wg rfl T.bi rfl (aa (ac 0 (pv 0)) (aa (ou (n:="bool") rfl T.BV rfl) ad))))))))) (fun ds Q hl h=>?_)
 unfold gW at h
 split at h
 case h_2=>exact h.elim
 rename_i d
 obtain⟨h1,h⟩:=h
 refine⟨rfl,h1,?_⟩
 cases d with
 |int i=>exact Br.t ⟨rfl,h1,h⟩
 |bl i=>exact Br.t ⟨rfl,h1,h⟩
 |_=>exact Br.f h
def bX(c:Int×Int):D:=.tup [.int c.1,.int c.2]
def gTog:DSp:=fun ds Q=>match ds with
 |[.lst xs]=>∃cs:List (Int×Int),xs=cs.map bX/\cs.length <= 1000/\Q (.tup [.int (cs.map (·.1)).sum,.int (cs.map (·.2)).sum])
 |[.tup xs]=>∃cs:List (Int×Int),xs=cs.map bX/\cs.length <= 1000/\Q (.tup [.int (cs.map (·.1)).sum,.int (cs.map (·.2)).sum])
 |_=>False
theorem ww:aY gTog:=fun ds P P' f h=>by
 unfold gTog at h ⊢
 split at h
 ·obtain⟨cs,a,b,h⟩:=h
  exact⟨cs,a,b,f _ h⟩
 ·obtain⟨cs,a,b,h⟩:=h
  exact⟨cs,a,b,f _ h⟩
 ·exact h.elim
theorem FH(cs:List (Int×Int)):(cs.map bX).map (fun d=>match d with|.tup (x::_)=>x|_=>.non)=(cs.map (·.1)).map D.int:=by
 rw[zzg,zzg];rfl
theorem Dn(cs:List (Int×Int)):(cs.map bX).map (fun d=>match d with|.tup [_,x]=>x|_=>.non)=(cs.map (·.2)).map D.int:=by
 rw[zzg,zzg];rfl
theorem Hg{cs:List (Int×Int)}{s:Sl}{Q:List D->Prop}(hc:cs.length <= 1000)(hq:Q ((cs.map (·.1)).map D.int)):cF (ge 0) dQ (dOp gIx (dVar 0) (dC (.int 0))) (cs.map bX) [] [s] Q:=by
 refine bP (fun d=>match d with|.tup (x::_)=>x|_=>.non) (fun ρ=>∃s,ρ=[s]) ?_ (fun d hd ρ Y Z hN hY=>?_) _ ⟨_,rfl⟩ ?_
 ·rw[zza];exact zzk hc (by decide)
 ·obtain⟨s,rfl⟩:=hN
  obtain⟨c,_,rfl⟩:=zze.mp hd
  exact Br.t (hY _ ⟨_,rfl⟩)
 ·rw[FH];exact hq
theorem Hh{cs:List (Int×Int)}{s:Sl}{Q:List D->Prop}(hc:cs.length <= 1000)(hq:Q ((cs.map (·.2)).map D.int)):cF (ge 0) dQ (dOp gIx (dVar 0) (dC (.int 1))) (cs.map bX) [] [s] Q:=by
 refine bP (fun d=>match d with|.tup [_,x]=>x|_=>.non) (fun ρ=>∃s,ρ=[s]) ?_ (fun d hd ρ Y Z hN hY=>?_) _ ⟨_,rfl⟩ ?_
 ·rw[zza];exact zzk hc (by decide)
 ·obtain⟨s,rfl⟩:=hN
  obtain⟨c,_,rfl⟩:=zze.mp hd
  exact Br.t (hY _ ⟨_,rfl⟩)
 ·rw[Dn];exact hq
theorem wx(T:Tx K mg):FnOk P w K mg base CX0 1 T.lh T.jg ["counts"] (spD K 1 gTog):=by
 refine fnD (k:=0) T.fh.F sc_together (fun cdv A outer s H E hr=>(ah (aM (i:=1) sc_together.nd rfl oo (au uS rfl T.zI PyProof.Rows.boot_sum (aa (aN (PCD.pld (aQ (N':=["count"]) rfl rfl dk rfl (.own .nil) dk (Bo (ac 0 (pv 0))) (fun B=>(ar (i:=0) ndB rfl oo)) (fun B=>bb) (fun B=>(aL (ac 0 (pv 0)) af (fun _ _=>rfl)))))) ad)))
   (ah (aM (i:=2) sc_together.nd rfl oo (au uS rfl T.zI PyProof.Rows.boot_sum (aa (aN (PCD.pld (aQ (N':=["count"]) rfl rfl dk rfl (.own .nil) dk (Bo (ac 0 (pv 0))) (fun B=>(ar (i:=0) ndB rfl oo)) (fun B=>bb) (fun B=>(aL (ac 0 (pv 0)) af (fun _ _=>rfl)))))) ad)))
   (ag (ax (aR (aa (ac 1 (pv 1)) (aa (ac 2 (pv 2)) ad)))))))) (fun ds Q hl h=>?_)
 unfold gTog at h
 split at h
 case h_3=>exact h.elim
 all_goals
  obtain⟨cs,rfl,hc,h⟩:=h
  refine Hg hc (mT ?_)
  refine Hh hc (mT ?_)
  exact⟨sz,h⟩
def gu(t w t' w':Int):D:=if t=0∨t'=0 then .non else if t*w'<w*t' then .int 1 else if w*t'<t*w' then .int (-1) else .int 0
def tV:DSp:=fun ds Q=>match ds with
 |[.tup [.int t,.int w],.tup [.int t',.int w']]=>(Bd 7000 t/\Bd 7000 w/\Bd 7000 t'/\Bd 7000 w')/\Q (gu t w t' w')
 |_=>False
theorem vq:aY tV:=fun ds P P' f h=>by
 unfold tV at h ⊢
 split at h
 ·exact⟨h.1,f _ h.2⟩
 ·exact h.elim
theorem vt(T:Tx K mg):FnOk P w K mg base CX0 1 T.zG T.uu ["one","other"] (spD K 2 tV):=by
 refine fnD (k:=0) T.eM.F sc_said (fun cdv A outer s H E hr=>(ah (bx (PWD.pt (lN (aG (cf hr) (aL (ac 0 (pv 0)) af (fun _ _=>rfl)) af (aw _)) (fY (aG (cf hr) (aL (ac 1 (pv 1)) af (fun _ _=>rfl)) af (aw _))))) (ag (ax uJ)) aA)
   (ah (aM (i:=2) sc_said.nd rfl oo (bL jx (aL (ac 0 (pv 0)) af (fun _ _=>rfl)) (aL (ac 1 (pv 1)) af (fun _ _=>rfl))))
   (ah (aM (i:=3) sc_said.nd rfl oo (bL jx (aL (ac 1 (pv 1)) af (fun _ _=>rfl)) (aL (ac 0 (pv 0)) af (fun _ _=>rfl))))
   (ah (bx (aG lO (ac 2 (pv 2)) (ac 3 (pv 3)) (aw _)) (ag (ax af)) aA)
   (ah (bx (aG EZ (ac 2 (pv 2)) (ac 3 (pv 3)) (aw _)) (ag (ax (mP gh af))) aA)
   (ag (ax af)))))))) (fun ds Q hl h=>?_)
 unfold tV at h
 split at h
 case h_2=>exact h.elim
 rename_i t w t' w'
 obtain⟨⟨b1,b2,b3,b4⟩,h⟩:=h
 unfold gu at h
 refine⟨⟨rfl,rfl⟩,fun e=>Br.t ?_,fun e=>⟨⟨rfl,rfl⟩,fun e'=>?_,fun e'=>?_⟩⟩
 ·have e:t=0:=by simpa[aV]using e
  rw[if_pos (.inl e)]at h
  exact h
 ·have e':t'=0:=by simpa[aV]using e'
  rw[if_pos (.inr e')]at h
  exact h
 ·have e:t≠0:=by simpa[aV]using e
  have e':t'≠0:=by simpa[aV]using e'
  rw[if_neg (by simp[e,e'])]at h
  refine⟨b2.cmul b3,b4.cmul b1,⟨fun c=>?_,fun c=>⟨fun c'=>?_,fun c'=>?_⟩⟩⟩
  ·have c:w'*t<w*t':=by simpa using c
   rw[if_pos (by rw[Int.mul_comm t w'];exact c)]at h
   exact h
  ·have c:¬w'*t<w*t':=by simpa using c
   have c':w*t'<w'*t:=by simpa using c'
   rw[if_neg (by rw[Int.mul_comm t w'];exact c),if_pos (by rw[Int.mul_comm t w'];exact c')]at h
   exact h
  ·have c:¬w'*t<w*t':=by simpa using c
   have c':¬w*t'<w'*t:=by simpa using c'
   rw[if_neg (by rw[Int.mul_comm t w'];exact c),if_neg (by rw[Int.mul_comm t w'];exact c')]at h
   exact h
structure Cnt(n:Nat)(t w:Int):Prop where
 lo:0 <= w
 hi:w <= t
 bt:Bd n t
 bw:Bd n w
theorem Cnt.mono{m n:Nat}{t w:Int}(h:Cnt m t w)(l:m <= n):Cnt n t w:=⟨h.lo,h.hi,h.bt.mono l,h.bw.mono l⟩
theorem rS{n:Nat}{t w:Int}(lo:0 <= w)(hi:w <= t)(b:Bd n t):Cnt n t w:=⟨lo,hi,b,b.le (by omega)⟩
abbrev Row:=List (Int×Int)
def rowD(r:Row):D:=.tup (r.map bX)
def RowN(n m:Nat)(r:Row):Prop:=r.length=m/\∀c∈r,Cnt n c.1 c.2
abbrev yM(m:Nat)(r:Row):Prop:=RowN 200 m r
theorem RowN.up{n m:Nat}{r:Row}(o:RowN n m r)(h:n <= 200:=by decide):yM m r:=⟨o.1,fun c hc=>(o.2 c hc).mono h⟩
structure Tbl(m:Nat)(t:List Row):Prop where
 m2:2 <= m
 m6:m <= 6
 p1:1 <= t.length
 p60:t.length <= 100
 rows:∀r∈t,yM m r
def at_(r:Row)(h:Nat):Int×Int:=r.getD h (0,0)
def col(t:List Row)(h:Nat):List (Int×Int):=t.map fun r=>at_ r h
def sumP(cs:List (Int×Int)):Int×Int:=((cs.map (·.1)).sum,(cs.map (·.2)).sum)
def sums(t:List Row)(m:Nat):Row:=(List.range m).map fun h=>sumP (col t h)
theorem jG{n m:Nat}{r:Row}(o:RowN n m r){h:Nat}(hh:h<m):r[h]? = some (at_ r h)/\Cnt n (at_ r h).1 (at_ r h).2:=by
 have hl:h<r.length:=by rw[o.1];exact hh
 have e:r[h]? = some (at_ r h):=by
  unfold at_
  rw[zzF]
  simp[hl]
 exact⟨e,o.2 _ (zzM e)⟩
theorem nA{n m:Nat}{r:Row}(o:RowN n m r){h:Int}{Q:D->Prop}(h0:0 <= h)(h1:h<m)(q:Q (bX (at_ r h.toNat))):opt (atI (r.map bX) h) Q:=by
 refine lB h0 ?_ q
 rw[zzq,(jG o (h:=h.toNat) (by omega)).1]
 rfl
def Ar:DSp:=fun ds Q=>match ds with
 |[.int x,.int lo,.int hi]=>(lo <= x/\x <= hi)/\Q (.bl true)
 |_=>False
theorem cQ:aY Ar:=fun ds P P' f h=>by
 unfold Ar at h ⊢
 split at h
 ·exact⟨h.1,f _ h.2⟩
 ·exact h.elim
theorem cR(T:Tx K mg):FnOk P w K mg base CX0 2 T.iZ T.gU ["thing","least","most"] (spD K 3 Ar):=by
 refine fnD (k:=1) T.az.F rL (fun cdv A outer s H E hr=>(ag (ax (oK (ai (kO T) kN (rm hr) rfl T.bv.m T.bv.F.kp T.bv.b (aa (ac 0 (pv 0)) ad)) (oJ (uM xP xP (ac 1 (pv 1)) (ac 0 (pv 0)) (ac 2 (pv 2)))))))) (fun ds Q hl h=>?_)
 unfold Ar at h
 split at h
 case h_2=>exact h.elim
 rename_i x lo hi
 obtain⟨⟨h1,h2⟩,h⟩:=h
 have h':Q (.bl (decide (x <= hi))):=by rw[decide_eq_true h2];exact h
 exact⟨rfl,rfl,Br.t (Br.dt h1 h')⟩
def gChH:DSp:=fun ds Q=>match ds with
 |[.int m,.int h]=>(0 <= h/\h<m)/\Q .non
 |_=>False
theorem jH:aY gChH:=fun ds P P' f h=>by
 unfold gChH at h ⊢
 split at h
 ·exact⟨h.1,f _ h.2⟩
 ·exact h.elim
theorem jI(T:Tx K mg):FnOk P w K mg base CX0 3 T.fK T.eU ["many","house"] (spD K 2 gChH):=by
 refine fnD (k:=2) T.bj.F oD (fun cdv A outer s H E hr=>(ag (bx (de (cE (ai (cR T) cQ (rm hr) rfl T.az.m T.az.F.kp T.az.b (aa (ac 1 (pv 1)) (aa af (aa (bL qV (ac 0 (pv 0)) af) ad)))))) (ag eE) aA))) (fun ds Q hl h=>?_)
 unfold gChH at h
 split at h
 case h_2=>exact h.elim
 obtain⟨⟨h1,h2⟩,h⟩:=h
 exact⟨rfl,⟨h1,by omega⟩,Br.f h⟩
def gHs:DSp:=fun ds Q=>match ds with
 |[.lst (.tup xs::_)]=>Q (.int xs.length)
 |_=>False
theorem nB:aY gHs:=fun ds P P' f h=>by
 unfold gHs at h ⊢
 split at h
 ·exact f _ h
 ·exact h.elim
theorem nC(T:Tx K mg):FnOk P w K mg base CX0 1 T.jj T.gA ["table"] (spD K 1 gHs):=by
 refine fnD (k:=0) T.bT.F rM (fun cdv A outer s H E hr=>(ag (ax (au bF rfl T.cD zzE (aa (aL (ac 0 (pv 0)) af (fun _ _=>rfl)) ad))))) (fun ds Q hl h=>?_)
 unfold gHs at h
 split at h
 case h_2=>exact h.elim
 rename_i xs r
 exact lB (zyx 0) rfl h
theorem oT{m:Nat}{t:List Row}(o:Tbl m t){Q:D->Prop}(q:Q (.int m)):gHs [.lst (t.map rowD)] Q:=by
 cases t with
 |nil=>have:=o.p1;simp at this
 |cons r rest =>
  have:=(o.rows r zzd).1
  show Q (.int ((r.map bX).length:Nat))
  rw[zza,this]
  exact q
theorem At{m:Nat}{t:List Row}(ho:∀r∈t,yM m r)(hl:t.length <= 1000){h:Int}(h0:0 <= h)(h1:h<m){s:Sl}{Q:List D->Prop}(q:Q ((col t h.toNat).map bX)) :
  cF (ge 0) dQ (dOp gIx (dVar 0) (dVar 1)) (t.map rowD) [] [s,.val (.int h)] Q:=by
 refine br (fun pre acc ρ=>∃t0 t1:List Row,t=t0++t1/\pre=t0.map rowD/\acc=(col t0 h.toNat).map bX/\∃s,ρ=[s,.val (.int h)]) (fun acc ρ hN=>?_) (fun pre d post acc ρ Y e hN hY=>?_) _ ⟨[],t,rfl,rfl,rfl,_,rfl⟩
 ·obtain⟨t0,t1,rfl,e,rfl,_⟩:=hN
  have:t1=[]:=by
   have:=congrArg List.length e
   simp at this
   exact this
  subst this
  simpa using q
 ·obtain⟨t0,t1,rfl,rfl,rfl,s,rfl⟩:=hN
  rw[zzl]at e
  have e:=zzD e
  cases t1 with
  |nil=>simp at e
  |cons r t1 =>
   rw[zzc]at e
   injection e with e1 e2
   subst e1
   have o:=ho r (by simp)
   refine Br.t (nA o h0 h1 ⟨?_,hY _ _ ⟨t0++[r],t1,by simp,by simp,by simp[col],_,rfl⟩⟩)
   rw[zza]
   unfold col
   rw[zza]
   have:t0.length <= 1000:=by rw[zzi]at hl;omega
   exact zzC this (by decide)
def gTbh:DSp:=fun ds Q=>match ds with
 |[.int m,.lst xs]=>∃(n:Nat) (t:List Row),m=n/\xs=t.map rowD/\(n <= 6/\t.length <= 1000/\∀r∈t,yM n r)/\Q (rowD (sums t n))
 |_=>False
theorem dS:aY gTbh:=fun ds P P' f h=>by
 unfold gTbh at h ⊢
 split at h
 ·obtain⟨n,t,a,b,c,h⟩:=h
  exact⟨n,t,a,b,c,f _ h⟩
 ·exact h.elim
theorem dg:∀(n:Nat) (lo:Int),iA lo n=(List.range n).map fun(i:Nat)=>D.int (lo+i)
 |0,_=>rfl
 |n+1,lo=>by
  rw[List.range_succ_eq_map,zzc,zzg,iA,dg n (lo+1)]
  congr 1
  ·simp
  ·apply zzv
   intro i _
   simp only[Function.comp]
   congr 1
   omega
theorem dU(T:Tx K mg):FnOk P w K mg base CX0 2 T.cy T.cg ["many","rows"] (spD K 2 gTbh):=by
 refine fnD (k:=1) T.aI.F ik (fun cdv A outer s H E hr=>(ag (ax (aU cX rfl T.bU rfl (aa (aN (PCD.pld (aQ (N':=["house","rows"]) rfl rfl dk rfl (.own (.cap (j:=1) rfl oo rfl .nil)) dk (bN rfl T.cW (aa (ac 0 (pv 0)) ad)) (fun B=>(ar (i:=0) ndB rfl oo)) (fun B=>bb) (fun B=>(ai (wx T) ww (rm hr) rfl T.fh.m T.fh.F.kp T.fh.b (aa (aN (PCD.pld (aQ (N':=["row","house"]) rfl rfl dk rfl (.own (.cap (j:=0) rfl oo rfl .nil)) dk (ba (ac 1 (pv 1))) (fun B=>(ar (i:=0) ndB rfl oo)) (fun B=>bb) (fun B=>(aL (ac 0 (pv 0)) (ac 1 (pv 1)) (fun _ _=>rfl)))))) ad)))))) ad))))) (fun ds Q hl h=>?_)
 unfold gTbh at h
 split at h
 case h_2=>exact h.elim
 obtain⟨n,t,rfl,rfl,⟨h6,h1000,ho⟩,h⟩:=h
 refine⟨⟨by omega,by omega⟩,?_⟩
 rw[zzY]
 refine bP (fun d=>match d with|.int i=>bX (sumP (col t i.toNat))|_=>.non) (fun ρ=>∃s,ρ=[s,.val (.lst (t.map rowD))]) ?_ (fun d hd ρ Y Z hN hY=>?_) _ ⟨_,rfl⟩ ?_
 ·rw[dg,zza,zyc]
  exact zzk h6 (by decide)
 ·obtain⟨s,rfl⟩:=hN
  rw[dg]at hd
  obtain⟨i,hi,rfl⟩:=zze.mp hd
  have hi:=zzR.mp hi
  refine Br.t (At ho h1000 (by omega) (by omega) ⟨rfl,col t (0+(i:Int)).toNat,rfl,?_,hY _ ⟨_,rfl⟩⟩)
  unfold col
  rw[zza]
  exact h1000
 ·show Q (.tup (List.map _ (iA 0 n)))
  have e:(iA 0 n).map (fun d=>match d with|.int i=>bX (sumP (col t i.toNat))|_=>.non)=(sums t n).map bX:=by
   rw[dg,zzg]
   unfold sums
   rw[zzg]
   apply zzv
   intro i _
   show bX (sumP (col t (0+(i:Int)).toNat))=bX (sumP (col t i))
   congr 3
   omega
  rw[e]
  exact h
def Au:DSp:=fun ds Q=>match ds with
 |[.lst xs]=>∃(n:Nat) (t:List Row),xs=t.map rowD/\Tbl n t/\Q (rowD (sums t n))
 |_=>False
theorem yN:aY Au:=fun ds P P' f h=>by
 unfold Au at h ⊢
 split at h
 ·obtain⟨n,t,a,b,h⟩:=h
  exact⟨n,t,a,b,f _ h⟩
 ·exact h.elim
theorem yO(T:Tx K mg):FnOk P w K mg base CX0 3 T.om T.kX ["table"] (spD K 1 Au):=by
 refine fnD (k:=2) T.gJ.F wv (fun cdv A outer s H E hr=>(ag (ax (ai (dU T) dS (rm hr) rfl T.aI.m T.aI.F.kp T.aI.b (aa (ai (nC T) nB (rm hr) rfl T.bT.m T.bT.F.kp T.bT.b (aa (ac 0 (pv 0)) ad)) (aa (ac 0 (pv 0)) ad)))))) (fun ds Q hl h=>?_)
 unfold Au at h
 split at h
 case h_2=>exact h.elim
 obtain⟨n,t,rfl,o,h⟩:=h
 refine⟨rfl,oT o ⟨rfl,n,t,rfl,rfl,⟨o.m6,zzk o.p60 (by decide),o.rows⟩,h⟩⟩
def gChP:DSp:=fun ds Q=>match ds with
 |[.int m,.int a,.int b]=>(0 <= a/\a<m/\0 <= b/\b<m/\a≠b)/\Q .non
 |_=>False
theorem gv:aY gChP:=fun ds P P' f h=>by
 unfold gChP at h ⊢
 split at h
 ·exact⟨h.1,f _ h.2⟩
 ·exact h.elim
theorem gw(T:Tx K mg):FnOk P w K mg base CX0 4 T.gT T.fL ["many","a","b"] (spD K 3 gChP):=by
 refine fnD (k:=3) T.aP.F pY (fun cdv A outer s H E hr=>(ah (gc (ai (jI T) jH (rm hr) rfl T.bj.m T.bj.F.kp T.bj.b (aa (ac 0 (pv 0)) (aa (ac 1 (pv 1)) ad))))
   (ah (gc (ai (jI T) jH (rm hr) rfl T.bj.m T.bj.F.kp T.bj.b (aa (ac 0 (pv 0)) (aa (ac 2 (pv 2)) ad))))
   (ag (bx (aG (cf hr) (ac 1 (pv 1)) (ac 2 (pv 2)) (aw _)) (ag eE) aA))))) (fun ds Q hl h=>?_)
 unfold gChP at h
 split at h
 case h_2=>exact h.elim
 obtain⟨⟨h1,h2,h3,h4,h5⟩,h⟩:=h
 refine⟨rfl,⟨h1,h2⟩,rfl,⟨h3,h4⟩,⟨rfl,rfl⟩,fun z=>?_,fun _=>h⟩
 exact absurd (by simpa[aV]using z) h5
def kI(ks:List Int):List Key:=ks.map .inl
def aq(ks:List Int):D:=.tup (ks.map .int)
theorem dW(ks:List Int):aq ks=keyD (kI ks):=by
 unfold keyD kI aq
 rw[zzg]
 rfl
theorem lE{a b:List Int}(h:kI a=kI b):a=b:=by
 unfold kI at h
 exact(List.map_inj_right (fun _ _ e=>Sum.inl.inj e)).mp h
theorem wy{a b:List Int}:(kI a=kI b)↔a=b:=⟨lE,fun e=>by rw[e]⟩
theorem vv(ks:List Int):wm (kI ks):=fun x hx=>by
 obtain⟨i,_,rfl⟩:=zze.mp hx
 exact⟨i,rfl⟩
def addG(k:List Int)(r:Row):List (List Int×List Row)->List (List Int×List Row)
 |[]=>[(k,[r])]
 |p::t=>if p.1=k then(p.1,p.2++[r])::t else p::addG k r t
def grp(ps:List (List Int×Row)):List (List Int×List Row):=ps.foldl (fun g p=>addG p.1 p.2 g) []
theorem vw(ps:List (List Int×Row))(p:List Int×Row):grp (ps++[p])=addG p.1 p.2 (grp ps):=by
 unfold grp
 rw[List.foldl_append]
 rfl
def emb(g:List (List Int×List Row)):List (List Key×List D):=g.map fun p=>(kI p.1,p.2.map rowD)
def embV(g:List (List Int×List Row)):List (List Key×D):=g.map fun p=>(kI p.1,.lst (p.2.map rowD))
theorem yP(k:List Int)(r:Row):∀g,fC (kI k) (rowD r) (emb g)=emb (addG k r g)
 |[]=>rfl
 |p::t=>by
  show fC (kI k) (rowD r) ((kI p.1,p.2.map rowD)::emb t)=_
  unfold fC addG
  by_cases e:p.1=k
  ·rw[if_pos (show (kI p.1,p.2.map rowD).1=kI k by rw[e]),if_pos e]
   simp[emb]
  ·rw[if_neg (show ¬(kI p.1,p.2.map rowD).1=kI k from fun z=>e (lE z)),if_neg e,yP k r t]
   rfl
theorem lZ(k:List Int)(r:Row):∀g:List (List Int×List Row),(addG k r g).map (·.1)=if k∈g.map (·.1) then g.map (·.1) else g.map (·.1)++[k]
 |[]=>rfl
 |p::t=>by
  unfold addG
  by_cases e:p.1=k
  ·rw[if_pos e,if_pos (by simp[e])]
   rfl
  ·rw[if_neg e,zzc,lZ k r t]
   by_cases m:k∈t.map (·.1)
   ·rw[if_pos m,if_pos (by rw[zzc];exact zzb _ m),zzc]
   ·rw[if_neg m,if_neg (by rw[zzc];intro z;rcases zzj.mp z with z|z;exact e z.symm;exact m z),zzc]
    rfl
structure GOk(C:List Int->Prop)(R:Row->Prop)(n:Nat)(g:List (List Int×List Row)):Prop where
 nd:(g.map (·.1)).Nodup
 it:∀p∈g,C p.1/\p.2≠[]/\p.2.length <= n/\∀r∈p.2,R r
 len:g.length <= n
theorem GOk.add{C:List Int->Prop}{R:Row->Prop}{n:Nat}{g:List (List Int×List Row)}(h:GOk C R n g){k:List Int}{r:Row}(hk:C k)(hr:R r):GOk C R (n+1) (addG k r g):=by
 refine⟨?_,?_,?_⟩
 ·rw[lZ]
  split
  ·exact h.nd
  ·rename_i m
   refine List.nodup_append.mpr ⟨h.nd,by simp,fun a ha b hb e=>?_⟩
   rw[zzx.mp hb]at e
   exact m (e ▸ ha)
 ·have key:∀g:List (List Int×List Row),(∀p∈g,C p.1/\p.2≠[]/\p.2.length <= n/\∀r∈p.2,R r)->∀p∈addG k r g,C p.1/\p.2≠[]/\p.2.length <= n+1/\∀r∈p.2,R r:=by
   intro g
   induction g with
   |nil =>
    intro _ p hp
    rw[zzx.mp hp]
    exact⟨hk,by simp,by simp,fun x hx=>by rw[zzx.mp hx];exact hr⟩
   |cons q t ih =>
    intro h p hp
    unfold addG at hp
    split at hp
    ·rcases zzj.mp hp with rfl|hp
     ·have:=h q zzd
      refine⟨this.1,by simp,by simp;exact this.2.2.1,fun x hx=>?_⟩
      rcases zzw.mp hx with hx|hx
      ·exact this.2.2.2 x hx
      ·rw[zzx.mp hx];exact hr
     ·have:=h p (zzb _ hp)
      exact⟨this.1,this.2.1,Nat.le_succ_of_le this.2.2.1,this.2.2.2⟩
    ·rcases zzj.mp hp with rfl|hp
     ·have:=h p zzd
      exact⟨this.1,this.2.1,Nat.le_succ_of_le this.2.2.1,this.2.2.2⟩
     ·exact ih (fun p hp=>h p (zzb _ hp)) p hp
  exact key g h.it
 ·have:=congrArg List.length (lZ k r g)
  rw[zza]at this
  rw[this]
  split
  ·rw[zza];exact Nat.le_succ_of_le h.len
  ·rw[zzi,zza];simp;exact h.len
theorem oU{C:List Int->Prop}{R:Row->Prop}:∀(ps:List (List Int×Row)),(∀p∈ps,C p.1/\R p.2)->GOk C R ps.length (grp ps):=by
 intro ps
 generalize hn:ps.length=n
 induction n generalizing ps with
 |zero =>
  intro _
  have:ps=[]:=zzK.mp hn
  subst this
  exact⟨List.nodup_nil,fun p hp=>by simp[grp]at hp,zzH _⟩
 |succ n ih =>
  intro h
  obtain⟨qs,p,rfl⟩:∃qs p,ps=qs++[p]:=⟨ps.dropLast,ps.getLast (by intro z;rw[z]at hn;simp at hn),(List.dropLast_concat_getLast _).symm⟩
  rw[vw]
  have hp:=h p (by simp)
  exact(ih qs (by simp at hn;exact hn) fun q hq=>h q (by simp[hq])).add hp.1 hp.2
def bK(g:List (List Int×List Row))(k:List Int):List Row:=((g.find? fun p=>decide (p.1=k)).map (·.2)).getD []
theorem tW{g:List (List Int×List Row)}{k:List Int}(h:k∈g.map (·.1)):∃p∈g,p.1=k/\bK g k=p.2/\fB (embV g) (kI k)=some (.lst (p.2.map rowD)):=by
 induction g with
 |nil=>simp at h
 |cons q t ih =>
  by_cases e:q.1=k
  ·refine⟨q,zzd,e,?_,?_⟩
   ·unfold bK
    rw[zzt (by simpa using e)]
    rfl
   ·unfold fB embV
    rw[zzc,zzt (by simpa[wy]using e)]
    rfl
  ·have h':k∈t.map (·.1):=by
    rw[zzc]at h
    rcases zzj.mp h with h|h
    ·exact absurd h.symm e
    ·exact h
   obtain⟨p,h1,h2,h3,h4⟩:=ih h'
   refine⟨p,zzb _ h1,h2,?_,?_⟩
   ·unfold bK at h3 ⊢
    rw[zzu (by simpa using e)]
    exact h3
   ·unfold fB embV at h4 ⊢
    rw[zzc,zzu (by simpa[wy]using e)]
    exact h4
def cH(ks:List (List Int)):List (List Int):=if ks.length<2 then ks else(kRun (fun i j=>lexI ((ks.map kI).getD i []) ((ks.map kI).getD j [])) (PySem.W.kas_sort ks.length)).toList.map fun i=>ks.getD i []
theorem nD(ks:List (List Int))(i:Nat):(ks.map kI).getD i []=kI (ks.getD i []):=by
 rw[zzF,zzF,zzq]
 cases ks[i]?<;>rfl
theorem yQ(ks:List (List Int)):srtK (ks.map kI)=(cH ks).map kI:=by
 unfold srtK cH
 rw[zza]
 split
 ·rfl
 ·rw[zzg]
  apply zzv
  intro i _
  exact nD ks i
theorem aB(ks:List (List Int)):(cH ks).Perm ks:=by
 unfold cH
 split
 ·exact List.Perm.refl _
 ·exact rD (KGood.end _ _ (eZ (by omega)))
def cj(c:List Int×Row):D:=.tup [aq c.1,rowD c.2]
def aO(m:Nat)(ps:List (List Int×Row)):List (List Int×Row):=(cH ((grp ps).map (·.1))).map fun k=>(k,sums (bK (grp ps) k) m)
def lF(r:Row):Prop:=∃c∈r,0<c.1
theorem Bz{ns:List Int}(h:∀n∈ns,0 <= n):∀x∈ns,x <= ns.sum/\0 <= ns.sum:=by
 induction ns with
 |nil=>intro x hx;simp at hx
 |cons a r ih =>
  intro x hx
  have h0:=h a zzd
  have hr:0 <= r.sum:=by
   cases r with
   |nil=>simp
   |cons b t=>exact(ih (fun n hn=>h n (zzb _ hn)) b zzd).2
  rw[zzI]
  rcases zzj.mp hx with rfl|hx
  ·omega
  ·have:=(ih (fun n hn=>h n (zzb _ hn)) x hx).1
   omega
theorem wz{n m:Nat}{rows:List Row}(ho:∀r∈rows,RowN n m r)(hne:rows≠[])(ht:∀r∈rows,lF r):lF (sums rows m):=by
 cases rows with
 |nil=>exact absurd rfl hne
 |cons r0 rs =>
  obtain⟨c,hc,hpos⟩:=ht r0 zzd
  obtain⟨h,hh⟩:=List.getElem?_of_mem hc
  have hm:h<m:=by
   have:=(zzm.mp hh).1
   rw[(ho r0 zzd).1]at this
   exact this
  refine⟨sumP (col (r0::rs) h),zze.mpr ⟨h,zzR.mpr hm,rfl⟩,?_⟩
  have e:at_ r0 h=c:=by
   unfold at_
   rw[zzF,hh]
   rfl
  have hin:c.1∈(col (r0::rs) h).map (·.1):=zze.mpr ⟨c,zze.mpr ⟨r0,zzd,e⟩,rfl⟩
  have hall:∀x∈(col (r0::rs) h).map (·.1),0 <= x:=fun x hx=>by
   obtain⟨d,hd,rfl⟩:=zze.mp hx
   obtain⟨r,hr,rfl⟩:=zze.mp hd
   have:=(jG (ho r hr) hm).2
   have h1:=this.lo
   have h2:=this.hi
   omega
  have:=(Bz hall _ hin).1
  unfold sumP
  dsimp only
  omega
theorem BC(ds:List D):fzOs (ds.map O.val)=ds:=by
 induction ds with
 |nil=>rfl
 |cons d r ih=>simp only[zzc,fzOs,fzO,ih]
theorem Hi(g:List (List Int×List Row)):fzO (dlO (emb g))=.dT ((embV g).map (·.1)) ((embV g).map (·.2)):=by
 unfold dlO emb embV
 simp only[fzO]
 refine congr (congrArg D.dT ?_) ?_
 ·rw[zzg,zzg]
  rfl
 ·rw[lV,zzg,zzg,zzg]
  apply zzv
  intro p _
  simp only[Function.comp,fzO,BC]
theorem yR{l:Nat}{ks:List (List Int)}(nd:ks.Nodup)(hl:∀k∈ks,k.length=l)(h2:2 <= ks.length):∀k∈ks,k≠[]:=by
 intro k hk z
 subst z
 have l0:l=0:=(hl [] hk).symm
 subst l0
 match ks,nd,hl,h2 with
 |a::b::r,nd,hl,_ =>
  have ha:a=[]:=zzK.mp (hl a (by simp))
  have hb:b=[]:=zzK.mp (hl b (by simp))
  subst ha hb
  simp at nd
 |[_],_,_,h2=>simp at h2
 |[],_,_,h2=>simp at h2
def ltI:List Int->List Int->Bool
 |[],[]=>false
 |[],_::_=>true
 |_::_,[]=>false
 |a::r,b::r'=>if a=b then ltI r r' else decide (a<b)
theorem nE:∀a b:List Int,lexI (kI a) (kI b)=ltI a b
 |[],[]=>rfl
 |[],_::_=>rfl
 |_::_,[]=>rfl
 |a::r,b::r'=>by
  show (if a=b then lexI (kI r) (kI r') else decide (a<b))=if a=b then ltI r r' else decide (a<b)
  rw[nE r r']
theorem tX:∀a:List Int,ltI a a=false
 |[]=>rfl
 |a::r=>by
  show (if a=a then ltI r r else _)=_
  rw[if_pos rfl]
  exact tX r
theorem yS:∀a b c:List Int,ltI a b=true->ltI b c=true->ltI a c=true
 |[],[],_,h,_=>by cases h
 |[],_::_,[],_,h=>by cases h
 |[],_::_,_::_,_,_=>rfl
 |_::_,[],_,h,_=>by cases h
 |_::_,_::_,[],_,h=>by cases h
 |a::r,b::s,c::t,h1,h2=>by
  unfold ltI at h1 h2 ⊢
  by_cases e1:a=b
  ·rw[if_pos e1]at h1
   subst e1
   by_cases e2:a=c
   ·rw[if_pos e2]at h2 ⊢
    exact yS r s t h1 h2
   ·rw[if_neg e2]at h2 ⊢
    exact h2
  ·rw[if_neg e1]at h1
   have h1:=of_decide_eq_true h1
   by_cases e2:b=c
   ·subst e2
    rw[if_neg e1]
    exact decide_eq_true h1
   ·rw[if_neg e2]at h2
    have h2:=of_decide_eq_true h2
    rw[if_neg (by omega)]
    exact decide_eq_true (by omega)
theorem BD{a b:List Int}(h:ltI a b=true):ltI b a=false:=by
 cases e:ltI b a with
 |false=>rfl
 |true =>
  have:=yS a b a h e
  rw[tX]at this
  cases this
theorem BE:∀a b:List Int,a≠b->ltI a b=false->ltI b a=true
 |[],[],h,_=>absurd rfl h
 |[],_::_,_,h=>by cases h
 |_::_,[],_,_=>rfl
 |a::r,b::s,h,e=>by
  unfold ltI at e ⊢
  by_cases z:a=b
  ·subst z
   rw[if_pos rfl]at e ⊢
   exact BE r s (fun z=>h (by rw[z])) e
  ·rw[if_neg z]at e
   rw[if_neg (Ne.symm z)]
   have:=of_decide_eq_false e
   exact decide_eq_true (by omega)
theorem qd{ks:List (List Int)}(nd:ks.Nodup):(cH ks).Pairwise fun a b=>ltI a b=true:=by
 unfold cH
 by_cases h:ks.length<2
 ·rw[if_pos h]
  match ks,h with
  |[],_=>exact .nil
  |[_],_=>exact List.pairwise_singleton _ _
 ·rw[if_neg h]
  have gd:∀i,i<ks.length->ks[i]? = some (ks.getD i []):=fun i hi=>by simp[hi]
  have O:StrO ks.length (fun i j=>lexI ((ks.map kI).getD i []) ((ks.map kI).getD j [])):=by
   refine⟨fun i j k _ _ _ h1 h2=>?_,fun i j _ _ h1=>?_,fun i j hi hj e h1=>?_⟩
   ·simp only[nD,nE]at *
    exact yS _ _ _ h1 h2
   ·simp only[nD,nE]at *
    exact BD h1
   ·simp only[nD,nE]at *
    refine BE _ _ (fun z=>e ?_) h1
    have e1:ks.getD i []=ks[i]:=by simp[hi]
    have e2:ks.getD j []=ks[j]:=by simp[hj]
    rw[e1,e2]at z
    exact(List.getElem_inj nd).mp z
  have pm:=KGood.end (fun i j=>lexI ((ks.map kI).getD i []) ((ks.map kI).getD j [])) _ (eZ (N:=ks.length) (by omega))
  have as:=Al O (by omega)
  have sz:=pm.size
  generalize kRun (fun i j=>lexI ((ks.map kI).getD i []) ((ks.map kI).getD j [])) (PySem.W.kas_sort ks.length)=p at pm as sz
  rw[List.pairwise_map,List.pairwise_iff_getElem]
  intro i j hi hj hij
  have:=as i j hij (by rw[zyK]at hj;omega)
  simp only[nD,nE]at this
  rw[zyK]at hi hj
  have e1:p.getD i 0=p[i]:=by simp[Array.getD,hi]
  have e2:p.getD j 0=p[j]:=by simp[Array.getD,hj]
  rw[e1,e2]at this
  simpa using this
theorem Av:∀{xs ys:List (List Int)},xs.Pairwise (fun a b=>ltI a b=true)->ys.Pairwise (fun a b=>ltI a b=true)->(∀k,k∈xs↔k∈ys)->xs=ys
 |[],[],_,_,_=>rfl
 |[],y::ys,_,_,h=>absurd ((h y).mpr zzd) (by simp)
 |x::xs,[],_,_,h=>absurd ((h x).mp zzd) (by simp)
 |x::xs,y::ys,hx,hy,h=>by
  obtain⟨hx1,hx2⟩:=List.pairwise_cons.mp hx
  obtain⟨hy1,hy2⟩:=List.pairwise_cons.mp hy
  have exy:x=y:=by
   rcases zzj.mp ((h x).mp zzd) with e|e
   ·exact e
   ·rcases zzj.mp ((h y).mpr zzd) with e'|e'
    ·exact e'.symm
    ·have a:=hy1 x e
     have b:=hx1 y e'
     rw[BD a]at b
     cases b
  subst exy
  have ni:∀{zs:List (List Int)},(∀z∈zs,ltI x z=true)->x∉zs:=fun hz m=>by
   have:=hz x m
   rw[tX]at this
   cases this
  rw[Av hx2 hy2 fun k=>⟨fun hk=>?_,fun hk=>?_⟩]
  ·rcases zzj.mp ((h k).mp (zzb _ hk)) with rfl|e
   ·exact absurd hk (ni hx1)
   ·exact e
  ·rcases zzj.mp ((h k).mpr (zzb _ hk)) with rfl|e
   ·exact absurd hk (ni hy1)
   ·exact e
theorem yT{xs ys:List (List Int)}(hx:xs.Nodup)(hy:ys.Nodup)(h:∀k,k∈xs↔k∈ys):cH xs=cH ys :=
 Av (qd hx) (qd hy) fun k=>by rw[(aB xs).mem_iff,(aB ys).mem_iff];exact h k
theorem vx(ps:List (List Int×Row)):((grp ps).map (·.1)).Nodup:=(oU (C:=fun _=>True) (R:=fun _=>True) ps fun _ _=>⟨trivial,trivial⟩).nd
theorem vy(k:List Int)(r:Row)(k':List Int):∀g:List (List Int×List Row),bK (addG k r g) k'=if k=k' then bK g k'++[r] else bK g k'
 |[]=>by
  unfold addG bK
  by_cases e:k=k'
  ·rw[if_pos e,zzt (by simpa using e)]
   rfl
  ·rw[if_neg e,zzu (by simpa using e)]
 |p::t=>by
  have ih:=vy k r k' t
  unfold addG
  unfold bK at ih ⊢
  by_cases e:p.1=k
  ·rw[if_pos e]
   by_cases e2:k=k'
   ·rw[if_pos e2,zzt (by simp[e,e2]),zzt (by simp[e,e2])]
    rfl
   ·rw[if_neg e2,zzu (by simp[e,e2]),zzu (by simp[e,e2])]
  ·rw[if_neg e]
   by_cases e2:p.1=k'
   ·rw[zzt (by simpa using e2),zzt (by simpa using e2),if_neg (fun z=>e (by rw[e2,z]))]
   ·rw[zzu (by simpa using e2),zzu (by simpa using e2)]
    exact ih
theorem kP(ps:List (List Int×Row))(k:List Int):bK (grp ps) k=(ps.filter fun p=>decide (p.1=k)).map (·.2):=by
 have key:∀(qs:List (List Int×Row)) g,bK (qs.foldl (fun g (p:List Int×Row)=>addG p.1 p.2 g) g) k=bK g k++(qs.filter fun p=>decide (p.1=k)).map (·.2):=by
  intro qs
  induction qs with
  |nil=>intro g;simp
  |cons q t ih =>
   intro g
   rw[zyD,ih,vy]
   by_cases e:q.1=k
   ·rw[if_pos e,zzW (by simpa using e),zzc,zym]
    rfl
   ·rw[if_neg e,zya (by simpa using e)]
 rw[grp,key]
 rfl
theorem qe(ps:List (List Int×Row))(k:List Int):k∈(grp ps).map (·.1)↔k∈ps.map (·.1):=by
 have key:∀(qs:List (List Int×Row)) g,k∈(qs.foldl (fun g (p:List Int×Row)=>addG p.1 p.2 g) g).map (·.1)↔k∈g.map (·.1)∨k∈qs.map (·.1):=by
  intro qs
  induction qs with
  |nil=>intro g;simp
  |cons q t ih =>
   intro g
   rw[zyD,ih,lZ,zzc,zzj]
   by_cases m:q.1∈g.map (·.1)
   ·rw[if_pos m]
    constructor
    ·rintro(h|h)
     ·exact .inl h
     ·exact .inr (.inr h)
    ·rintro(h|h|h)
     ·exact .inl h
     ·exact .inl (h ▸ m)
     ·exact .inr h
   ·rw[if_neg m,zzw,zzx]
    constructor
    ·rintro((h|h)|h)
     ·exact .inl h
     ·exact .inr (.inl h)
     ·exact .inr (.inr h)
    ·rintro(h|h|h)
     ·exact .inl (.inl h)
     ·exact .inl (.inr h)
     ·exact .inr h
 rw[grp,key]
 simp
def lG(r:Row):Bool:=(r.map fun c=>decide (0<c.1)).any id
theorem triedB_iff{r:Row}:lG r=true↔lF r:=by
 unfold lG lF
 rw[List.any_eq_true]
 constructor
 ·rintro⟨b,hb,e⟩
  obtain⟨c,hc,rfl⟩:=zze.mp hb
  exact⟨c,hc,by simpa using e⟩
 ·rintro⟨c,hc,hp⟩
  exact⟨true,zze.mpr ⟨c,hc,by simpa using hp⟩,rfl⟩
def vA:DSp:=fun ds Q=>match ds with
 |[.tup xs]=>∃r:Row,xs=r.map bX/\r.length <= 1000/\Q (.bl (lG r))
 |_=>False
theorem wA:aY vA:=fun ds P P' f h=>by
 unfold vA at h ⊢
 split at h
 ·obtain⟨r,a,b,h⟩:=h
  exact⟨r,a,b,f _ h⟩
 ·exact h.elim
theorem wB(T:Tx K mg):FnOk P w K mg base CX0 1 T.ld T.ji ["counts"] (spD K 1 vA):=by
 refine fnD (k:=0) T.fq.F tO (fun cdv A outer s H E hr=>(ag (ax (au Fr rfl T.FY PyProof.Rows.boot_any (aa (aN (PCD.pld (aQ (N':=["count"]) rfl rfl dk rfl (.own .nil) dk (iq (ac 0 (pv 0))) (fun B=>(ar (i:=0) ndB rfl oo)) (fun B=>bb) (fun B=>(dO lO (aL (ac 0 (pv 0)) af (fun _ _=>rfl)) af (aw _)))))) ad))))) (fun ds Q hl h=>?_)
 unfold vA at h
 split at h
 case h_2=>exact h.elim
 obtain⟨r,rfl,hl,h⟩:=h
 refine bP (fun d=>match d with|.tup (.int t::_)=>.bl (decide (0<t))|_=>.non) (fun ρ=>∃s,ρ=[s]) (by rw[zza];exact zzk hl (by decide)) (fun d hd ρ Y Z hN hY=>?_) _ ⟨_,rfl⟩ ?_
 ·obtain⟨s,rfl⟩:=hN
  obtain⟨c,_,rfl⟩:=zze.mp hd
  exact Br.t (hY _ ⟨_,rfl⟩)
 ·have e:(r.map bX).map (fun d=>match d with|.tup (.int t::_)=>D.bl (decide (0<t))|_=>.non)=(r.map fun c=>decide (0<c.1)).map D.bl:=by
   rw[zzg,zzg]
   rfl
  rw[e]
  exact kw h
def gath(n:Nat)(ps:List (List Int×Row)):List (List Int×Row):=(aO n ps).filter fun c=>lG c.2
def oV:DSpN:=fun ds _ L=>match ds with
 |[.int m,.lst xs]=>∃(n:Nat) (ps:List (List Int×Row)) (l:Nat),m=n/\xs=ps.map cj/\(n <= 6/\ps.length <= 60/\∀p∈ps,p.1.length=l/\RowN 110 n p.2)/\L ((gath n ps).map cj)
 |_=>False
theorem iQ:rq oV:=fun ds P P' L L' f fl h=>by
 unfold oV at h ⊢
 split at h
 ·obtain⟨n,ps,l,a,b,c,h⟩:=h
  exact⟨n,ps,l,a,b,c,fl _ h⟩
 ·exact h.elim
theorem nF(T:Tx K mg):FnOk P w K mg base CX0 3 T.ij T.fW ["many","pairs"] (spDN K 2 oV):=by
 refine fnDN (k:=2) T.cA.F sc_gathered (fun cdv A outer s H E hr=>(cY (tG (i:=2) sc_gathered.nd rfl oo)
   (tD (bE PassesOwn.never rfl (ba (ac 1 (pv 1))) (lA (n:=2) rfl (aX (ar (i:=3) sc_gathered.nd rfl oo) (aX (ar (i:=4) sc_gathered.nd rfl oo) gf))) (ag (FB hr (pv 2) (pv 3) (pv 4))))
   (cY (iD (i:=5) sc_gathered.nd rfl rfl (aQ (N':=["kinds","many","found"]) rfl rfl dk rfl (.own (.cap (j:=0) rfl oo rfl (.cap (j:=2) rfl oo rfl .nil))) dk (ba (au pW rfl T.mx dk (aa (ac 2 (pv 2)) ad))) (fun B=>(ar (i:=0) ndB rfl oo)) (fun B=>bb) (fun B=>(aR (aa (ac 0 (pv 0)) (aa (ai (dU T) dS (rm hr) rfl T.aI.m T.aI.F.kp T.aI.b (aa (ac 1 (pv 1)) (aa (rF hr (ac 2 (pv 2)) (ac 0 (pv 0)) (fun _ _=>rfl)) ad))) ad))))))
   (tw (PCD.pld (aQ (N':=["cell"]) rfl rfl dk rfl (.own .nil) dk (ba (ac 5 (pv 5))) (fun B=>(ar (i:=0) ndB rfl oo)) (fun B=>(kq (cE (ai (wB T) wA (rm hr) rfl T.fq.m T.fq.F.kp T.fq.b (aa (aL (ac 0 (pv 0)) af (fun _ _=>rfl)) ad))))) (fun B=>(ac 0 (pv 0)))))))))) (fun ds Q L hl h=>?_)
 unfold oV at h
 split at h
 case h_2=>exact h.elim
 obtain⟨n,ps,l,rfl,rfl,⟨n6,p60,hps⟩,h⟩:=h
 have gok:∀qs:List (List Int×Row),(∀p∈qs,p∈ps)->GOk (fun k=>k.length=l) (fun r=>RowN 110 n r) qs.length (grp qs):=fun qs hq=>oU qs fun p hp=>hps p (hq p hp)
 refine⟨fun ρ=>∃a b:Sl,ρ=[.val (.int n),.val (.lst (ps.map cj)),.obj (dlO (emb (grp ps))),a,b,.nil],?_,?_⟩
 ·refine bO (fun pre ρ=>∃p0 p1:List (List Int×Row),ps=p0++p1/\pre=p0.map cj/\∃a b:Sl,ρ=[.val (.int n),.val (.lst (ps.map cj)),.obj (dlO (emb (grp p0))),a,b,.nil]) (fun ρ hN=>?_) (fun pre d post ρ X e hN hX=>?_) _ ⟨[],ps,rfl,rfl,_,_,rfl⟩
  ·obtain⟨p0,p1,rfl,e,a,b,rfl⟩:=hN
   have:p1=[]:=by
    have:=congrArg List.length e
    simp at this
    exact this
   subst this
   rw[zzy]
   exact⟨a,b,rfl⟩
  ·obtain⟨p0,p1,rfl,rfl,a,b,rfl⟩:=hN
   rw[zzl]at e
   have e:=zzD e
   cases p1 with
   |nil=>simp at e
   |cons p p1 =>
    rw[zzc]at e
    injection e with e1 e2
    subst e1
    have go:=gok p0 fun q hq=>by simp[hq]
    have pl:p0.length <= 60:=by rw[zzi]at p60;omega
    refine⟨rfl,emb (grp p0),kI p.1,rowD p.2,rfl,?_,rfl,?_,fun q hq=>?_,hX _ ⟨p0++[p],p1,by simp,by simp,_,_,by rw[yP,←vw];rfl⟩⟩
    ·show Sl.val (aq p.1)=_
     rw[dW]
    ·unfold emb
     rw[zza]
     exact zzC (show (grp p0).length <= 60 from zzk go.len pl) (by decide)
    ·obtain⟨q',hq',rfl⟩:=zze.mp hq
     rw[zza]
     exact zzC (show q'.2.length <= 60 from zzk (go.it q' hq').2.2.1 pl) (by decide)
 ·rintro _ ⟨a,b,rfl⟩
  have go:=gok ps fun q hq=>hq
  have hk:(emb (grp ps)).map (·.1)=((grp ps).map (·.1)).map kI:=by unfold emb;rw[zzg,zzg];rfl
  have kl:((grp ps).map (·.1)).length <= 60:=by rw[zza];exact zzk go.len p60
  have kln:∀k∈(grp ps).map (·.1),k.length=l:=fun k hk=>by
   obtain⟨p,hp,rfl⟩:=zze.mp hk
   exact(go.it p hp).1
  have sl:(cH ((grp ps).map (·.1))).length <= 60:=by rw[(aB _).length_eq];exact kl
  refine⟨⟨fun k hk'=>?_,fun h2 k hk'=>?_,?_⟩,?_⟩
  ·rw[hk]at hk'
   obtain⟨k',_,rfl⟩:=zze.mp hk'
   exact vv k'
  ·rw[hk]at h2 hk'
   rw[zza]at h2
   obtain⟨k',hk2,rfl⟩:=zze.mp hk'
   intro z
   exact yR go.nd kln h2 k' hk2 (lE (b:=[]) z)
  ·rw[hk,zza]
   omega
  ·have e1:(srtK ((emb (grp ps)).map (·.1))).map keyD=(cH ((grp ps).map (·.1))).map aq:=by
    rw[hk,yQ,zzg]
    apply zzv
    intro k _
    exact(dW k).symm
   show cF _ _ _ ((srtK ((emb (grp ps)).map (·.1))).map keyD) _ _ _
   rw[e1]
   refine br (fun pre acc ρ=>∃k0 k1:List (List Int),cH ((grp ps).map (·.1))=k0++k1/\pre=k0.map aq/\acc=(k0.map fun k=>(k,sums (bK (grp ps) k) n)).map cj/\∃s:Sl,ρ=[s,.val (.int n),.val (fzO (dlO (emb (grp ps))))]) (fun acc ρ hN=>?_) (fun pre d post acc ρ Y e hN hY=>?_) _ ⟨[],_,rfl,rfl,rfl,_,rfl⟩
   ·obtain⟨k0,k1,e,e2,rfl,s,rfl⟩:=hN
    have:k1=[]:=by
     have:=congrArg List.length e2
     rw[e]at this
     simp at this
     exact this
    subst this
    rw[zzy]at e
    rw[←e]
    have epl:((cH ((grp ps).map (·.1))).map fun k=>(k,sums (bK (grp ps) k) n))=aO n ps:=rfl
    rw[epl]
    have pll:(aO n ps).length <= 60:=by unfold aO;rw[zza];exact sl
    refine br (fun pre acc ρ=>∃c0 c1:List (List Int×Row),aO n ps=c0++c1/\pre=c0.map cj/\acc=(c0.filter fun c=>lG c.2).map cj/\∃s:Sl,ρ=[s]) (fun acc ρ hN=>?_) (fun pre d post acc ρ Y e hN hY=>?_) _ ⟨[],_,rfl,rfl,rfl,_,rfl⟩
    ·obtain⟨c0,c1,e3,e4,rfl,s,rfl⟩:=hN
     have:c1=[]:=by
      have:=congrArg List.length e4
      rw[e3]at this
      simp at this
      exact this
     subst this
     rw[zzy]at e3
     rw[←e3]
     exact h
    ·obtain⟨c0,c1,e3,rfl,rfl,s,rfl⟩:=hN
     rw[e3,zzl]at e
     have e:=zzD e
     cases c1 with
     |nil=>simp at e
     |cons c c1 =>
      rw[zzc]at e
      injection e with e1 e2
      subst e1
      rw[e3,zzi]at pll
      have hc:c∈aO n ps:=by rw[e3];simp
      have hcl:c.2.length <= 1000:=by
       obtain⟨k,_,rfl⟩:=zze.mp hc
       show (sums _ n).length <= 1000
       unfold sums
       rw[zza,zyc]
       omega
      refine⟨rfl,c.2,rfl,hcl,?_⟩
      cases z:lG c.2 with
      |true =>
       refine Br.t ⟨?_,hY _ _ ⟨c0++[c],c1,by rw[e3];simp,by simp,by rw[zzQ,zzW (by simpa using z)];simp,_,rfl⟩⟩
       rw[zza]
       exact zzC (show _ <= 60 from zzk (zzN _ _) (by omega)) (by decide)
      |false=>exact Br.f (hY _ _ ⟨c0++[c],c1,by rw[e3];simp,by simp,by rw[zzQ,zya (by simp[z])];simp,_,rfl⟩)
   ·obtain⟨k0,k1,e3,rfl,rfl,s,rfl⟩:=hN
    rw[e3,zzl]at e
    have e:=zzD e
    cases k1 with
    |nil=>simp at e
    |cons k k1 =>
     rw[zzc]at e
     injection e with e1 e2
     subst e1
     have hk':k∈cH ((grp ps).map (·.1)):=by rw[e3];simp
     obtain⟨p,hp,_,h3,h4⟩:=tW ((aB _).mem_iff.mp hk')
     have gp:=go.it p hp
     rw[e3,zzi]at sl
     refine Br.t ⟨embV (grp ps),kI k,.lst (p.2.map rowD),Hi _,dW k,h4,rfl,n,p.2,rfl,rfl,⟨n6,zzk gp.2.2.1 (by omega),fun r hr=>(gp.2.2.2 r hr).up⟩,sz,?_,hY _ _ ⟨k0++[k],k1,by rw[e3];simp,by simp,by rw[zzl,zzl,←h3];rfl,_,rfl⟩⟩
     rw[zza,zza]
     exact zzC (show k0.length <= 60 by omega) (by decide)
def Do:DSp:=fun ds Q=>oV ds Q fun es=>Q (.lst es)
theorem wC:aY Do:=fun ds P P' f h=>iQ _ _ _ _ _ f (fun es q=>f _ q) h
theorem wD(T:Tx K mg):FnOk P w K mg base CX0 3 T.ij T.fW ["many","pairs"] (spD K 2 Do):=DL.FnOk.asD (nF T) (fun ds Q h=>h) iQ
theorem Aw{n l:Nat}{ps:List (List Int×Row)}(h:∀p∈ps,p.1.length=l/\RowN 110 n p.2/\lF p.2):gath n ps=aO n ps:=by
 unfold gath
 rw[List.filter_eq_self]
 intro c hc
 obtain⟨k,hk,rfl⟩:=zze.mp hc
 obtain⟨p,hp,_,h3,_⟩:=tW ((aB _).mem_iff.mp hk)
 have go:=(oU (C:=fun k=>k.length=l) (R:=fun r=>RowN 110 n r/\lF r) ps fun p hp=>⟨(h p hp).1,(h p hp).2⟩).it p hp
 rw[triedB_iff]
 show lF (sums (bK (grp ps) k) n)
 rw[h3]
 exact wz (n:=110) (fun r hr=>(go.2.2.2 r hr).1) go.2.1 fun r hr=>(go.2.2.2 r hr).2
structure Bk where
 m:Nat
 marks:List Int
 cells:List (List Int×Row)
def ck(b:Bk):D:=.tup [.int b.m,aq b.marks,.tup (b.cells.map cj)]
structure BkOk(b:Bk):Prop where
 m2:2 <= b.m
 m6:b.m <= 6
 mk5:b.marks.length <= 5
 c60:b.cells.length <= 60
 it:∀c∈b.cells,c.1.length=b.marks.length/\RowN 110 b.m c.2/\lF c.2
structure SoOk(b:Bk)(so:List Int):Prop where
 it:∀x∈so,0 <= x/\x<b.marks.length
 nd:so.Nodup
 len:so.length <= 5
theorem SoOk.take{b:Bk}{so:List Int}(h:SoOk b so)(n:Nat):SoOk b (so.take n) :=
 ⟨fun x hx=>h.it x (List.mem_of_mem_take hx),h.nd.sublist (List.take_sublist _ _),zzk (by rw[zyd];exact Nat.min_le_right _ _) h.len⟩
def vals(ks so:List Int):List Int:=so.map fun x=>ks.getD x.toNat 0
def aJ(b:Bk)(so:List Int):List (List Int×Row):=aO b.m (b.cells.map fun c=>(vals c.1 so,c.2))
theorem rT{ks so:List Int}(hb:∀x∈so,0 <= x/\x<ks.length)(hl:so.length <= 1000){s:Sl}{Q:List D->Prop}(q:Q ((vals ks so).map D.int)) :
  cF (ge 0) dQ (dOp gIx (dVar 1) (dVar 0)) (so.map D.int) [] [s,.val (aq ks)] Q:=by
 refine bP (fun d=>match d with|.int i=>.int (ks.getD i.toNat 0)|_=>.non) (fun ρ=>∃s,ρ=[s,.val (aq ks)]) (by rw[zza];exact zzk hl (by decide)) (fun d hd ρ Y Z hN hY=>?_) _ ⟨_,rfl⟩ ?_
 ·obtain⟨s,rfl⟩:=hN
  obtain⟨x,hx,rfl⟩:=zze.mp hd
  obtain⟨h0,h1⟩:=hb x hx
  refine Br.t (lB (d:=.int (ks.getD x.toNat 0)) h0 ?_ (hY _ ⟨_,rfl⟩))
  rw[zzq,zzF]
  have:x.toNat<ks.length:=by omega
  simp[this]
 ·unfold vals at q
  rw[zzg]at q ⊢
  exact q
def FI:DSp:=fun ds Q=>∃ks so:List Int,ds=[aq ks,aq so]/\(∀x∈so,0 <= x/\x<ks.length)/\so.length <= 1000/\Q (aq (vals ks so))
theorem tY:aY FI:=fun ds P P' f ⟨ks,so,a,b,c,h⟩=>⟨ks,so,a,b,c,f _ h⟩
theorem tZ(T:Tx K mg):FnOk P w K mg base CX0 1 T.iW T.gL ["kinds","some"] (spD K 2 FI):=by
 refine fnD (k:=0) T.eh.F rP (fun cdv A outer s H E hr=>(ag (ax (aU cX rfl T.bU rfl (aa (aN (PCD.pld (aQ (N':=["mark","kinds"]) rfl rfl dk rfl (.own (.cap (j:=0) rfl oo rfl .nil)) dk (iq (ac 1 (pv 1))) (fun B=>(ar (i:=0) ndB rfl oo)) (fun B=>bb) (fun B=>(aL (ac 1 (pv 1)) (ac 0 (pv 0)) (fun _ _=>rfl)))))) ad))))) (fun ds Q hl h=>?_)
 obtain⟨ks,so,rfl,h1,h2,h⟩:=h
 exact rT h1 h2 h
def gChM:DSp:=fun ds Q=>∃(b:Bk) (x:Int),ds=[ck b,.int x]/\(0 <= x/\x<b.marks.length)/\b.marks.length <= 5/\Q .non
theorem rV:aY gChM:=fun ds P P' f ⟨b,x,a,c,d,h⟩=>⟨b,x,a,c,d,f _ h⟩
theorem rW(T:Tx K mg):FnOk P w K mg base CX0 3 T.gS T.fV ["book","mark"] (spD K 2 gChM):=by
 refine fnD (k:=2) T.dw.F qa (fun cdv A outer s H E hr=>(ag (bx (de (cE (ai (cR T) cQ (rm hr) rfl T.az.m T.az.F.kp T.az.b (aa (ac 1 (pv 1)) (aa af (aa (bL qV (au bF rfl T.cD zzE (aa (aL (ac 0 (pv 0)) af (fun _ _=>rfl)) ad)) af) ad)))))) (ag eE) aA))) (fun ds Q hl h=>?_)
 obtain⟨b,x,rfl,⟨h0,h1⟩,h2,h⟩:=h
 have e:((b.marks.map D.int).length:Int)=b.marks.length:=by rw[zza]
 refine⟨rfl,⟨h0,?_⟩,Br.f h⟩
 omega
theorem yU{d:D}(h:shp d=true){A B:Prop}(q:B):Br (!eqD d d) A B:=by
 rw[uT h]
 exact Br.f q
theorem Dp{d e:D}(h:d=e)(s:shp e=true){A B:Prop}(q:B):Br (!eqD d e) A B:=by rw[h];exact yU s q
theorem FJ{d e:D}(h:d=e)(s:shp e=true):shp d=true:=by rw[h];exact s
def FK:DSp:=fun ds Q=>∃(b:Bk) (so:List Int),ds=[ck b,aq so]/\SoOk b so/\b.marks.length <= 5/\Q .non
theorem jJ:aY FK:=fun ds P P' f ⟨b,so,a,c,d,h⟩=>⟨b,so,a,c,d,f _ h⟩
theorem jK(T:Tx K mg):FnOk P w K mg base CX0 4 T.fX T.eS ["book","some"] (spD K 2 FK):=by
 refine fnD (k:=3) T.bh.F sc_check_marks (fun cdv A outer s H E hr=>(ah (bx (de (cE (au fw rfl T.bi rfl (aa (ac 1 (pv 1)) (aa (ou (n:="tuple") rfl T.bU rfl) ad))))) (ag eE) aA)
   (aZ (bE PassesOwn.never rfl (iq (ac 1 (pv 1))) (ar (i:=2) sc_check_marks.nd rfl oo) (ag (gc (ai (rW T) rV (rm hr) rfl T.dw.m T.dw.F.kp T.dw.b (aa (ac 0 (pv 0)) (aa (ac 2 (pv 2)) ad))))))
   (ag (bx (aG (lP hr) (yq rfl rfl T.cD rfl T.FX (ac 1 (pv 1))) (au bF rfl T.cD zzE (aa (ac 1 (pv 1)) ad)) (aw _)) (ag eE) aA))))) (fun ds Q hl h=>?_)
 obtain⟨b,so,rfl,o,hm,h⟩:=h
 refine⟨rfl,rfl,Br.f ?_⟩
 refine⟨fun ρ=>∃s:Sl,ρ=[.val (ck b),.val (aq so),s],?_,?_⟩
 ·refine qZ (fun ρ=>∃s:Sl,ρ=[.val (ck b),.val (aq so),s]) (fun ρ h=>h) (fun d hd ρ X hN hX=>?_) _ ⟨_,rfl⟩
  obtain⟨s,rfl⟩:=hN
  obtain⟨x,hx,rfl⟩:=zze.mp hd
  exact⟨rfl,b,x,rfl,o.it x hx,hm,hX _ ⟨_,rfl⟩⟩
 ·rintro _ ⟨s,rfl⟩
  have e:D.int (tH so:Nat)=D.int ((so.map D.int).length:Nat):=by rw[tI o.nd,zza]
  exact⟨so,rfl,zzk o.len (by decide),⟨rfl,rfl⟩,Dp e rfl h⟩
def uc:DSpN:=fun ds _ L=>∃(b:Bk) (so:List Int),ds=[ck b,aq so]/\BkOk b/\SoOk b so/\L ((aJ b so).map cj)
theorem nG:rq uc:=fun ds P P' L L' f fl ⟨b,so,a,c,d,h⟩=>⟨b,so,a,c,d,fl _ h⟩
theorem ud(T:Tx K mg):FnOk P w K mg base CX0 5 T.ig T.fO ["book","some"] (spDN K 2 uc):=by
 refine fnDN (k:=4) T.cC.F tQ (fun cdv A outer s H E hr=>(cY (gc (ai (jK T) jJ (rm hr) rfl T.bh.m T.bh.F.kp T.bh.b (aa (ac 0 (pv 0)) (aa (ac 1 (pv 1)) ad))))
   (An (nF T) iQ (rm hr) rfl T.cA.m T.cA.F.kp T.cA.b (aa (aL (ac 0 (pv 0)) af (fun _ _=>rfl)) (aa (aN (PCD.pld (aQ (N':=["cell","some"]) rfl rfl dk rfl (.own (.cap (j:=1) rfl oo rfl .nil)) dk (iq (aL (ac 0 (pv 0)) af (fun _ _=>rfl))) (fun B=>(ar (i:=0) ndB rfl oo)) (fun B=>bb) (fun B=>(aR (aa (ai (tZ T) tY (rm hr) rfl T.eh.m T.eh.F.kp T.eh.b (aa (aL (ac 0 (pv 0)) af (fun _ _=>rfl)) (aa (ac 1 (pv 1)) ad))) (aa (aL (ac 0 (pv 0)) af (fun _ _=>rfl)) ad))))))) ad))))) (fun ds Q L hl h=>?_)
 obtain⟨b,so,rfl,bo,o,h⟩:=h
 unfold aJ at h
 refine⟨rfl,b,so,rfl,o,bo.mk5,?_⟩
 have c60:=bo.c60
 refine br (fun pre acc ρ=>∃c0 c1:List (List Int×Row),b.cells=c0++c1/\pre=c0.map cj/\acc=(c0.map fun c=>(vals c.1 so,c.2)).map cj/\∃s:Sl,ρ=[s,.val (aq so)]) (fun acc ρ hN=>?_) (fun pre d post acc ρ Y e hN hY=>?_) _ ⟨[],_,rfl,rfl,rfl,_,rfl⟩
 ·obtain⟨c0,c1,e,e2,rfl,s,rfl⟩:=hN
  have:c1=[]:=by
   have:=congrArg List.length e2
   rw[e]at this
   simp at this
   exact this
  subst this
  rw[zzy]at e
  rw[←e]
  have fin:oV [.int b.m,.lst ((b.cells.map fun c=>(vals c.1 so,c.2)).map cj)] Q L:=by
   have ga:=Aw (n:=b.m) (l:=so.length) (ps:=b.cells.map fun c=>(vals c.1 so,c.2)) fun p hp=>by
    obtain⟨c,hc,rfl⟩:=zze.mp hp
    exact⟨by unfold vals;rw[zza],(bo.it c hc).2⟩
   refine⟨b.m,_,so.length,rfl,rfl,⟨bo.m6,by rw[zza];exact bo.c60,fun p hp=>?_⟩,by rw[ga];exact h⟩
   obtain⟨c,hc,rfl⟩:=zze.mp hp
   exact⟨by unfold vals;rw[zza],(bo.it c hc).2.1⟩
  exact⟨rfl,fin⟩
 ·obtain⟨c0,c1,e3,rfl,rfl,s,rfl⟩:=hN
  rw[e3,zzl]at e
  have e:=zzD e
  cases c1 with
  |nil=>simp at e
  |cons c c1 =>
   rw[zzc]at e
   injection e with e1 e2
   subst e1
   have hc:=bo.it c (by rw[e3];simp)
   rw[e3,zzi]at c60
   refine Br.t ⟨rfl,c.1,so,rfl,fun x hx=>by rw[hc.1];exact o.it x hx,zzk o.len (by decide),sz,?_,hY _ _ ⟨c0++[c],c1,by rw[e3];simp,by simp,by rw[zzl,zzl];rfl,_,rfl⟩⟩
   rw[zza,zza]
   exact zzC (show c0.length <= 60 by omega) (by decide)
theorem jL{b:Bk}(bo:BkOk b){so:List Int}:(aJ b so).length <= 60:=by
 unfold aJ aO
 rw[zza,(aB _).length_eq,zza]
 have:=(oU (C:=fun _=>True) (R:=fun _=>True) (b.cells.map fun c=>(vals c.1 so,c.2)) fun _ _=>⟨trivial,trivial⟩).len
 rw[zza]at this
 exact zzk this bo.c60
def BF:DSp:=fun ds Q=>uc ds Q fun es=>Q (.lst es)
theorem oW:aY BF:=fun ds P P' f h=>nG _ _ _ _ _ f (fun es q=>f _ q) h
theorem oX(T:Tx K mg):FnOk P w K mg base CX0 5 T.ig T.fO ["book","some"] (spD K 2 BF):=DL.FnOk.asD (ud T) (fun ds Q h=>h) nG
def qf:DSpN:=fun ds _ L=>∃(b:Bk) (so:List Int),ds=[ck b,aq so]/\BkOk b/\SoOk b so/\L (((aJ b so).map (·.2)).map rowD)
theorem nH:rq qf:=fun ds P P' L L' f fl ⟨b,so,a,c,d,h⟩=>⟨b,so,a,c,d,fl _ h⟩
theorem ue(T:Tx K mg):FnOk P w K mg base CX0 6 T.ii T.fP ["book","some"] (spDN K 2 qf):=by
 refine fnDN (k:=5) T.cB.F tR (fun cdv A outer s H E hr=>(tw (PCD.pld (aQ (N':=["part"]) rfl rfl dk rfl (.own .nil) dk (ba (ai (oX T) oW (rm hr) rfl T.cC.m T.cC.F.kp T.cC.b (aa (ac 0 (pv 0)) (aa (ac 1 (pv 1)) ad)))) (fun B=>(ar (i:=0) ndB rfl oo)) (fun B=>bb) (fun B=>(aL (ac 0 (pv 0)) af (fun _ _=>rfl))))))) (fun ds Q L hl h=>?_)
 obtain⟨b,so,rfl,bo,o,h⟩:=h
 refine⟨rfl,b,so,rfl,bo,o,?_⟩
 refine bP (fun d=>match d with|.tup [_,x]=>x|_=>.non) (fun ρ=>∃s,ρ=[s]) ?_ (fun d hd ρ Y Z hN hY=>?_) _ ⟨_,rfl⟩ ?_
 ·rw[zza]
  exact zzk (jL bo) (by decide)
 ·obtain⟨s,rfl⟩:=hN
  obtain⟨c,_,rfl⟩:=zze.mp hd
  exact Br.t (hY _ ⟨_,rfl⟩)
 ·have e:((aJ b so).map cj).map (fun d=>match d with|.tup [_,x]=>x|_=>.non)=((aJ b so).map (·.2)).map rowD:=by
   rw[zzg,zzg]
   rfl
  rw[e]
  exact h
def aC(b:Bk)(so:List Int)(n:Nat):List (List Int×Row):=(List.range n).flatMap fun l=>aJ b (so.take l)
theorem fg(b:Bk)(so:List Int)(n:Nat):aC b so (n+1)=aC b so n++aJ b (so.take n):=by
 unfold aC
 rw[List.range_succ,zye]
 simp
theorem gx{b:Bk}(bo:BkOk b){so:List Int}:∀n,(aC b so n).length <= 60*n
 |0=>by simp[aC]
 |n+1=>by
  rw[fg,zzi]
  have:=gx bo (so:=so) n
  have:=jL bo (so:=so.take n)
  omega
theorem ma{so:List Int}{k:Int}(k0:0 <= k)(k1:k <= so.length):cutD (so.map D.int) none (some k)=(so.take k.toNat).map D.int:=by
 unfold cutD
 have s1:HT.sIx (so.map D.int).length 0 none=0:=rfl
 have s2:HT.sIx (so.map D.int).length (so.map D.int).length (some k)=k.toNat:=by
  rw[zza]
  have kn:¬k<0:=by omega
  unfold HT.sIx
  simp[kn]
  omega
 rw[s1,s2,List.drop_zero,Nat.sub_zero,List.map_take]
def BG:DSpN:=fun ds _ L=>∃(b:Bk) (so:List Int),ds=[ck b,aq so]/\BkOk b/\SoOk b so/\L ((aC b so (so.length+1)).map cj)
theorem Ax:rq BG:=fun ds P P' L L' f fl ⟨b,so,a,c,d,h⟩=>⟨b,so,a,c,d,fl _ h⟩
theorem Ay(T:Tx K mg):FnOk P w K mg base CX0 6 T.qv T.mt ["book","order"] (spDN K 2 BG):=by
 refine fnDN (k:=5) T.og.F sc_knots (fun cdv A outer s H E hr=>(cY (gc (ai (jK T) jJ (rm hr) rfl T.bh.m T.bh.F.kp T.bh.b (aa (ac 0 (pv 0)) (aa (ac 1 (pv 1)) ad))))
   (cY (jw (i:=2) sc_knots.nd rfl oo (bD ad))
   (tD (bE PassesOwn.never rfl (bN rfl T.cW (aa (bL dP (au bF rfl T.cD zzE (aa (ac 1 (pv 1)) ad)) af) ad)) (ar (i:=3) sc_knots.nd rfl oo) (ag (Bt (pv 2) (ai (oX T) oW (rm hr) rfl T.cC.m T.cC.F.kp T.cC.b (aa (ac 0 (pv 0)) (aa (rA (ac 1 (pv 1)) iB (iC (ac 3 (pv 3)))) ad))))))
   (ya (pv 2)))))) (fun ds Q L hl h=>?_)
 obtain⟨b,so,rfl,bo,o,h⟩:=h
 have l5:=o.len
 have el:((so.map D.int).length:Int)=so.length:=by rw[zza]
 refine⟨rfl,b,so,rfl,o,bo.mk5,sz,fun ρ=>∃s:Sl,ρ=[.val (ck b),.val (aq so),.own ((aC b so (so.length+1)).map cj),s],⟨⟨by omega,by omega⟩,?_⟩,?_⟩
 ·refine eF (fun k ρ=>∃s:Sl,ρ=[.val (ck b),.val (aq so),.own ((aC b so k.toNat).map cj),s]) _ _ ?_ ?_ _ ⟨_,rfl⟩
  ·rintro ρ ⟨s,rfl⟩
   have e:(0+((((so.map D.int).length:Int)+1).toNat:Int)).toNat=so.length+1:=by omega
   rw[e]
   exact⟨s,rfl⟩
  ·rintro k ρ X k0 k1 ⟨s,rfl⟩ hX
   have kl:k <= so.length:=by omega
   refine⟨trivial,?_⟩
   show _/\_
   refine⟨rfl,b,so.take k.toNat,?_,bo,o.take _,_,rfl,?_,hX _ ⟨.val (.int k),?_⟩⟩
   ·rw[ma k0 kl]
    rfl
   ·rw[zza,zza]
    have h1:=gx bo (so:=so) k.toNat
    have h2:=jL bo (so:=so.take k.toNat)
    exact zzk (show _ <= 500 by omega) (by decide)
   ·have e:(k+1).toNat=k.toNat+1:=by omega
    rw[e,fg,zzl]
    rfl
 ·rintro _ ⟨s,rfl⟩
  exact h
def yV:DSp:=fun ds Q=>∃(b:Bk) (so:List Int),ds=[ck b,aq so]/\BkOk b/\SoOk b so/\Q (.lst ((aC b so (so.length+1)).map cj))
theorem Dq:aY yV:=fun ds P P' f ⟨b,so,a,c,d,h⟩=>⟨b,so,a,c,d,f _ h⟩
theorem Dr(T:Tx K mg):FnOk P w K mg base CX0 6 T.qv T.mt ["book","order"] (spD K 2 yV):=DL.FnOk.asD (Ay T) (fun ds Q h=>h) Ax
def sayR(a b:Nat)(r:Row):D:=gu (at_ r a).1 (at_ r a).2 (at_ r b).1 (at_ r b).2
def isS(s:Int)(d:D):Bool:=eqF d (.int s)
def four(d:D):Prop:=d=.non∨d=.int 1∨d=.int (-1)∨d=.int 0
theorem dh(a b:Nat)(r:Row):four (sayR a b r):=by
 unfold four sayR gu
 split
 ·exact .inl rfl
 ·split
  ·exact .inr (.inl rfl)
  ·split
   ·exact .inr (.inr (.inl rfl))
   ·exact .inr (.inr (.inr rfl))
theorem Ds{d:D}(h:four d):flD d:=by rcases h with rfl|rfl|rfl|rfl<;>trivial
theorem nI{d:D}(h:four d):mV d=true:=by rcases h with rfl|rfl|rfl|rfl<;>rfl
theorem qg{d:D}(h:four d):shp d=true:=by rcases h with rfl|rfl|rfl|rfl<;>rfl
theorem nJ{d:D}(h:four d){s:Int}:eqD d (.int s)=isS s d:=by
 rcases h with rfl|rfl|rfl|rfl<;>rfl
def fG(v w:List Int):Bool:=decide (w.length=v.length+1) && decide (w.take v.length=v)
def bu(cs:List (List Int×Row))(a b:Nat)(v:List Int):List D:=(cs.filter fun c=>fG v c.1).map fun c=>sayR a b c.2
theorem wE{cs:List (List Int×Row)}{a b:Nat}{v:List Int}:∀d∈bu cs a b v,four d:=fun d hd=>by
 obtain⟨c,_,rfl⟩:=zze.mp hd
 exact dh a b c.2
theorem yW{cs:List (List Int×Row)}{a b:Nat}{v:List Int}:(bu cs a b v).length <= cs.length:=by
 unfold bu
 rw[zza]
 exact zzN _ _
theorem Az{v w:List Int}(h:w≠[]):fG v w=decide (v=w.dropLast):=by
 unfold fG
 have hl:0<w.length:=List.length_pos_iff.mpr h
 by_cases e:v=w.dropLast
 ·rw[decide_eq_true e]
  have l1:w.length=v.length+1:=by rw[e,List.length_dropLast];omega
  have l2:w.take v.length=v:=by rw[e,List.length_dropLast,List.dropLast_eq_take]
  rw[decide_eq_true l1,decide_eq_true l2]
  rfl
 ·rw[decide_eq_false e]
  by_cases l1:w.length=v.length+1
  ·have l2:¬w.take v.length=v:=fun z=>e (by rw[List.dropLast_eq_take,l1,Nat.add_sub_cancel,z])
   rw[decide_eq_false l2,Bool.and_false]
  ·rw[decide_eq_false l1,Bool.false_and]
theorem Dt(v:List Int):fG v []=false:=by
 unfold fG
 rw[decide_eq_false (by simp),Bool.false_and]
def addD(k:List Int)(d:D):List (List Int×List D)->List (List Int×List D)
 |[]=>[(k,[d])]
 |p::t=>if p.1=k then(p.1,p.2++[d])::t else p::addD k d t
def lkD(g:List (List Int×List D))(v:List Int):List D:=((g.find? fun p=>decide (p.1=v)).map (·.2)).getD []
theorem BH(k v:List Int)(d:D):∀g,lkD (addD k d g) v=if v=k then lkD g v++[d] else lkD g v
 |[]=>by
  unfold addD lkD
  by_cases e:v=k
  ·rw[if_pos e,zzt (by simpa using e.symm)]
   rfl
  ·rw[if_neg e,zzu (by simpa using fun z=>e z.symm)]
 |p::t=>by
  unfold addD
  by_cases e:p.1=k
  ·rw[if_pos e]
   unfold lkD
   by_cases f:v=k
   ·rw[if_pos f,zzt (by simpa using e.trans f.symm),zzt (by simpa using e.trans f.symm)]
    rfl
   ·have ne:¬p.1=v:=fun z=>f (z.symm.trans e)
    rw[if_neg f,zzu (by simpa using ne),zzu (by simpa using ne)]
  ·rw[if_neg e]
   have ih:=BH k v d t
   unfold lkD at ih ⊢
   by_cases f:p.1=v
   ·have nv:¬v=k:=fun z=>e (f.trans z)
    rw[if_neg nv,zzt (by simpa using f),zzt (by simpa using f)]
   ·rw[zzu (by simpa using f),zzu (by simpa using f)]
    exact ih
def embD(g:List (List Int×List D)):List (List Key×List D):=g.map fun p=>(kI p.1,p.2)
def wF(g:List (List Int×List D)):List (List Key×D):=g.map fun p=>(kI p.1,.lst p.2)
theorem vB(k:List Int)(d:D):∀g,fC (kI k) d (embD g)=embD (addD k d g)
 |[]=>rfl
 |p::t=>by
  show fC (kI k) d ((kI p.1,p.2)::embD t)=_
  unfold fC addD
  by_cases e:p.1=k
  ·rw[if_pos (show (kI p.1,p.2).1=kI k by rw[e]),if_pos e]
   rfl
  ·rw[if_neg (show ¬(kI p.1,p.2).1=kI k from fun z=>e (lE z)),if_neg e,vB k d t]
   rfl
theorem AA(k:List Int)(d:D){n:Nat}:∀g:List (List Int×List D),g.length <= n->(∀p∈g,p.2.length <= n)->(addD k d g).length <= n+1/\∀p∈addD k d g,p.2.length <= n+1:=by
 have key:∀g:List (List Int×List D),(addD k d g).length <= g.length+1/\∀p∈addD k d g,p.2.length <= 1∨∃q∈g,p.2.length <= q.2.length+1:=by
  intro g
  induction g with
  |nil=>exact⟨zzh _,fun p hp=>.inl (by rw[zzx.mp hp];exact zzh _)⟩
  |cons q t ih =>
   unfold addD
   split
   ·refine⟨by simp,fun p hp=>?_⟩
    rcases zzj.mp hp with rfl|hp
    ·exact .inr ⟨q,zzd,by simp⟩
    ·exact .inr ⟨p,zzb _ hp,by omega⟩
   ·refine⟨by simp;exact ih.1,fun p hp=>?_⟩
    rcases zzj.mp hp with rfl|hp
    ·exact .inr ⟨p,zzd,by omega⟩
    ·rcases ih.2 p hp with h|⟨q',hq,h⟩
     ·exact .inl h
     ·exact .inr ⟨q',zzb _ hq,h⟩
 intro g h1 h2
 have:=key g
 refine⟨by omega,fun p hp=>?_⟩
 rcases this.2 p hp with h|⟨q,hq,h⟩
 ·omega
 ·have:=h2 q hq
  omega
theorem wG(g:List (List Int×List D))(v:List Int):(fB (wF g) (kI v)).getD (.lst [])=.lst (lkD g v):=by
 induction g with
 |nil=>rfl
 |cons p t ih =>
  unfold fB lkD wF at ih ⊢
  by_cases e:p.1=v
  ·rw[zzc,zzt (by simpa[wy]using e),zzt (by simpa using e)]
   rfl
  ·rw[zzc,zzu (by simpa[wy]using e),zzu (by simpa using e)]
   exact ih
theorem FL(g:List (List Int×List D)):fzO (dlO (embD g))=.dT ((wF g).map (·.1)) ((wF g).map (·.2)):=by
 unfold dlO embD wF
 simp only[fzO]
 refine congr (congrArg D.dT ?_) ?_
 ·rw[zzg,zzg]
  rfl
 ·rw[lV,zzg,zzg,zzg]
  apply zzv
  intro p _
  simp only[Function.comp,fzO,BC]
def eC(cs:List (List Int×Row))(a b:Nat):List (List Int×List D):=cs.foldl (fun g c=>if c.1=[] then g else addD c.1.dropLast (sayR a b c.2) g) []
theorem jM(cs:List (List Int×Row))(c:List Int×Row)(a b:Nat):eC (cs++[c]) a b=if c.1=[] then eC cs a b else addD c.1.dropLast (sayR a b c.2) (eC cs a b):=by
 unfold eC
 rw[List.foldl_append]
 rfl
theorem vC{α:Type}{C:List α->Prop}(h0:C [])(hs:∀l x,C l->C (l++[x])):∀l,C l:=by
 intro l
 rw[←List.reverse_reverse l]
 induction l.reverse with
 |nil=>exact h0
 |cons x t ih =>
  rw[List.reverse_cons]
  exact hs _ _ ih
theorem Du(a b:Nat)(v:List Int):∀cs,lkD (eC cs a b) v=bu cs a b v:=by
 refine vC rfl fun cs c ih=>?_
 rw[jM]
 unfold bu at ih ⊢
 rw[zzQ,zzl,←ih]
 by_cases e:c.1=[]
 ·rw[if_pos e]
  have:[c].filter (fun c=>fG v c.1)=[]:=by simp[e,Dt]
  rw[this]
  simp
 ·rw[if_neg e,BH]
  have hk:=Az (v:=v) e
  by_cases f:v=c.1.dropLast
  ·rw[if_pos f]
   have:[c].filter (fun c=>fG v c.1)=[c]:=by rw[zzW (by rw[hk];simpa using f)];rfl
   rw[this]
   rfl
  ·rw[if_neg f]
   have:[c].filter (fun c=>fG v c.1)=[]:=by simp[hk,f]
   rw[this]
   simp
theorem AB(a b:Nat):∀cs:List (List Int×Row),(eC cs a b).length <= cs.length/\∀p∈eC cs a b,p.2.length <= cs.length:=by
 refine vC ⟨zzh _,fun p hp=>by simp[eC]at hp⟩ fun cs c ih=>?_
 rw[jM,zzi]
 split
 ·exact⟨zzk ih.1 (by simp),fun p hp=>zzk (ih.2 p hp) (by simp)⟩
 ·exact AA _ _ _ ih.1 ih.2
theorem yX{n m:Nat}{r:Row}(o:RowN n m r)(hn:n <= 7000){a b:Int}(a0:0 <= a)(a1:a<m)(b0:0 <= b)(b1:b<m){Q:D->Prop}(q:Q (sayR a.toNat b.toNat r)):tV [bX (at_ r a.toNat),bX (at_ r b.toNat)] Q:=by
 have ca:=(jG o (h:=a.toNat) (by omega)).2
 have cb:=(jG o (h:=b.toNat) (by omega)).2
 exact⟨⟨ca.bt.mono hn,ca.bw.mono hn,cb.bt.mono hn,cb.bw.mono hn⟩,q⟩
structure CsOk(m:Nat)(cs:List (List Int×Row)):Prop where
 rows:∀c∈cs,RowN 200 m c.2
 len:cs.length <= 600
structure AbOk(m:Nat)(a b:Int):Prop where
 a0:0 <= a
 a1:a<m
 b0:0 <= b
 b1:b<m
 ne:a≠b
def gSok:DSp:=fun ds Q=>∃(m:Nat) (cs:List (List Int×Row)) (a b:Int),ds=[.lst (cs.map cj),.int a,.int b]/\CsOk m cs/\AbOk m a b/\Q (fzO (dlO (embD (eC cs a.toNat b.toNat))))
theorem oE:aY gSok:=fun ds P P' f ⟨m,cs,a,b,x,y,z,h⟩=>⟨m,cs,a,b,x,y,z,f _ h⟩
theorem AC{v:List Int}:cutD (v.map D.int) none (some (-1))=v.dropLast.map D.int:=by
 unfold cutD
 have s1:HT.sIx (v.map D.int).length 0 none=0:=rfl
 have s2:HT.sIx (v.map D.int).length (v.map D.int).length (some (-1))=v.length - 1:=by
  rw[zza]
  unfold HT.sIx
  simp
  omega
 rw[s1,s2,List.drop_zero,Nat.sub_zero,List.dropLast_eq_take,List.map_take]
theorem oF(T:Tx K mg):FnOk P w K mg base CX0 2 T.eR T.dY ["found","a","b"] (spD K 3 gSok):=by
 refine fnD (k:=1) T.cq.F sc_says_of_kids (fun cdv A outer s H E hr=>(ah (tG (i:=3) sc_says_of_kids.nd rfl oo)
   (aZ (bE PassesOwn.never rfl (ba (ac 0 (pv 0))) (lA (n:=2) rfl (aX (ar (i:=4) sc_says_of_kids.nd rfl oo) (aX (ar (i:=5) sc_says_of_kids.nd rfl oo) gf))) (ag (bx (aG lO (au bF rfl T.cD zzE (aa (ac 4 (pv 4)) ad)) af (aw _)) (ag (CV hr (pv 3) (rA (ac 4 (pv 4)) iB (iC (mP gh af))) (ai (vt T) vq (rm hr) rfl T.eM.m T.eM.F.kp T.eM.b (aa (aL (ac 5 (pv 5)) (ac 1 (pv 1)) (fun _ _=>rfl)) (aa (aL (ac 5 (pv 5)) (ac 2 (pv 2)) (fun _ _=>rfl)) ad))))) aA)))
   (ag (ax (ac 3 (pv 3))))))) (fun ds Q hl h=>?_)
 obtain⟨m,cs,a,b,rfl,co,ab,h⟩:=h
 have c6:=co.len
 refine⟨fun ρ=>∃s t:Sl,ρ=[.val (.lst (cs.map cj)),.val (.int a),.val (.int b),.obj (dlO (embD (eC cs a.toNat b.toNat))),s,t],?_,?_⟩
 ·refine bO (fun pre ρ=>∃c0 c1:List (List Int×Row),cs=c0++c1/\pre=c0.map cj/\∃s t:Sl,ρ=[.val (.lst (cs.map cj)),.val (.int a),.val (.int b),.obj (dlO (embD (eC c0 a.toNat b.toNat))),s,t]) (fun ρ hN=>?_) (fun pre d post ρ X e hN hX=>?_) _ ⟨[],cs,rfl,rfl,_,_,rfl⟩
  ·obtain⟨c0,c1,rfl,e,s,t,rfl⟩:=hN
   have:c1=[]:=by
    have:=congrArg List.length e
    simp at this
    exact this
   subst this
   rw[zzy]
   exact⟨s,t,rfl⟩
  ·obtain⟨c0,c1,rfl,rfl,s,t,rfl⟩:=hN
   rw[zzl]at e
   have e:=zzD e
   cases c1 with
   |nil=>simp at e
   |cons c c1 =>
    rw[zzc]at e
    injection e with e1 e2
    subst e1
    have ro:=co.rows c (by simp)
    have kl:=AB a.toNat b.toNat c0
    rw[zzi]at c6
    have el:((c.1.map D.int).length:Int)=c.1.length:=by rw[zza]
    refine⟨rfl,Br.di (fun z=>?_) (fun z=>?_)⟩
    ·have ne:c.1≠[]:=by
      intro e
      rw[e]at el z
      simp at z
     have kd:D.tup (cutD (c.1.map D.int) none (some (-1)))=keyD (kI c.1.dropLast):=by rw[AC,←dW];rfl
     refine⟨trivial,embD (eC c0 a.toNat b.toNat),kI c.1.dropLast,rfl,kd,?_,fun p hp=>?_,fun vs=>nA ro ab.a0 ab.a1 (nA ro ab.b0 ab.b1 ⟨rfl,yX ro (by decide) ab.a0 ab.a1 ab.b0 ab.b1 ⟨⟨Ds (dh _ _ _),rfl⟩,?_⟩⟩)⟩
     ·unfold embD
      rw[zza]
      exact zzC (show _ <= 600 by omega) (by decide)
     ·obtain⟨q,hq,rfl⟩:=zze.mp hp
      exact zzC (show q.2.length <= 600 from zzk (kl.2 q hq) (by omega)) (by decide)
     ·rw[vB]
      have es:eC (c0++[c]) a.toNat b.toNat=addD c.1.dropLast (sayR a.toNat b.toNat c.2) (eC c0 a.toNat b.toNat):=by rw[jM,if_neg ne]
      exact hX _ ⟨c0++[c],c1,by simp,by simp,.val (aq c.1),.val (rowD c.2),by rw[es];rfl⟩
    ·have en:c.1=[]:=by
      apply Classical.byContradiction
      intro ne
      have:=List.length_pos_iff.mpr ne
      omega
     have es:eC (c0++[c]) a.toNat b.toNat=eC c0 a.toNat b.toNat:=by rw[jM,if_pos en]
     exact hX _ ⟨c0++[c],c1,by simp,by simp,.val (aq c.1),.val (rowD c.2),by rw[es];rfl⟩
 ·rintro _ ⟨s,t,rfl⟩
  exact h
def fZ(a b:Nat)(r:Row):D:=gu (at_ r a).1 (at_ r a).2 (at_ r b).1 (at_ r b).2
theorem yY{g:DSp}(hg:∀(c d:Int×Int) (Q:D->Prop),Cnt 200 c.1 c.2->Cnt 200 d.1 d.2->Q (gu c.1 c.2 d.1 d.2)->g [bX c,bX d] Q){m:Nat}{t:List Row}(ho:∀r∈t,yM m r)(hl:t.length <= 1000){a b:Int}(a0:0 <= a)(a1:a<m)(b0:0 <= b)(b1:b<m){s:Sl}{Q:List D->Prop}(q:Q (t.map (fZ a.toNat b.toNat))) :
  cF (ge 0) dQ (zY 2 g (jv (dOp gIx (dVar 0) (dVar 1)) (jv (dOp gIx (dVar 0) (dVar 2)) qS))) (t.map rowD) [] [s,.val (.int a),.val (.int b)] Q:=by
 refine br (fun pre acc ρ=>∃t0 t1:List Row,t=t0++t1/\pre=t0.map rowD/\acc=t0.map (fZ a.toNat b.toNat)/\∃s,ρ=[s,.val (.int a),.val (.int b)]) (fun acc ρ hN=>?_) (fun pre d post acc ρ Y e hN hY=>?_) _ ⟨[],t,rfl,rfl,rfl,_,rfl⟩
 ·obtain⟨t0,t1,rfl,e,rfl,_⟩:=hN
  have:t1=[]:=by
   have:=congrArg List.length e
   simp at this
   exact this
  subst this
  simpa using q
 ·obtain⟨t0,t1,rfl,rfl,rfl,s,rfl⟩:=hN
  rw[zzl]at e
  have e:=zzD e
  cases t1 with
  |nil=>simp at e
  |cons r t1 =>
   rw[zzc]at e
   injection e with e1 e2
   subst e1
   have o:=ho r (by simp)
   refine Br.t (nA o a0 a1 (nA o b0 b1 ⟨rfl,hg _ _ _ (jG o (by omega)).2 (jG o (by omega)).2 ⟨?_,hY _ _ ⟨t0++[r],t1,by simp,by simp,by simp[fZ],_,rfl⟩⟩⟩))
   rw[zza]
   have:t0.length <= 1000:=by rw[zzi]at hl;omega
   exact zzC this (by decide)
theorem AD(c d:Int×Int)(Q:D->Prop)(hc:Cnt 200 c.1 c.2)(hd:Cnt 200 d.1 d.2)(q:Q (gu c.1 c.2 d.1 d.2)):tV [bX c,bX d] Q :=
 ⟨⟨hc.bt.mono (by decide),hc.bw.mono (by decide),hd.bt.mono (by decide),hd.bw.mono (by decide)⟩,q⟩
def yZ:DSpN:=fun ds _ L=>match ds with
 |[.lst xs,.int a,.int b]=>∃(n:Nat) (t:List Row),xs=t.map rowD/\Tbl n t/\(0 <= a/\a<n/\0 <= b/\b<n/\a≠b)/\L (t.map (fZ a.toNat b.toNat))
 |_=>False
theorem Dv:rq yZ:=fun ds P P' L L' f fl h=>by
 unfold yZ at h ⊢
 split at h
 ·obtain⟨n,t,a,b,c,h⟩:=h
  exact⟨n,t,a,b,c,fl _ h⟩
 ·exact h.elim
theorem Dw(T:Tx K mg):FnOk P w K mg base CX0 5 T.vR T.qt ["table","a","b"] (spDN K 3 yZ):=by
 refine fnDN (k:=4) T.sF.F Dk (fun cdv A outer s H E hr=>(cY (gc (ai (gw T) gv (rm hr) rfl T.aP.m T.aP.F.kp T.aP.b (aa (ai (nC T) nB (rm hr) rfl T.bT.m T.bT.F.kp T.bT.b (aa (ac 0 (pv 0)) ad)) (aa (ac 1 (pv 1)) (aa (ac 2 (pv 2)) ad)))))
   (tw (PCD.pld (aQ (N':=["part","a","b"]) rfl rfl dk rfl (.own (.cap (j:=1) rfl oo rfl (.cap (j:=2) rfl oo rfl .nil))) dk (ba (ac 0 (pv 0))) (fun B=>(ar (i:=0) ndB rfl oo)) (fun B=>bb) (fun B=>(ai (vt T) vq (rm hr) rfl T.eM.m T.eM.F.kp T.eM.b (aa (aL (ac 0 (pv 0)) (ac 1 (pv 1)) (fun _ _=>rfl)) (aa (aL (ac 0 (pv 0)) (ac 2 (pv 2)) (fun _ _=>rfl)) ad))))))))) (fun ds Q L hl h=>?_)
 unfold yZ at h
 split at h
 case h_2=>exact h.elim
 obtain⟨n,t,rfl,o,⟨a0,a1,b0,b1,ab⟩,h⟩:=h
 refine⟨rfl,oT o ⟨rfl,⟨a0,a1,b0,b1,ab⟩,?_⟩⟩
 exact yY AD o.rows (zzk o.p60 (by decide)) a0 a1 b0 b1 h
def im:D->Bool
 |.non=>true
 |.int i=>i == 0
 |_=>false
def tkT(s:Int)(x:D):D:=if eqD x (.int s)=true then .tup [.str "kept",.int s] else .tup [.str "turned",.int s,x]
def fH(told:List D)(x:D):D :=
 if told.all (isS 1)=true then tkT 1 x else if told.all (isS (-1))=true then tkT (-1) x else
 match told.findIdx? im with
 |some j=>.tup [.str "open",.int j]
 |none=>.tup [.str "apart",.int (told.findIdx (isS 1)),.int (told.findIdx (isS (-1)))]
theorem ic(a b:Nat)(r:Row):fZ a b r=.non∨fZ a b r=.int 1∨fZ a b r=.int (-1)∨fZ a b r=.int 0:=by
 unfold fZ gu
 split
 ·exact .inl rfl
 ·split
  ·exact .inr (.inl rfl)
  ·split
   ·exact .inr (.inr (.inl rfl))
   ·exact .inr (.inr (.inr rfl))
theorem oY(t w t' w':Int):(∃i,gu t w t' w'=.int i)∨gu t w t' w'=.non:=by
 unfold gu
 split
 ·exact .inr rfl
 ·split
  ·exact .inl ⟨_,rfl⟩
  ·split<;>exact .inl ⟨_,rfl⟩
abbrev told(t:List Row)(a b:Nat):List D:=t.map (fZ a b)
theorem nK(t:List Row)(a b:Nat):(told t a b).all mV=true:=by
 rw[zzO]
 intro d hd
 obtain⟨r,_,rfl⟩:=zze.mp hd
 rcases ic a b r with e|e|e|e<;>(rw[e];rfl)
def gTKt:DSp:=fun ds Q=>match ds with
 |[.int s,x]=>((∃i,x=.int i)∨x=.non)/\Q (tkT s x)
 |_=>False
theorem lQ:aY gTKt:=fun ds P P' f h=>by
 unfold gTKt at h ⊢
 split at h
 ·exact⟨h.1,f _ h.2⟩
 ·exact h.elim
theorem qh{x:D}(h:(∃i,x=.int i)∨x=.non):shp x=true:=by
 rcases h with ⟨i,rfl⟩|rfl
 ·exact Shp.shp (n:=0) .int
 ·exact Shp.shp (n:=0) .non
theorem lR(T:Tx K mg):FnOk P w K mg base CX0 1 T.dE T.cV ["number","whole"] (spD K 2 gTKt):=by
 refine fnD (k:=0) T.bH.F kK (fun cdv A outer s H E hr=>(ah (bx (aG (cf hr) (ac 1 (pv 1)) (ac 0 (pv 0)) (aw _)) (ag (ax (aR (aa ip (aa (ac 0 (pv 0)) ad))))) aA)
   (ag (ax (aR (aa ip (aa (ac 0 (pv 0)) (aa (ac 1 (pv 1)) ad)))))))) (fun ds Q hl h=>?_)
 unfold gTKt at h
 split at h
 case h_2=>exact h.elim
 rename_i s x
 obtain⟨hx,h⟩:=h
 unfold tkT at h
 refine⟨⟨qh hx,rfl⟩,fun e=>?_,fun e=>?_⟩
 ·have e:eqD x (.int s)=true:=e
  rw[if_pos e]at h
  exact⟨sz,h⟩
 ·have e:eqD x (.int s)=false:=e
  rw[if_neg (by rw[e];exact zzo)]at h
  exact⟨sz,h⟩
theorem rX{n:Nat}:∀{ns:List Int},(∀i∈ns,Bd n i)->∀{k:Nat},ns.length <= 2^k->Bd (n+k) ns.sum:=by
 have key:∀ns:List Int,(∀i∈ns,Bd n i)->ns.sum.natAbs <= ns.length*(2^n - 1):=by
  intro ns
  induction ns with
  |nil=>intro _;simp
  |cons a r ih =>
   intro h
   have h1:=ih fun i hi=>h i (zzb _ hi)
   have h2:a.natAbs<2^n:=h a zzd
   rw[zzI,zzZ,Nat.succ_mul]
   have:=Int.natAbs_add_le a r.sum
   omega
 intro ns h k hk
 have h1:=key ns h
 unfold Bd
 have h2:ns.length*(2^n - 1) <= 2^k*(2^n - 1):=Nat.mul_le_mul_right _ hk
 have h3:2^k*(2^n - 1)<2^k*2^n:=Nat.mul_lt_mul_of_pos_left (by have:=Nat.two_pow_pos n;omega) (Nat.two_pow_pos k)
 rw[←Nat.pow_add,Nat.add_comm k n]at h3
 omega
theorem rY{m:Nat}{t:List Row}(o:Tbl m t){h:Nat}(hh:h<m):0 <= (sumP (col t h)).2/\(sumP (col t h)).2 <= (sumP (col t h)).1/\Bd 300 (sumP (col t h)).1/\Bd 300 (sumP (col t h)).2:=by
 have hc:∀c∈col t h,Cnt 200 c.1 c.2:=fun c hc=>by
  obtain⟨r,hr,rfl⟩:=zze.mp hc
  exact(jG (o.rows r hr) hh).2
 have hl:(col t h).length <= 2^10:=by
  unfold col
  rw[zza]
  exact zzk o.p60 (by decide)
 have s1:0 <= ((col t h).map (·.2)).sum/\((col t h).map (·.2)).sum <= ((col t h).map (·.1)).sum:=by
  generalize col t h=cs at hc
  induction cs with
  |nil=>simp
  |cons c r ih =>
   have:=ih fun d hd=>hc d (zzb _ hd)
   have h1:=(hc c zzd).lo
   have h2:=(hc c zzd).hi
   simp only[zzc,zzI]
   omega
 refine⟨s1.1,s1.2,(rX (n:=200) (k:=10) (fun i hi=>?_) (by rw[zza];exact hl)).mono (by decide),(rX (n:=200) (k:=10) (fun i hi=>?_) (by rw[zza];exact hl)).mono (by decide)⟩
 ·obtain⟨c,hc',rfl⟩:=zze.mp hi
  exact(hc c hc').bt
 ·obtain⟨c,hc',rfl⟩:=zze.mp hi
  exact(hc c hc').bw
def bd(t:List Row)(a b:Nat):D:=gu (sumP (col t a)).1 (sumP (col t a)).2 (sumP (col t b)).1 (sumP (col t b)).2
theorem qi{m:Nat}{t:List Row}{h:Int}{Q:D->Prop}(h0:0 <= h)(h1:h<m)(q:Q (bX (sumP (col t h.toNat)))):opt (atI ((sums t m).map bX) h) Q:=by
 refine lB h0 ?_ q
 unfold sums
 rw[zzq,zzq,zyL (by omega)]
 rfl
def me:DSp:=fun ds Q=>match ds with
 |[.lst xs,.int a,.int b]=>∃(n:Nat) (t:List Row),xs=t.map rowD/\Tbl n t/\(0 <= a/\a<n/\0 <= b/\b<n/\a≠b)/\Q (fH (told t a.toNat b.toNat) (bd t a.toNat b.toNat))
 |_=>False
theorem rZ:aY me:=fun ds P P' f h=>by
 unfold me at h ⊢
 split at h
 ·obtain⟨n,t,a,b,c,h⟩:=h
  exact⟨n,t,a,b,c,f _ h⟩
 ·exact h.elim
def vD:DSp:=fun ds Q=>match ds with
 |[.lst xs,.int a,.int b]=>∃(n:Nat) (t:List Row),xs=t.map rowD/\Tbl n t/\(0 <= a/\a<n/\0 <= b/\b<n/\a≠b)/\Q (.lst (told t a.toNat b.toNat))
 |_=>False
theorem FM:aY vD:=fun ds P P' f h=>by
 unfold vD at h ⊢
 split at h
 ·obtain⟨n,t,a,b,c,h⟩:=h
  exact⟨n,t,a,b,c,f _ h⟩
 ·exact h.elim
theorem FN(T:Tx K mg):FnOk P w K mg base CX0 5 T.vR T.qt ["table","a","b"] (spD K 3 vD):=DL.FnOk.asD (Dw T) (fun ds Q h=>by
 unfold vD at h
 unfold yZ
 split at h
 ·exact h
 ·exact h.elim) Dv
theorem count_all{ds:List D}{s:Int}:(eqD (.int ((ds.countP fun z=>eqF z (.int s):Nat):Int)) (.int (ds.length:Int))=true)↔ds.all (isS s)=true:=by
 rw[aV,decide_eq_true_eq]
 have h:((ds.countP fun z=>eqF z (.int s):Nat):Int)=(ds.length:Int)↔(ds.countP fun z=>eqF z (.int s))=ds.length:=by omega
 rw[h,List.countP_eq_length,zzO]
 rfl
theorem wH{t:List Row}{a b:Nat}(ho:(told t a b).findIdx? im=none){s:Int}(hs:s=1∨s = -1)(hn:¬(told t a b).all (isS (-s))=true) :
  ∃z,(told t a b)[(told t a b).findIdx (isS s)]? = some z/\isS s z=true:=by
 have hex:∃d∈told t a b,isS s d=true:=by
  rw[zzO]at hn
  have:∃d∈told t a b,¬isS (-s) d=true:=by
   apply Classical.byContradiction
   intro h
   exact hn fun d hd=>Classical.byContradiction fun q=>h ⟨d,hd,q⟩
  obtain⟨d,hd,q⟩:=this
  refine⟨d,hd,?_⟩
  have hop:im d=false:=by
   have:=List.findIdx?_eq_none_iff.mp ho d hd
   simpa using this
  obtain⟨r,_,rfl⟩:=zze.mp hd
  rcases ic a b r with e|e|e|e<;>rw[e]at q hop ⊢
  ·exact absurd hop (by decide)
  ·rcases hs with rfl|rfl
   ·rfl
   ·exact absurd rfl q
  ·rcases hs with rfl|rfl
   ·exact absurd rfl q
   ·rfl
  ·exact absurd hop (by decide)
 have hlt:=List.findIdx_lt_length.mpr hex
 exact⟨(told t a b)[(told t a b).findIdx (isS s)],zzB hlt,List.findIdx_getElem⟩
theorem vE{t:List Row}{a b:Nat}(ho:(told t a b).findIdx? im=none){s:Int}(hs:s=1∨s = -1)(hn:¬(told t a b).all (isS (-s))=true){Q:D->Prop}(q:Q (.int ((told t a b).findIdx (isS s):Nat))) :
  Fo (.lst (told t a b)) (.int s) Q:=by
 refine⟨⟨rfl,nK t a b⟩,(told t a b).findIdx (isS s),⟨wH ho hs hn,fun m z hm hz=>?_⟩,q⟩
 have:=List.not_of_lt_findIdx hm
 have hz':=zzm.mp hz
 obtain⟨hl,e⟩:=hz'
 subst e
 have:isS s (told t a b)[m]=false:=by simpa using this
 exact this
theorem se(T:Tx K mg):FnOk P w K mg base CX0 6 T.oh T.lc ["table","a","b"] (spD K 3 me):=by
 refine fnD (k:=5) T.du.F sc_turning (fun cdv A outer s H E hr=>(ah (aM (i:=3) sc_turning.nd rfl oo (ai (FN T) FM (rm hr) rfl T.sF.m T.sF.F.kp T.sF.b (aa (ac 0 (pv 0)) (aa (ac 1 (pv 1)) (aa (ac 2 (pv 2)) ad)))))
   (ah (aM (i:=4) sc_turning.nd rfl oo (ai (yO T) yN (rm hr) rfl T.gJ.m T.gJ.F.kp T.gJ.b (aa (ac 0 (pv 0)) ad)))
   (aZ (bE PassesOwn.never rfl (iq (aR (aa af (aa (mP gh af) ad)))) (ar (i:=5) sc_turning.nd rfl oo) (ag (bx (aG (cf hr) (pP jA (ac 3 (pv 3)) (ac 5 (pv 5))) (au bF rfl T.cD zzE (aa (ac 3 (pv 3)) ad)) (aw _)) (ag (ax (ai (lR T) lQ (rm hr) rfl T.bH.m T.bH.F.kp T.bH.b (aa (ac 5 (pv 5)) (aa (ai (vt T) vq (rm hr) rfl T.eM.m T.eM.F.kp T.eM.b (aa (aL (ac 4 (pv 4)) (ac 1 (pv 1)) (fun _ _=>rfl)) (aa (aL (ac 4 (pv 4)) (ac 2 (pv 2)) (fun _ _=>rfl)) ad))) ad))))) aA)))
   (aZ (bE PassesOwn.never rfl (tt rfl T.fU (aa (ac 3 (pv 3)) ad)) (lA (n:=2) rfl (aX (ar (i:=6) sc_turning.nd rfl oo) (aX (ar (i:=5) sc_turning.nd rfl oo) gf))) (ag (bx (PWD.pt (lN (aG Bl (ac 5 (pv 5)) uJ (aw _)) (fY (aG (cf hr) (ac 5 (pv 5)) af (aw _))))) (ag (ax (aR (aa ip (aa (ac 6 (pv 6)) ad))))) aA)))
   (ag (ax (aR (aa ip (aa (pP lX (ac 3 (pv 3)) af) (aa (pP lX (ac 3 (pv 3)) (mP gh af)) ad))))))))))) (fun ds Q hl h=>?_)
 unfold me at h
 split at h
 case h_2=>exact h.elim
 rename_i a b
 obtain⟨n,t,rfl,o,ab,h⟩:=h
 have a0:=ab.1
 have a1:=ab.2.1
 have b0:=ab.2.2.1
 have b1:=ab.2.2.2.1
 have wa:=rY o (h:=a.toNat) (by omega)
 have wb:=rY o (h:=b.toNat) (by omega)
 have tf:=nK t a.toNat b.toNat
 have sw:=oY (sumP (col t a.toNat)).1 (sumP (col t a.toNat)).2 (sumP (col t b.toNat)).1 (sumP (col t b.toNat)).2
 refine⟨rfl,n,t,rfl,o,ab,rfl,n,t,rfl,o,?_⟩
 refine⟨fun ρ=>(¬(told t a.toNat b.toNat).all (isS 1)=true/\¬(told t a.toNat b.toNat).all (isS (-1))=true)/\∃s5 s6:Sl,ρ=[.val (.lst (t.map rowD)),.val (.int a),.val (.int b),.val (.lst (told t a.toNat b.toNat)),.val (rowD (sums t n)),s5,s6],?_,?_⟩
 ·have bs:∀{c:Int×Int},(0 <= c.2/\c.2 <= c.1/\Bd 300 c.1/\Bd 300 c.2)->Bd 7000 c.1/\Bd 7000 c.2:=fun h=>⟨h.2.2.1.mono (by decide),h.2.2.2.mono (by decide)⟩
  have sd:∀{Q:D->Prop},Q (bd t a.toNat b.toNat)->tV [bX (sumP (col t a.toNat)),bX (sumP (col t b.toNat))] Q:=fun q=>⟨⟨(bs wa).1,(bs wa).2,(bs wb).1,(bs wb).2⟩,q⟩
  refine⟨sz,trivial,⟨rfl,tf⟩,⟨rfl,rfl⟩,fun z=>?_,fun z=>⟨trivial,⟨rfl,tf⟩,⟨rfl,rfl⟩,fun z'=>?_,fun z'=>?_⟩⟩
  ·have z:=count_all.mp z
   have e:fH (told t a.toNat b.toNat) (bd t a.toNat b.toNat)=tkT 1 (bd t a.toNat b.toNat):=by unfold fH;rw[if_pos z]
   rw[e]at h
   exact qi a0 a1 (qi b0 b1 ⟨rfl,sd ⟨rfl,sw,h⟩⟩)
  ·have z':=count_all.mp z'
   have z:¬(told t a.toNat b.toNat).all (isS 1)=true:=fun q=>by rw[count_all.mpr q]at z;cases z
   have e:fH (told t a.toNat b.toNat) (bd t a.toNat b.toNat)=tkT (-1) (bd t a.toNat b.toNat):=by unfold fH;rw[if_neg z,if_pos z']
   rw[e]at h
   exact qi a0 a1 (qi b0 b1 ⟨rfl,sd ⟨rfl,sw,h⟩⟩)
  ·have z:¬(told t a.toNat b.toNat).all (isS 1)=true:=fun q=>by rw[count_all.mpr q]at z;cases z
   have z':¬(told t a.toNat b.toNat).all (isS (-1))=true:=fun q=>by rw[count_all.mpr q]at z';cases z'
   exact⟨⟨z,z'⟩,_,_,rfl⟩
 ·rintro _ ⟨⟨n1,n2⟩,s5,s6,rfl⟩
  refine⟨fun ρ=>(told t a.toNat b.toNat).findIdx? im=none/\∃s5 s6:Sl,ρ=[.val (.lst (t.map rowD)),.val (.int a),.val (.int b),.val (.lst (told t a.toNat b.toNat)),.val (rowD (sums t n)),s5,s6],?_,?_⟩
  ·refine kr (fun i ρ=>(∀m z,m<i->(told t a.toNat b.toNat)[m]? = some z->im z=false)/\∃s5 s6:Sl,ρ=[.val (.lst (t.map rowD)),.val (.int a),.val (.int b),.val (.lst (told t a.toNat b.toNat)),.val (rowD (sums t n)),s5,s6]) ?_ ?_ _ ⟨fun m z hm=>absurd hm (zyq _),_,_,rfl⟩
   ·rintro ρ ⟨hn,hr⟩
    refine⟨?_,hr⟩
    rw[List.findIdx?_eq_none_iff]
    intro d hd
    obtain⟨m,hm,e⟩:=List.mem_iff_getElem.mp hd
    exact hn m d hm (by rw[←e];exact zzB hm)
   ·rintro i d ρ X hd ⟨hn,s5,s6,rfl⟩ hX
    have ret:im d=true->Q (.tup [.str "open",.int i]):=fun od=>by
     have hf:(told t a.toNat b.toNat).findIdx? im=some i:=by
      rw[List.findIdx?_eq_some_iff_getElem]
      obtain⟨hl,e⟩:=zzm.mp hd
      refine⟨hl,by rw[e];exact od,fun j hj=>?_⟩
      have:=hn j ((told t a.toNat b.toNat)[j]'(Nat.lt_trans hj hl)) hj (zzB _)
      rw[this];exact zzo
     unfold fH at h
     rw[if_neg n1,if_neg n2,hf]at h
     exact h
    have nx:im d=false->∀m z,m<i+1->(told t a.toNat b.toNat)[m]? = some z->im z=false:=fun od m z hm hz=>by
     by_cases e:m=i
     ·subst e;rw[hd]at hz;cases hz;exact od
     ·exact hn m z (by omega) hz
    obtain⟨r,_,rfl⟩:=zze.mp (zzM hd)
    rcases ic a.toNat b.toNat r with e|e|e|e<;>rw[e]at ret nx ⊢
    ·exact⟨rfl,Br.t (Br.t ⟨sz,ret rfl⟩)⟩
    ·exact⟨rfl,Br.f ⟨⟨rfl,rfl⟩,Br.f (hX _ ⟨nx rfl,_,_,rfl⟩)⟩⟩
    ·exact⟨rfl,Br.f ⟨⟨rfl,rfl⟩,Br.f (hX _ ⟨nx rfl,_,_,rfl⟩)⟩⟩
    ·exact⟨rfl,Br.f ⟨⟨rfl,rfl⟩,Br.t ⟨sz,ret rfl⟩⟩⟩
  ·rintro _ ⟨hf,s5,s6,rfl⟩
   unfold fH at h
   rw[if_neg n1,if_neg n2,hf]at h
   refine⟨trivial,vE hf (.inl rfl) n2 ⟨trivial,?_⟩⟩
   obtain⟨i1,j,i2,i3⟩:=vE (Q:=fun d=>d=.int ((told t a.toNat b.toNat).findIdx (isS (-1)):Nat)) hf (.inr rfl) n1 rfl
   injection i3 with i3
   have i3:j=(told t a.toNat b.toNat).findIdx (isS (-1)):=by omega
   subst i3
   exact⟨i1,_,i2,sz,h⟩
theorem AE(x y:D)(xs ys:List D):eqD (.tup (x::xs)) (.tup (y::ys))=(eqD x y && eqD (.tup xs) (.tup ys)):=rfl
theorem vF:∀a b:List Int,eqD (aq a) (aq b)=decide (a=b)
 |[],[]=>rfl
 |[],_::_=>by
  rw[decide_eq_false (by simp)]
  rfl
 |_::_,[]=>by
  rw[decide_eq_false (by simp)]
  rfl
 |x::xs,y::ys=>by
  have ih:=vF xs ys
  unfold aq at ih ⊢
  rw[zzc,zzc,AE,ih,aV]
  by_cases h:x=y<;>by_cases h':xs=ys<;>simp[h,h']
theorem za(ys:List D):eqD (.lst ys) (.lst [])=ys.isEmpty:=by cases ys<;>rfl
def okT(ws:List D)(d:D)(s:Int):Bool:=!ws.isEmpty && (ws.all (isS s) && !isS s d)
def oneT(ws:List D)(d:D)(v:List Int)(s:Int):List (List Int×Int):=if okT ws d s=true then[(v,s)] else[]
def tuOf(cs:List (List Int×Row))(a b:Nat)(c:List Int×Row):List (List Int×Int):=([1,-1]:List Int).flatMap (oneT (bu cs a b c.1) (sayR a b c.2) c.1)
def dX(cs:List (List Int×Row))(a b:Nat):List (List Int×Int):=cs.flatMap (tuOf cs a b)
def tkD(p:List Int×Int):D:=.tup [aq p.1,.int p.2]
theorem nL{ds:List D}{s:Int}:eqD (.int ((ds.countP fun z=>eqF z (.int s):Nat):Int)) (.int (ds.length:Int))=ds.all (isS s):=by
 rw[aV]
 have h:(((ds.countP fun z=>eqF z (.int s):Nat):Int)=(ds.length:Int))↔ds.all (isS s)=true:=by
  have h:((ds.countP fun z=>eqF z (.int s):Nat):Int)=(ds.length:Int)↔(ds.countP fun z=>eqF z (.int s))=ds.length:=by omega
  rw[h,List.countP_eq_length,zzO]
  rfl
 cases e:ds.all (isS s) with
 |true=>exact decide_eq_true (h.mpr e)
 |false=>exact decide_eq_false fun z=>by rw[h.mp z]at e;cases e
theorem FO(cs:List (List Int×Row))(a b:Nat)(c:List Int×Row):(tuOf cs a b c).length <= 2:=by
 have:∀s,(oneT (bu cs a b c.1) (sayR a b c.2) c.1 s).length <= 1:=fun s=>by unfold oneT;split<;>simp
 show (oneT _ _ _ 1++(oneT _ _ _ (-1)++[])).length <= 2
 have h1:=this 1
 have h2:=this (-1)
 simp only[zzi,List.length_nil]
 omega
theorem nM(cs c0:List (List Int×Row))(a b:Nat):(c0.flatMap (tuOf cs a b)).length <= 2*c0.length:=by
 induction c0 with
 |nil=>simp
 |cons c t ih =>
  rw[List.flatMap_cons,zzi,zzZ]
  have:=FO cs a b c
  omega
theorem BI{m:Nat}{rows:List Row}(ho:∀r∈rows,RowN 110 m r)(hl:rows.length <= 60):RowN 200 m (sums rows m):=by
 refine⟨by unfold sums;simp,fun c hc=>?_⟩
 obtain⟨h,hh,rfl⟩:=zze.mp hc
 have hh:=zzR.mp hh
 have cn:∀x∈col rows h,Cnt 110 x.1 x.2:=fun x hx=>by
  obtain⟨r,hr,rfl⟩:=zze.mp hx
  exact(jG (ho r hr) hh).2
 have cl:(col rows h).length <= 2^10:=by unfold col;rw[zza];exact zzk hl (by decide)
 have s1:0 <= ((col rows h).map (·.2)).sum/\((col rows h).map (·.2)).sum <= ((col rows h).map (·.1)).sum:=by
  generalize col rows h=cs at cn
  induction cs with
  |nil=>simp
  |cons c r ih =>
   have:=ih fun d hd=>cn d (zzb _ hd)
   have h1:=(cn c zzd).lo
   have h2:=(cn c zzd).hi
   simp only[zzc,zzI]
   omega
 refine⟨s1.1,s1.2,(rX (n:=110) (k:=10) (fun i hi=>?_) (by rw[zza];exact cl)).mono (by decide),(rX (n:=110) (k:=10) (fun i hi=>?_) (by rw[zza];exact cl)).mono (by decide)⟩
 ·obtain⟨c,hc',rfl⟩:=zze.mp hi
  exact(cn c hc').bt
 ·obtain⟨c,hc',rfl⟩:=zze.mp hi
  exact(cn c hc').bw
theorem AF{b:Bk}(bo:BkOk b){so:List Int}(o:SoOk b so):CsOk b.m (aC b so (so.length+1)):=by
 refine⟨fun c hc=>?_,?_⟩
 ·unfold aC at hc
  obtain⟨l,_,hc⟩:=List.mem_flatMap.mp hc
  have go:=oU (C:=fun _=>True) (R:=fun r=>RowN 110 b.m r) (b.cells.map fun c=>(vals c.1 (so.take l),c.2)) fun p hp=>by
   obtain⟨c,h1,rfl⟩:=zze.mp hp
   exact⟨trivial,(bo.it c h1).2.1⟩
  unfold aJ aO at hc
  obtain⟨k,hk,rfl⟩:=zze.mp hc
  obtain⟨p,hp,_,h3,_⟩:=tW ((aB _).mem_iff.mp hk)
  show RowN 200 b.m (sums (bK _ k) b.m)
  rw[h3]
  have:=(go.it p hp).2.2.1
  rw[zza]at this
  exact BI (go.it p hp).2.2.2 (zzk this bo.c60)
 ·have:=gx bo (so:=so) (so.length+1)
  have:=o.len
  omega
def gTK:DSpN:=fun ds _ L=>∃(b:Bk) (so:List Int) (x y:Int),ds=[ck b,aq so,.int x,.int y]/\BkOk b/\SoOk b so/\AbOk b.m x y/\L ((dX (aC b so (so.length+1)) x.toNat y.toNat).map tkD)
theorem nO:rq gTK:=fun ds P P' L L' f fl ⟨b,so,x,y,h1,h2,h3,h4,h⟩=>⟨b,so,x,y,h1,h2,h3,h4,fl _ h⟩
theorem nP(T:Tx K mg):FnOk P w K mg base CX0 7 T.cZ T.cM ["book","order","a","b"] (spDN K 4 gTK):=by
 refine fnDN (k:=6) T.aT.F sc_turned_knots (fun cdv A outer s H E hr=>(cY (gc (ai (gw T) gv (rm hr) rfl T.aP.m T.aP.F.kp T.aP.b (aa (aL (ac 0 (pv 0)) af (fun _ _=>rfl)) (aa (ac 2 (pv 2)) (aa (ac 3 (pv 3)) ad)))))
   (cY (aM (i:=4) sc_turned_knots.nd rfl oo (ai (Dr T) Dq (rm hr) rfl T.og.m T.og.F.kp T.og.b (aa (ac 0 (pv 0)) (aa (ac 1 (pv 1)) ad))))
   (cY (aM (i:=5) sc_turned_knots.nd rfl oo (ai (oF T) oE (rm hr) rfl T.cq.m T.cq.F.kp T.cq.b (aa (ac 4 (pv 4)) (aa (ac 2 (pv 2)) (aa (ac 3 (pv 3)) ad)))))
   (cY (jw (i:=6) sc_turned_knots.nd rfl oo (bD ad))
   (tD (bE PassesOwn.never rfl (ba (ac 4 (pv 4))) (lA (n:=2) rfl (aX (ar (i:=7) sc_turned_knots.nd rfl oo) (aX (ar (i:=8) sc_turned_knots.nd rfl oo) gf))) (ah (aM (i:=9) sc_turned_knots.nd rfl oo (CW hr (ac 5 (pv 5)) (ac 7 (pv 7)) (aN (bD ad))))
   (ag (bE PassesOwn.never rfl (iq (aR (aa af (aa (mP gh af) ad)))) (ar (i:=10) sc_turned_knots.nd rfl oo) (ah (aM (i:=11) sc_turned_knots.nd rfl oo (oK (dO lO (au bF rfl T.cD zzE (aa (ac 9 (pv 9)) ad)) af (aw _)) (oJ (dO (cf hr) (pP jA (ac 9 (pv 9)) (ac 10 (pv 10))) (au bF rfl T.cD zzE (aa (ac 9 (pv 9)) ad)) (aw _)))))
   (ag (bx (PWD.pt (oI (cE (ac 11 (pv 11))) (mO (aG (lP hr) (ai (vt T) vq (rm hr) rfl T.eM.m T.eM.F.kp T.eM.b (aa (aL (ac 8 (pv 8)) (ac 2 (pv 2)) (fun _ _=>rfl)) (aa (aL (ac 8 (pv 8)) (ac 3 (pv 3)) (fun _ _=>rfl)) ad))) (ac 10 (pv 10)) (aw _))))) (ag (qY (pv 6) (aR (aa (ac 7 (pv 7)) (aa (ac 10 (pv 10)) ad))))) aA)))))))
   (ya (pv 6)))))))) (fun ds Q L hl h=>?_)
 obtain⟨b,so,x,y,rfl,bo,o,ab,h⟩:=h
 have co:=AF bo o
 have c6:=co.len
 obtain⟨cs,hcs⟩:∃cs,cs=aC b so (so.length+1):=⟨_,rfl⟩
 refine⟨rfl,⟨ab.a0,ab.a1,ab.b0,ab.b1,ab.ne⟩,rfl,b,so,rfl,bo,o,?_⟩
 rw[←hcs]at co c6 h ⊢
 refine⟨rfl,b.m,cs,x,y,rfl,co,ab,sz,?_⟩
 refine⟨fun ρ=>∃s1 s2 s3 s4 s5:Sl,ρ=[.val (ck b),.val (aq so),.val (.int x),.val (.int y),.val (.lst (cs.map cj)),.val (fzO (dlO (embD (eC cs x.toNat y.toNat)))),.own ((dX cs x.toNat y.toNat).map tkD),s1,s2,s3,s4,s5],?_,?_⟩
 ·refine bO (fun pre ρ=>∃c0 c1:List (List Int×Row),cs=c0++c1/\pre=c0.map cj/\∃s1 s2 s3 s4 s5:Sl,ρ=[.val (ck b),.val (aq so),.val (.int x),.val (.int y),.val (.lst (cs.map cj)),.val (fzO (dlO (embD (eC cs x.toNat y.toNat)))),.own ((c0.flatMap (tuOf cs x.toNat y.toNat)).map tkD),s1,s2,s3,s4,s5]) (fun ρ hN=>?_) (fun pre d post ρ X e hN hX=>?_) _ ⟨[],cs,rfl,rfl,_,_,_,_,_,rfl⟩
  ·obtain⟨c0,c1,e3,e,s1,s2,s3,s4,s5,rfl⟩:=hN
   have:c1=[]:=by
    have:=congrArg List.length e
    rw[e3]at this
    simp at this
    exact this
   subst this
   rw[zzy]at e3
   subst e3
   exact⟨s1,s2,s3,s4,s5,rfl⟩
  ·obtain⟨c0,c1,e3,rfl,s1,s2,s3,s4,s5,rfl⟩:=hN
   rw[e3,zzl]at e
   have e:=zzD e
   cases c1 with
   |nil=>simp at e
   |cons c c1 =>
    rw[zzc]at e
    injection e with e1 e2
    subst e1
    have ro:=co.rows c (by rw[e3];simp)
    have cl:c0.length <= 600:=by rw[e3,zzi]at c6;omega
    refine⟨rfl,trivial,sz,wF (eC cs x.toNat y.toNat),kI c.1,FL _,dW _,?_⟩
    rw[wG,Du]
    have wf:=wE (cs:=cs) (a:=x.toNat) (b:=y.toNat) (v:=c.1)
    have wl:=yW (cs:=cs) (a:=x.toNat) (b:=y.toNat) (v:=c.1)
    have tl:=nM cs c0 x.toNat y.toNat
    obtain⟨ws,hws⟩:∃ws,ws=bu cs x.toNat y.toNat c.1:=⟨_,rfl⟩
    rw[←hws]at wf wl ⊢
    refine⟨sz,?_⟩
    show iz _ _ (([1,-1]:List Int).map D.int) _ _
    refine bO (fun pre ρ=>∃t0 t1:List Int,([1,-1]:List Int)=t0++t1/\pre=t0.map D.int/\∃s4 s5:Sl,ρ=[.val (ck b),.val (aq so),.val (.int x),.val (.int y),.val (.lst (cs.map cj)),.val (fzO (dlO (embD (eC cs x.toNat y.toNat)))),.own ((c0.flatMap (tuOf cs x.toNat y.toNat)++t0.flatMap (oneT ws (sayR x.toNat y.toNat c.2) c.1)).map tkD),.val (aq c.1),.val (rowD c.2),.val (.lst ws),s4,s5]) (fun ρ hN=>?_) (fun pre d post ρ Z e hN hZ=>?_) _ ⟨[],[1,-1],rfl,rfl,_,_,by rw[List.flatMap_nil,zzy];rfl⟩
    ·obtain⟨t0,t1,e5,e6,s4,s5,rfl⟩:=hN
     have:t1=[]:=by
      have:=congrArg List.length e6
      rw[e5]at this
      simp at this
      exact this
     subst this
     rw[zzy]at e5
     refine hX _ ⟨c0++[c],c1,by rw[e3];simp,by simp,.val (aq c.1),.val (rowD c.2),.val (.lst ws),s4,s5,?_⟩
     rw[zye,zyj,←e5,hws]
     rfl
    ·obtain⟨t0,t1,e5,rfl,s4,s5,rfl⟩:=hN
     rw[e5,zzl]at e
     have e:=zzD e
     cases t1 with
     |nil=>simp at e
     |cons s t1 =>
      rw[zzc]at e
      injection e with e7 e8
      subst e7
      have t2:t0.length <= 2:=by have:=congrArg List.length e5;simp at this;omega
      have hol:(t0.flatMap (oneT ws (sayR x.toNat y.toNat c.2) c.1)).length <= t0.length:=by
       clear e5 e hZ t2
       induction t0 with
       |nil=>simp
       |cons u t ih =>
        rw[List.flatMap_cons,zzi,zzZ]
        have:(oneT ws (sayR x.toNat y.toNat c.2) c.1 u).length <= 1:=by unfold oneT;split<;>simp
        omega
      have hlen:((c0.flatMap (tuOf cs x.toNat y.toNat)++t0.flatMap (oneT ws (sayR x.toNat y.toNat c.2) c.1)).map tkD).length<sizeLine:=by
       rw[zza,zzi]
       exact zzC (show _ <= 2000 by omega) (by decide)
      have hT:okT ws (sayR x.toNat y.toNat c.2) s=true->∀u v:Sl,Z [.val (ck b),.val (aq so),.val (.int x),.val (.int y),.val (.lst (cs.map cj)),.val (fzO (dlO (embD (eC cs x.toNat y.toNat)))),.own ((c0.flatMap (tuOf cs x.toNat y.toNat)++t0.flatMap (oneT ws (sayR x.toNat y.toNat c.2) c.1)).map tkD++[tkD (c.1,s)]),.val (aq c.1),.val (rowD c.2),.val (.lst ws),u,v]:=fun ok u v=>by
       refine hZ _ ⟨t0++[s],t1,by rw[e5];simp,by simp,u,v,?_⟩
       have:oneT ws (sayR x.toNat y.toNat c.2) c.1 s=[(c.1,s)]:=by unfold oneT;rw[if_pos ok]
       rw[zye,zyj,this,←zym]
       simp only[zzl]
       rfl
      have hF:okT ws (sayR x.toNat y.toNat c.2) s=false->∀u v:Sl,Z [.val (ck b),.val (aq so),.val (.int x),.val (.int y),.val (.lst (cs.map cj)),.val (fzO (dlO (embD (eC cs x.toNat y.toNat)))),.own ((c0.flatMap (tuOf cs x.toNat y.toNat)++t0.flatMap (oneT ws (sayR x.toNat y.toNat c.2) c.1)).map tkD),.val (aq c.1),.val (rowD c.2),.val (.lst ws),u,v]:=fun ok u v=>by
       refine hZ _ ⟨t0++[s],t1,by rw[e5];simp,by simp,u,v,?_⟩
       rw[zye,zyj]
       have:oneT ws (sayR x.toNat y.toNat c.2) c.1 s=[]:=by unfold oneT;rw[if_neg (by rw[ok];exact zzo)]
       rw[this,zzy]
      refine Br.di (fun z=>?_) (fun z=>?_)
      ·have ne:ws.isEmpty=false:=by
        cases ws with
        |nil=>simp at z
        |cons _ _=>rfl
       have fa:ws.all mV=true:=zzO.mpr fun d hd=>nI (wf d hd)
       refine⟨trivial,⟨rfl,fa⟩,⟨rfl,rfl⟩,fun hc=>?_,fun hc=>?_⟩
       ·have hc:ws.all (isS s)=true:=by rw[←nL];exact hc
        refine nA ro ab.a0 ab.a1 (nA ro ab.b0 ab.b1 ⟨rfl,yX ro (by decide) ab.a0 ab.a1 ab.b0 ab.b1 ⟨⟨qg (dh _ _ _),rfl⟩,fun hd=>?_,fun hd=>?_⟩⟩)
        ·have hd:(!eqD (sayR x.toNat y.toNat c.2) (.int s))=true:=hd
         rw[nJ (dh _ _ _)]at hd
         exact⟨trivial,sz,hlen,hT (by unfold okT;rw[ne,hc,hd];rfl) _ _⟩
        ·have hd:(!eqD (sayR x.toNat y.toNat c.2) (.int s))=false:=hd
         rw[nJ (dh _ _ _)]at hd
         exact hF (by unfold okT;rw[ne,hc,hd];rfl) _ _
       ·have hc:ws.all (isS s)=false:=by rw[←nL];exact hc
        exact Br.f (hF (by unfold okT;rw[ne,hc];rfl) _ _)
      ·have em:ws.isEmpty=true:=by
        cases ws with
        |nil=>rfl
        |cons _ _=>simp at z
       exact Br.f (Br.f (hF (by unfold okT;rw[em];rfl) _ _))
 ·rintro _ ⟨s1,s2,s3,s4,s5,rfl⟩
  exact h
def gTKD:DSp:=fun ds Q=>∃(b:Bk) (so:List Int) (x y:Int),ds=[ck b,aq so,.int x,.int y]/\BkOk b/\SoOk b so/\AbOk b.m x y/\Q (.lst ((dX (aC b so (so.length+1)) x.toNat y.toNat).map tkD))
theorem ir:aY gTKD:=fun ds P P' f ⟨b,so,x,y,h1,h2,h3,h4,h⟩=>⟨b,so,x,y,h1,h2,h3,h4,f _ h⟩
theorem iu(T:Tx K mg):FnOk P w K mg base CX0 7 T.cZ T.cM ["book","order","a","b"] (spD K 4 gTKD):=DL.FnOk.asD (nP T) (fun ds Q h=>h) nO
theorem kQ(m:Nat)(ps:List (List Int×Row)):(aO m ps).map (·.1)=cH ((grp ps).map (·.1)):=by
 unfold aO
 rw[zzg]
 exact List.map_id _
theorem mf(m:Nat)(ps:List (List Int×Row)):((aO m ps).map (·.1)).Pairwise fun a b=>ltI a b=true:=by
 rw[kQ]
 exact qd (vx _)
theorem parts_mem{m:Nat}{ps:List (List Int×Row)}{k:List Int}:k∈(aO m ps).map (·.1)↔k∈ps.map (·.1):=by
 rw[kQ,(aB _).mem_iff,qe]
theorem nQ{m:Nat}{ps:List (List Int×Row)}{c:List Int×Row}(h:c∈aO m ps):c.2=sums ((ps.filter fun p=>decide (p.1=c.1)).map (·.2)) m:=by
 unfold aO at h
 obtain⟨k,_,rfl⟩:=zze.mp h
 show sums (bK (grp ps) k) m=_
 rw[kP]
theorem jN(m:Nat)(ps:List (List Int×Row)):aO m ps=((aO m ps).map (·.1)).map fun k=>(k,sums ((ps.filter fun p=>decide (p.1=k)).map (·.2)) m):=by
 rw[zzg]
 conv=>lhs;rw[←List.map_id (aO m ps)]
 apply zzv
 intro c hc
 show c=(c.1,_)
 rw[←nQ hc]
theorem AG(m:Nat)(ps:List (List Int×Row)):((aO m ps).map (·.1)).Nodup:=by
 rw[kQ]
 exact(aB _).nodup_iff.mpr (vx _)
theorem sf(m:Nat)(q:List Int->Bool)(ps:List (List Int×Row)):aO m (ps.filter fun p=>q p.1)=(aO m ps).filter fun c=>q c.1:=by
 have ek:(aO m (ps.filter fun p=>q p.1)).map (·.1)=((aO m ps).map (·.1)).filter q:=by
  refine Av (mf _ _) ((mf m ps).sublist List.filter_sublist) fun k=>?_
  rw[parts_mem,zzp,parts_mem,zze,zze]
  constructor
  ·rintro⟨p,hp,rfl⟩
   have hp:=zzp.mp hp
   exact⟨⟨p,hp.1,rfl⟩,hp.2⟩
  ·rintro⟨⟨p,hp,rfl⟩,hq⟩
   exact⟨p,zzp.mpr ⟨hp,hq⟩,rfl⟩
 obtain⟨Ks,hK⟩:∃Ks,Ks=(aO m ps).map (·.1):=⟨_,rfl⟩
 rw[←hK]at ek
 rw[jN m (ps.filter fun p=>q p.1),ek,jN m ps,←hK,zyG]
 apply zzv
 intro k hk
 have hk:=(zzp.mp hk).2
 show (k,_)=(k,_)
 rw[List.filter_filter]
 have:(ps.filter fun p=>decide (p.1=k) && q p.1)=ps.filter fun p=>decide (p.1=k):=by
  apply List.filter_congr
  intro p _
  by_cases z:p.1=k
  ·rw[z,hk,Bool.and_true]
  ·rw[decide_eq_false z];rfl
 rw[this]
theorem sg(m:Nat)(f:List Int->List Int)(inj:∀a b,f a=f b->a=b)(up:∀a b,ltI a b=true->ltI (f a) (f b)=true)(ps:List (List Int×Row)):aO m (ps.map fun p=>(f p.1,p.2))=(aO m ps).map fun c=>(f c.1,c.2):=by
 have ek:(aO m (ps.map fun p=>(f p.1,p.2))).map (·.1)=((aO m ps).map (·.1)).map f:=by
  refine Av (mf _ _) ?_ fun k=>?_
  ·rw[List.pairwise_map]
   exact(mf m ps).imp fun {a b} h=>up a b h
  ·rw[parts_mem,zzg,zze,zze]
   constructor
   ·rintro⟨p,hp,rfl⟩
    exact⟨p.1,parts_mem.mpr (zze.mpr ⟨p,hp,rfl⟩),rfl⟩
   ·rintro⟨k0,hk0,rfl⟩
    obtain⟨p,hp,rfl⟩:=zze.mp (parts_mem.mp hk0)
    exact⟨p,hp,rfl⟩
 obtain⟨Ks,hK⟩:∃Ks,Ks=(aO m ps).map (·.1):=⟨_,rfl⟩
 rw[←hK]at ek
 rw[jN m (ps.map fun p=>(f p.1,p.2)),ek,jN m ps,←hK,zzg,zzg]
 apply zzv
 intro k _
 show (f k,_)=(f k,_)
 rw[zyG,zzg]
 have:(ps.filter ((fun p=>decide (p.1=f k)) ∘ fun p=>(f p.1,p.2)))=ps.filter fun p=>decide (p.1=k):=by
  apply List.filter_congr
  intro p _
  show decide (f p.1=f k)=decide (p.1=k)
  by_cases z:p.1=k
  ·rw[z,decide_eq_true rfl,decide_eq_true rfl]
  ·rw[decide_eq_false z,decide_eq_false fun y=>z (inj _ _ y)]
 rw[this]
 rfl
theorem BJ:∀(v a b:List Int),ltI a b=true->ltI (v++a) (v++b)=true
 |[],_,_,h=>h
 |x::v,a,b,h=>by
  show (if x=x then ltI (v++a) (v++b) else decide (x<x))=true
  rw[if_pos rfl]
  exact BJ v a b h
def wI(b:Bk)(so:List Int)(l:Nat)(v:List Int):List (List Int×Row):=aO b.m ((b.cells.filter fun c=>decide (vals c.1 (so.take l)=v)).map fun c=>(vals c.1 [so.getD l 0],c.2))
theorem mh(ks so:List Int):(vals ks so).length=so.length:=by unfold vals;simp
theorem vG(ks a b:List Int):vals ks (a++b)=vals ks a++vals ks b:=by unfold vals;simp
theorem si{so:List Int}{l:Nat}(h:l<so.length):so.take (l+1)=so.take l++[so.getD l 0]:=by
 rw[List.take_succ_eq_append_getElem h,zzF,zzB h]
 rfl
theorem Dx{b:Bk}{so:List Int}{l:Nat}(hl:l<so.length){v:List Int}(hv:v.length=l):(aJ b (so.take (l+1))).filter (fun c=>fG v c.1)=(wI b so l v).map fun c=>(v++c.1,c.2):=by
 unfold aJ wI
 rw[←sf,←sg b.m (fun k=>v++k) (fun a b h=>zzD h) (BJ v)]
 congr 1
 rw[zyG,zzg]
 have e1:(b.cells.filter ((fun p=>fG v p.1) ∘ fun c=>(vals c.1 (so.take (l+1)),c.2)))=b.cells.filter fun c=>decide (vals c.1 (so.take l)=v):=by
  apply List.filter_congr
  intro c _
  show fG v (vals c.1 (so.take (l+1)))=_
  have t1:(vals c.1 (so.take l)).length=l:=by rw[mh,zyd];omega
  unfold fG
  rw[si hl,vG,zzi,t1,decide_eq_true (by rw[mh];simp[hv]),Bool.true_and,hv,List.take_append_of_le_length (by omega),List.take_of_length_le (by omega)]
 rw[e1]
 apply zzv
 intro c hc
 have hc:vals c.1 (so.take l)=v:=of_decide_eq_true (zzp.mp hc).2
 show (vals c.1 (so.take (l+1)),c.2)=(v++vals c.1 [so.getD l 0],c.2)
 rw[si hl,vG,hc]
theorem eI{α:Type}(p:α->Bool)(F:α->Int):∀l:List α,((l.filter p).map F).sum=(l.map fun x=>if p x=true then F x else 0).sum
 |[]=>rfl
 |x::l=>by
  rw[zzc,zzI,←eI p F l,List.filter_cons]
  split<;>simp
theorem jO{α:Type}{F:α->Int}:∀{l:List α},(∀x∈l,F x=0)->(l.map F).sum=0
 |[],_=>rfl
 |x::l,h=>by
  rw[zzc,zzI,h x zzd,jO fun y hy=>h y (zzb _ hy)]
  rfl
theorem uf{v:Int}{k:List Int}:∀{K:List (List Int)},K.Nodup->k∈K->(K.map fun x=>if k=x then v else 0).sum=v
 |[],_,h=>by simp at h
 |x::K,nd,h=>by
  have nd:=zzL.mp nd
  rw[zzc,zzI]
  by_cases z:k=x
  ·rw[if_pos z]
   have:(K.map fun x=>if k=x then v else 0).sum=0:=jO fun y hy=>if_neg fun e=>nd.1 (by rw[←z,e];exact hy)
   omega
  ·rw[if_neg z,uf nd.2 (by rcases zzj.mp h with h|h;exact absurd h z;exact h)]
   omega
theorem qj{α:Type}(F G:α->Int):∀l:List α,(l.map fun x=>F x+G x).sum=(l.map F).sum+(l.map G).sum
 |[]=>rfl
 |x::l=>by
  rw[zzc,zzc,zzc,zzI,zzI,zzI,qj F G l]
  omega
theorem vH(F:Row->Int){K:List (List Int)}(nd:K.Nodup):∀(ps:List (List Int×Row)),(∀p∈ps,p.1∈K)->(K.map fun k=>(((ps.filter fun p=>decide (p.1=k)).map (·.2)).map F).sum).sum=((ps.map (·.2)).map F).sum
 |[],_=>jO fun _ _=>rfl
 |p::ps,h=>by
  have ih:=vH F nd ps fun q hq=>h q (zzb _ hq)
  rw[zzc,zzc,zzI,←ih,←uf (v:=F p.2) nd (h p zzd),←qj]
  congr 1
  apply zzv
  intro k _
  rw[List.filter_cons]
  by_cases z:p.1=k
  ·rw[if_pos (decide_eq_true z),if_pos z,zzc,zzc,zzI]
  ·rw[if_neg (by rw[decide_eq_true_eq];exact z),if_neg z]
   omega
theorem kR{rows:List Row}{n h:Nat}(hh:h<n):at_ (sums rows n) h=sumP (col rows h):=by
 unfold at_ sums
 rw[zzF,zzq,zyL hh]
 rfl
theorem wJ(m:Nat)(ps:List (List Int×Row)):sums ((aO m ps).map (·.2)) m=sums (ps.map (·.2)) m:=by
 unfold sums
 apply zzv
 intro h hh
 have hh:=zzR.mp hh
 have hk:∀p∈ps,p.1∈(aO m ps).map (·.1):=fun p hp=>parts_mem.mpr (zze.mpr ⟨p,hp,rfl⟩)
 have key:∀g:Int×Int->Int,(∀cs:List (Int×Int),g (sumP cs)=(cs.map g).sum)->((col ((aO m ps).map (·.2)) h).map g).sum=((col (ps.map (·.2)) h).map g).sum:=fun g hg=>by
  have:=vH (fun r=>g (at_ r h)) (AG m ps) ps hk
  unfold col
  rw[zzg,zzg (f:=fun r=>at_ r h)]
  refine Eq.trans ?_ this
  conv=>lhs;rw[jN m ps]
  rw[zzg,zzg]
  congr 1
  apply zzv
  intro k _
  show g (at_ (sums ((ps.filter fun p=>decide (p.1=k)).map (·.2)) m) h)=_
  rw[kR hh,hg]
  unfold col
  rw[zzg]
  rfl
 have k1:=key (·.1) fun cs=>rfl
 have k2:=key (·.2) fun cs=>rfl
 unfold sumP
 rw[k1,k2]
structure Rw where
 h:Int
 ks:List Int
 t:Int
 w:Int
def rwD(r:Rw):D:=.tup [.int r.h,aq r.ks,.int r.t,.int r.w]
structure RwOk(n:Nat)(ms:List Int)(r:Rw):Prop where
 h0:0 <= r.h
 h1:r.h<n
 kl:r.ks.length=ms.length
 kk:∀(i:Nat) (k m:Int),r.ks[i]? = some k->ms[i]? = some m->0 <= k/\k<m
 w0:0 <= r.w
 wt:r.w <= r.t
 t1:r.t <= 10^12
structure MsOk(ms:List Int):Prop where
 l5:ms.length <= 5
 it:∀m∈ms,1 <= m/\m <= 6
def FP:DSp:=fun ds Q=>∃t w:Int,ds=[.tup [.int t,.int w]]/\(0 <= w/\w <= t)/\Q (.bl true)
theorem wK:aY FP:=fun ds P P' f ⟨t,w,a,b,h⟩=>⟨t,w,a,b,f _ h⟩
theorem wL(T:Tx K mg):FnOk P w K mg base CX0 2 T.kY T.jf ["thing"] (spD K 1 FP):=by
 refine fnD (k:=1) T.fj.F tN (fun cdv A outer s H E hr=>(ah (bx (PWD.pt (lN (de (cE (au fw rfl T.bi rfl (aa (ac 0 (pv 0)) (aa (ou (n:="tuple") rfl T.bU rfl) ad))))) (fY (aG (lP hr) (au bF rfl T.cD zzE (aa (ac 0 (pv 0)) ad)) af (aw _))))) (ag (ax kj)) aA)
   (ah (bx (PWD.pt (lN (de (cE (ai (kO T) kN (rm hr) rfl T.bv.m T.bv.F.kp T.bv.b (aa (aL (ac 0 (pv 0)) af (fun _ _=>rfl)) ad)))) (fY (de (cE (ai (kO T) kN (rm hr) rfl T.bv.m T.bv.F.kp T.bv.b (aa (aL (ac 0 (pv 0)) af (fun _ _=>rfl)) ad))))))) (ag (ax kj)) aA)
   (ag (ax (uM xP xP af (aL (ac 0 (pv 0)) af (fun _ _=>rfl)) (aL (ac 0 (pv 0)) af (fun _ _=>rfl)))))))) (fun ds Q hl h=>?_)
 obtain⟨t,w,rfl,⟨w0,wt⟩,h⟩:=h
 have h':Q (.bl (decide (w <= t))):=by rw[decide_eq_true wt];exact h
 exact⟨rfl,rfl,Br.f ⟨⟨rfl,rfl⟩,Br.f ⟨rfl,rfl,Br.f ⟨rfl,rfl,Br.f (Br.dt w0 h')⟩⟩⟩⟩
def BK:DSp:=fun ds Q=>∃(ks ms:List Int),ds=[aq ks,.lst (ms.map D.int)]/\ks.length=ms.length/\ms.length <= 1000/\(∀(i:Nat) (k m:Int),ks[i]? = some k->ms[i]? = some m->0 <= k/\k<m)/\Q (.bl true)
theorem ug:aY BK:=fun ds P P' f ⟨ks,ms,a,b,c,d,h⟩=>⟨ks,ms,a,b,c,d,f _ h⟩
theorem sk:∀(ks ms:List Int),zipD (ks.map D.int) (ms.map D.int)=(ks.zip ms).map fun p=>.tup [.int p.1,.int p.2]
 |[],_=>rfl
 |_::_,[]=>rfl
 |k::ks,m::ms=>by
  rw[zzc,zzc,zipD,sk ks ms,List.zip_cons_cons,zzc]
theorem uh{n:Nat}:(List.replicate n true).all id=true:=by
 rw[zzO]
 intro b hb
 rw[zyo hb]
 rfl
theorem ui(T:Tx K mg):FnOk P w K mg base CX0 3 T.jc T.gF ["kinds","marks"] (spD K 2 BK):=by
 refine fnD (k:=2) T.ee.F rO (fun cdv A outer s H E hr=>(ah (bx (PWD.pt (lN (de (cE (au fw rfl T.bi rfl (aa (ac 0 (pv 0)) (aa (ou (n:="tuple") rfl T.bU rfl) ad))))) (fY (aG (lP hr) (au bF rfl T.cD zzE (aa (ac 0 (pv 0)) ad)) (au bF rfl T.cD zzE (aa (ac 1 (pv 1)) ad)) (aw _))))) (ag (ax kj)) aA)
   (ag (ax (au yf rfl T.Bc PyProof.Rows.boot_all (aa (aN (PCD.pld (aQ (N':=["kind","most"]) rfl rfl dk rfl (.own (.own .nil)) dk (Db rfl T.FW (aa (ac 0 (pv 0)) (aa (ac 1 (pv 1)) ad))) (fun B=>(lA (n:=2) rfl (aX (ar (i:=0) ndB rfl oo) (aX (ar (i:=1) ndB rfl oo) gf)))) (fun B=>bb) (fun B=>(ai (cR T) cQ (rm hr) rfl T.az.m T.az.F.kp T.az.b (aa (ac 0 (pv 0)) (aa af (aa (bL qV (ac 1 (pv 1)) af) ad)))))))) ad)))))) (fun ds Q hl h=>?_)
 obtain⟨ks,ms,rfl,el,m5,hk,h⟩:=h
 refine⟨rfl,rfl,Br.f ⟨⟨rfl,rfl⟩,Dp (by rw[zza,zza,el]) rfl ?_⟩⟩
 refine⟨ks.map D.int,ms.map D.int,rfl,rfl,?_⟩
 rw[sk]
 refine bP (fun _=>.bl true) (fun ρ=>∃a b,ρ=[a,b]) ?_ (fun d hd ρ Y Z hN hY=>?_) _ ⟨_,_,rfl⟩ ?_
 ·rw[zza,List.length_zip]
  exact zzk (zzk (Nat.min_le_right _ _) m5) (by decide)
 ·obtain⟨a,b,rfl⟩:=hN
  obtain⟨p,hp,rfl⟩:=zze.mp hd
  obtain⟨i,hi⟩:=List.mem_iff_getElem?.mp hp
  rw[List.getElem?_zip_eq_some]at hi
  have:=hk i p.1 p.2 hi.1 hi.2
  exact⟨rfl,Br.t ⟨rfl,⟨this.1,by omega⟩,hY _ ⟨_,_,rfl⟩⟩⟩
 ·have e:((ks.zip ms).map fun p=>D.tup [.int p.1,.int p.2]).map (fun _=>D.bl true)=(List.replicate (ks.zip ms).length true).map D.bl:=by
   rw[zzg,List.map_replicate]
   exact List.map_const' ..
  rw[e]
  refine kw ?_
  rw[uh]
  exact h
def BL:DSp:=fun ds Q=>∃(r:Rw) (n:Nat) (ms:List Int),ds=[rwD r,.int n,.lst (ms.map D.int)]/\RwOk n ms r/\MsOk ms/\Q (.bl true)
theorem AH:aY BL:=fun ds P P' f ⟨r,n,ms,a,b,c,h⟩=>⟨r,n,ms,a,b,c,f _ h⟩
theorem AI(T:Tx K mg):FnOk P w K mg base CX0 4 T.qw T.on ["row","many","marks"] (spD K 3 BL):=by
 refine fnD (k:=3) T.jX.F yK (fun cdv A outer s H E hr=>(ah (bx (PWD.pt (lN (de (cE (au fw rfl T.bi rfl (aa (ac 0 (pv 0)) (aa (ou (n:="tuple") rfl T.bU rfl) ad))))) (fY (aG (lP hr) (au bF rfl T.cD zzE (aa (ac 0 (pv 0)) ad)) af (aw _))))) (ag (ax kj)) aA)
   (ah (bx (PWD.pt (lN (de (cE (ai (cR T) cQ (rm hr) rfl T.az.m T.az.F.kp T.az.b (aa (aL (ac 0 (pv 0)) af (fun _ _=>rfl)) (aa af (aa (bL qV (ac 1 (pv 1)) af) ad)))))) (fY (de (cE (ai (ui T) ug (rm hr) rfl T.ee.m T.ee.F.kp T.ee.b (aa (aL (ac 0 (pv 0)) af (fun _ _=>rfl)) (aa (ac 2 (pv 2)) ad)))))))) (ag (ax kj)) aA)
   (ag (ax (oK (ai (wL T) wK (rm hr) rfl T.fj.m T.fj.F.kp T.fj.b (aa (aR (aa (aL (ac 0 (pv 0)) af (fun _ _=>rfl)) (aa (aL (ac 0 (pv 0)) af (fun _ _=>rfl)) ad))) ad)) (oJ (dO xP (aL (ac 0 (pv 0)) af (fun _ _=>rfl)) (hV rfl T.jT) (aw _))))))))) (fun ds Q hl h=>?_)
 obtain⟨r,n,ms,rfl,o,mo,h⟩:=h
 have h':Q (.bl (decide (r.t <= 10^12))):=by rw[decide_eq_true o.t1];exact h
 refine⟨rfl,rfl,Br.f ⟨⟨rfl,rfl⟩,Br.f ?_⟩⟩
 refine⟨rfl,⟨o.h0,by have:=o.h1;omega⟩,Br.f ⟨rfl,r.ks,ms,rfl,o.kl,zzk mo.l5 (by decide),o.kk,Br.f ?_⟩⟩
 exact⟨sz,rfl,r.t,r.w,rfl,⟨o.w0,o.wt⟩,Br.t h'⟩
def zb:DSp:=fun ds Q=>∃(rs:List Rw) (n:Nat) (ms:List Int),ds=[.lst (rs.map rwD),.int n,.lst (ms.map D.int)]/\rs.length <= 60/\(∀r∈rs,RwOk n ms r)/\MsOk ms/\Q (.bl true)
theorem wM:aY zb:=fun ds P P' f ⟨r,n,ms,a,b,c,d,h⟩=>⟨r,n,ms,a,b,c,d,f _ h⟩
theorem wN(T:Tx K mg):FnOk P w K mg base CX0 5 T.kW T.jh ["rows","many","marks"] (spD K 3 zb):=by
 refine fnD (k:=4) T.fo.F tP (fun cdv A outer s H E hr=>(ah (bx (PWD.pt (lN (de (cE (au yr rfl T.bi rfl (aa (ac 0 (pv 0)) (aa (aR (aa (ou (n:="list") rfl T.zH rfl) (aa (ou (n:="tuple") rfl T.bU rfl) ad))) ad))))) (fY (aG lO (au bF rfl T.cD zzE (aa (ac 0 (pv 0)) ad)) (hV rfl T.lJ) (aw _))))) (ag (ax kj)) aA)
   (ag (ax (au yf rfl T.Bc PyProof.Rows.boot_all (aa (aN (PCD.pld (aQ (N':=["row","many","marks"]) rfl rfl dk rfl (.own (.cap (j:=1) rfl oo rfl (.cap (j:=2) rfl oo rfl .nil))) dk (ba (ac 0 (pv 0))) (fun B=>(ar (i:=0) ndB rfl oo)) (fun B=>bb) (fun B=>(ai (AI T) AH (rm hr) rfl T.jX.m T.jX.F.kp T.jX.b (aa (ac 0 (pv 0)) (aa (ac 1 (pv 1)) (aa (ac 2 (pv 2)) ad)))))))) ad)))))) (fun ds Q hl h=>?_)
 obtain⟨rs,n,ms,rfl,l60,ro,mo,h⟩:=h
 refine⟨sz,_,rfl,rfl,Br.f (Br.dn (by rw[zza];omega) ?_)⟩
 refine bP (fun _=>.bl true) (fun ρ=>∃a,ρ=[a,.val (.int n),.val (.lst (ms.map D.int))]) ?_ (fun d hd ρ Y Z hN hY=>?_) _ ⟨_,rfl⟩ ?_
 ·rw[zza]
  exact zzk l60 (by decide)
 ·obtain⟨a,rfl⟩:=hN
  obtain⟨r,hr,rfl⟩:=zze.mp hd
  exact Br.t ⟨rfl,r,n,ms,rfl,ro r hr,mo,hY _ ⟨_,rfl⟩⟩
 ·have e:(rs.map rwD).map (fun _=>D.bl true)=(List.replicate rs.length true).map D.bl:=by
   rw[zzg,List.map_replicate]
   exact List.map_const' ..
  rw[e]
  refine kw ?_
  rw[uh]
  exact h
def vI:DSp:=fun ds Q=>∃(ms:List Int),ds=[.lst (ms.map D.int)]/\MsOk ms/\Q (.bl true)
theorem uj:aY vI:=fun ds P P' f ⟨ms,a,b,h⟩=>⟨ms,a,b,f _ h⟩
theorem uk(T:Tx K mg):FnOk P w K mg base CX0 3 T.iV T.gE ["marks"] (spD K 1 vI):=by
 refine fnD (k:=2) T.ej.F rN (fun cdv A outer s H E hr=>(ah (bx (PWD.pt (lN (de (cE (au yr rfl T.bi rfl (aa (ac 0 (pv 0)) (aa (aR (aa (ou (n:="list") rfl T.zH rfl) (aa (ou (n:="tuple") rfl T.bU rfl) ad))) ad))))) (fY (aG lO (au bF rfl T.cD zzE (aa (ac 0 (pv 0)) ad)) (hV rfl T.jW) (aw _))))) (ag (ax kj)) aA)
   (ag (ax (au yf rfl T.Bc PyProof.Rows.boot_all (aa (aN (PCD.pld (aQ (N':=["kinds"]) rfl rfl dk rfl (.own .nil) dk (ba (ac 0 (pv 0))) (fun B=>(ar (i:=0) ndB rfl oo)) (fun B=>bb) (fun B=>(ai (cR T) cQ (rm hr) rfl T.az.m T.az.F.kp T.az.b (aa (ac 0 (pv 0)) (aa af (aa (hV rfl T.jU) ad)))))))) ad)))))) (fun ds Q hl h=>?_)
 obtain⟨ms,rfl,mo,h⟩:=h
 have l5:=mo.l5
 refine⟨sz,_,rfl,rfl,Br.f (Br.dn (by rw[zza];omega) ?_)⟩
 refine bP (fun _=>.bl true) (fun ρ=>∃a,ρ=[a]) ?_ (fun d hd ρ Y Z hN hY=>?_) _ ⟨_,rfl⟩ ?_
 ·rw[zza]
  exact zzk mo.l5 (by decide)
 ·obtain⟨a,rfl⟩:=hN
  obtain⟨m,hm,rfl⟩:=zze.mp hd
  exact Br.t ⟨rfl,mo.it m hm,hY _ ⟨_,rfl⟩⟩
 ·have e:(ms.map D.int).map (fun _=>D.bl true)=(List.replicate ms.length true).map D.bl:=by
   rw[zzg,List.map_replicate]
   exact List.map_const' ..
  rw[e]
  refine kw ?_
  rw[uh]
  exact h
def gb(n:Nat)(r:Rw):Row:=(List.replicate n (0,0)).set r.h.toNat (r.t,r.w)
def gCoR:DSp:=fun ds Q=>∃(r:Rw) (n:Nat) (ms:List Int),ds=[rwD r,.int n]/\RwOk n ms r/\n <= 6/\Q (rowD (gb n r))
theorem nR:aY gCoR:=fun ds P P' f ⟨r,n,ms,a,b,c,h⟩=>⟨r,n,ms,a,b,c,f _ h⟩
theorem nS(T:Tx K mg):FnOk P w K mg base CX0 1 T.dZ T.dG ["row","many"] (spD K 2 gCoR):=by
 refine fnD (k:=0) T.bQ.F sc_counts_of_row (fun cdv A outer s H E hr=>(ah (jw (i:=2) sc_counts_of_row.nd rfl oo (Fp (aN (bD (aa (aR (aa af (aa af ad))) ad))) (ac 1 (pv 1))))
   (ah (CG (aR (aa (aL (ac 0 (pv 0)) af (fun _ _=>rfl)) (aa (aL (ac 0 (pv 0)) af (fun _ _=>rfl)) ad))) (Fi (pv 2) (aL (ac 0 (pv 0)) af (fun _ _=>rfl))))
   (ag (ax (aU cX rfl T.bU rfl (aa (ac 2 (pv 2)) ad))))))) (fun ds Q hl h=>?_)
 obtain⟨r,n,ms,rfl,o,n6,h⟩:=h
 have h0:=o.h0
 have h1:=o.h1
 have e:∀k:Nat,(List.replicate k [D.tup [.int 0,.int 0]]).flatten=(List.replicate k ((0,0):Int×Int)).map bX:=fun k=>by
  induction k with
  |zero=>rfl
  |succ k ih=>rw[zyl,zyl,zyy,zzc,ih];rfl
 refine⟨sz,sz,⟨⟨by omega,by omega⟩,?_⟩,?_⟩
 ·rw[zzY]
  exact zzk (show 1*n <= 6 by omega) (by decide)
 rw[zzY,e]
 refine⟨sz,trivial,r.h.toNat,Fj h0 (by rw[zza,List.length_replicate];exact h1),?_⟩
 show Q (.tup (((List.replicate n ((0,0):Int×Int)).map bX).set r.h.toNat (bX (r.t,r.w))))
 rw[←List.map_set]
 exact h
def zc:DSp:=fun ds Q=>∃(n:Nat) (ms:List Int) (rs:List Rw),ds=[.int n,.lst (ms.map D.int),.lst (rs.map rwD)]/\(2 <= n/\n <= 6)/\MsOk ms/\rs.length <= 60/\(∀r∈rs,RwOk n ms r)/\Q (ck ⟨n,ms,gath n (rs.map fun r=>(r.ks,gb n r))⟩)
theorem zd:aY zc:=fun ds P P' f ⟨n,ms,rs,a,b,c,d,e,h⟩=>⟨n,ms,rs,a,b,c,d,e,f _ h⟩
theorem Dy{n:Nat}{ms:List Int}{r:Rw}(o:RwOk n ms r):RowN 110 n (gb n r):=by
 refine⟨by unfold gb;simp,fun c hc=>?_⟩
 unfold gb at hc
 rcases List.mem_or_eq_of_mem_set hc with hc|rfl
 ·rw[zyo hc]
  exact rS (zyx 0) (zyx 0) (by unfold Bd;exact Nat.two_pow_pos _)
 ·refine rS o.w0 o.wt ?_
  have:=o.t1
  have:=o.w0
  have:=o.wt
  unfold Bd
  have e:(2:Nat)^110=1298074214633706907132624082305024:=by decide
  omega
theorem ze(T:Tx K mg):FnOk P w K mg base CX0 6 T.oj T.kZ ["many","marks","rows"] (spD K 3 zc):=by
 refine fnD (k:=5) T.gK.F sc_book_of (fun cdv A outer s H E hr=>(ah (bx (de (cE (ai (cR T) cQ (rm hr) rfl T.az.m T.az.F.kp T.az.b (aa (ac 0 (pv 0)) (aa (hV rfl T.gR) (aa (hV rfl T.iw) ad)))))) (ag eE) aA)
   (ah (bx (de (cE (ai (uk T) uj (rm hr) rfl T.ej.m T.ej.F.kp T.ej.b (aa (ac 1 (pv 1)) ad)))) (ag eE) aA)
   (ah (bx (de (cE (ai (wN T) wM (rm hr) rfl T.fo.m T.fo.F.kp T.fo.b (aa (ac 2 (pv 2)) (aa (ac 0 (pv 0)) (aa (ac 1 (pv 1)) ad)))))) (ag eE) aA)
   (ah (iD (i:=3) sc_book_of.nd rfl rfl (aQ (N':=["row","many"]) rfl rfl dk rfl (.own (.cap (j:=0) rfl oo rfl .nil)) dk (ba (ac 2 (pv 2))) (fun B=>(ar (i:=0) ndB rfl oo)) (fun B=>bb) (fun B=>(aR (aa (aU cX rfl T.bU rfl (aa (aL (ac 0 (pv 0)) af (fun _ _=>rfl)) ad)) (aa (ai (nS T) nR (rm hr) rfl T.bQ.m T.bQ.F.kp T.bQ.b (aa (ac 0 (pv 0)) (aa (ac 1 (pv 1)) ad))) ad))))))
   (ag (ax (aR (aa (ac 0 (pv 0)) (aa (aU cX rfl T.bU rfl (aa (ac 1 (pv 1)) ad)) (aa (aU cX rfl T.bU rfl (aa (ai (wD T) wC (rm hr) rfl T.cA.m T.cA.F.kp T.cA.b (aa (ac 0 (pv 0)) (aa (ac 3 (pv 3)) ad))) ad)) ad))))))))))) (fun ds Q hl h=>?_)
 obtain⟨n,ms,rs,rfl,⟨n2,n6⟩,mo,l60,ro,h⟩:=h
 refine⟨rfl,⟨by omega,by omega⟩,Br.f ⟨rfl,ms,rfl,mo,Br.f ⟨rfl,rs,n,ms,rfl,l60,ro,mo,Br.f ?_⟩⟩⟩
 refine br (fun pre acc ρ=>∃r0 r1:List Rw,rs=r0++r1/\pre=r0.map rwD/\acc=(r0.map fun r=>(r.ks,gb n r)).map cj/\∃s:Sl,ρ=[s,.val (.int n)]) (fun acc ρ hN=>?_) (fun pre d post acc ρ Y e hN hY=>?_) _ ⟨[],_,rfl,rfl,rfl,_,rfl⟩
 ·obtain⟨r0,r1,e,e2,rfl,s,rfl⟩:=hN
  have:r1=[]:=by
   have:=congrArg List.length e2
   rw[e]at this
   simp at this
   exact this
  subst this
  rw[zzy]at e
  subst e
  have fin:Do [.int n,.lst ((rs.map fun r=>(r.ks,gb n r)).map cj)] (fun d=>uN [d] fun d=>[D.int n,aq ms,d].length <= sizeLine/\Q (.tup [.int n,aq ms,d])):=by
   refine⟨n,_,ms.length,rfl,rfl,⟨n6,by rw[zza];exact l60,fun p hp=>?_⟩,sz,h⟩
   obtain⟨r,hr,rfl⟩:=zze.mp hp
   exact⟨(ro r hr).kl,Dy (ro r hr)⟩
  exact⟨rfl,fin⟩
 ·obtain⟨r0,r1,e3,rfl,rfl,s,rfl⟩:=hN
  rw[e3,zzl]at e
  have e:=zzD e
  cases r1 with
  |nil=>simp at e
  |cons r r1 =>
   rw[zzc]at e
   injection e with e1 e2
   subst e1
   have hr:=ro r (by rw[e3];simp)
   rw[e3,zzi]at l60
   refine Br.t ⟨rfl,r,n,ms,rfl,hr,n6,sz,?_,hY _ _ ⟨r0++[r],r1,by rw[e3];simp,by simp,by rw[zzl,zzl];rfl,_,rfl⟩⟩
   rw[zza,zza]
   exact zzC (show r0.length <= 60 by omega) (by decide)
def aH(s:List Int):Int:=match s.getLast? with
 |some x=>x+1
 |none=>0
def extI(n:Nat)(s:List Int):List (List Int):=(List.range (n - (aH s).toNat)).map fun(i:Nat)=>s++[aH s+(i:Int)]
def lgr(n:Nat)(ts:List (List Int)):List (List Int):=ts.flatMap (extI n)
def lv(n:Nat):Nat->List (List Int)
 |0=>[[]]
 |k+1=>lgr n (lv n k)
def chs(n:Nat):Nat->List (List Int)
 |0=>[]
 |k+1=>chs n k++lv n (k+1)
theorem mi:∀n,n <= 5->∀k,k <= 6->(lv n k).length <= 10:=by decide +kernel
theorem BM:∀n,n <= 5->lv n (n+1)=[]:=by decide +kernel
theorem Hj:∀n,n <= 5->∀k,k <= n->lv n k≠[]:=by decide +kernel
theorem gy:∀n,n <= 5->∀k,k <= 6->(chs n k).length <= 31:=by decide +kernel
def ascB:List Int->Bool
 |[]=>true
 |x::r=>r.all (fun y=>decide (x<y)) && ascB r
def okB(n:Nat)(s:List Int):Bool:=decide (s.length <= 5) && (s.all (fun x=>decide (0 <= x) && decide (x<(n:Int))) && ascB s)
theorem BN:∀{s:List Int},ascB s=true->s.Nodup
 |[],_=>List.nodup_nil
 |x::r,h=>by
  have h:(r.all (fun y=>decide (x<y)) && ascB r)=true:=h
  rw[zzT,zzO]at h
  refine zzL.mpr ⟨fun m=>?_,BN h.2⟩
  have:=of_decide_eq_true (h.1 x m)
  omega
theorem BO{n:Nat}{s:List Int}(h:okB n s=true):s.length <= 5/\(∀x∈s,0 <= x/\x<(n:Int))/\s.Nodup:=by
 unfold okB at h
 rw[zzT,zzT,zzO]at h
 refine⟨of_decide_eq_true h.1,fun x hx=>?_,BN h.2.2⟩
 have:=h.2.1 x hx
 rw[zzT]at this
 exact⟨of_decide_eq_true this.1,of_decide_eq_true this.2⟩
theorem FQ:∀n,n <= 5->∀k,k <= 6->(lv n k).all (okB n)=true:=by decide +kernel
theorem DB:∀n,n <= 5->∀k,k <= 6->(chs n k).all (okB n)=true:=by decide +kernel
theorem DC{n:Nat}(hn:n <= 5){k:Nat}(hk:k <= 6){s:List Int}(h:s∈lv n k):s.length <= 5/\(∀x∈s,0 <= x/\x<(n:Int))/\s.Nodup:=BO (zzO.mp (FQ n hn k hk) s h)
theorem BP{n:Nat}(hn:n <= 5){k:Nat}(hk:k <= 6){s:List Int}(h:s∈chs n k):s.length <= 5/\(∀x∈s,0 <= x/\x<(n:Int))/\s.Nodup:=BO (zzO.mp (DB n hn k hk) s h)
def bY(ts:List (List Int)):D:=.lst (ts.map aq)
theorem zf(n:Nat)(s:List Int):(extI n s).length <= n:=by unfold extI;rw[zza,zyc];omega
theorem zg(n:Nat)(ts:List (List Int)):(lgr n ts).length <= n*ts.length:=by
 unfold lgr
 induction ts with
 |nil=>simp
 |cons a r ih =>
  rw[List.flatMap_cons,zzi,zzZ,Nat.mul_succ]
  have:=zf n a
  omega
theorem vJ{n:Nat}{s:List Int}(h:∀x∈s,0 <= x/\x<(n:Int)):0 <= aH s/\aH s <= n:=by
 unfold aH
 cases e:s.getLast? with
 |none=>exact⟨by simp,by simp⟩
 |some x =>
  have:=h x (List.mem_of_getLast? e)
  show 0 <= x+1/\x+1 <= (n:Int)
  omega
def gLg:DSp:=fun ds Q=>∃(n:Nat) (ts:List (List Int)),ds=[bY ts,.int n]/\n <= 5/\ts.length <= 100/\(∀s∈ts,s.length <= 5/\∀x∈s,0 <= x/\x<(n:Int))/\Q (bY (lgr n ts))
theorem AJ:aY gLg:=fun ds P P' f ⟨n,ts,a,b,c,d,h⟩=>⟨n,ts,a,b,c,d,f _ h⟩
theorem AK(T:Tx K mg):FnOk P w K mg base CX0 1 T.qu T.nZ ["tuples","many"] (spD K 2 gLg):=by
 refine fnD (k:=0) T.jV.F sc_longer (fun cdv A outer s H E hr=>(ah (jw (i:=2) sc_longer.nd rfl oo (bD ad))
   (aZ (bE PassesOwn.never rfl (ba (ac 0 (pv 0))) (ar (i:=3) sc_longer.nd rfl oo) (ah (aM (i:=4) sc_longer.nd rfl oo (uK (aG lO (au bF rfl T.cD zzE (aa (ac 3 (pv 3)) ad)) af (aw _)) (bL dP (aL (ac 3 (pv 3)) (mP gh af) (fun _ _=>rfl)) af) af))
   (ag (bE PassesOwn.never rfl (xN rfl T.cW (aa (ac 4 (pv 4)) (aa (ac 1 (pv 1)) ad))) (ar (i:=5) sc_longer.nd rfl oo) (ag (qY (pv 2) (bL yA (ac 3 (pv 3)) (aR (aa (ac 5 (pv 5)) ad)))))))))
   (ag (ax (ac 2 (pv 2))))))) (fun ds Q hl h=>?_)
 obtain⟨n,ts,rfl,n5,t100,ok,h⟩:=h
 refine⟨sz,fun ρ=>∃s3 s4 s5:Sl,ρ=[.val (bY ts),.val (.int n),.own ((lgr n ts).map aq),s3,s4,s5],?_,?_⟩
 ·refine bO (fun pre ρ=>∃c0 c1:List (List Int),ts=c0++c1/\pre=c0.map aq/\∃s3 s4 s5:Sl,ρ=[.val (bY ts),.val (.int n),.own ((lgr n c0).map aq),s3,s4,s5]) (fun ρ hN=>?_) (fun pre d post ρ X e hN hX=>?_) _ ⟨[],ts,rfl,rfl,_,_,_,rfl⟩
  ·obtain⟨c0,c1,e1,e2,s3,s4,s5,rfl⟩:=hN
   have:c1=[]:=by
    have:=congrArg List.length e2
    rw[e1]at this
    simp at this
    exact this
   subst this
   rw[zzy]at e1
   subst e1
   exact⟨_,_,_,rfl⟩
  ·obtain⟨c0,c1,e1,rfl,s3,s4,s5,rfl⟩:=hN
   rw[e1,zzl]at e
   have e:=zzD e
   cases c1 with
   |nil=>simp at e
   |cons c c1 =>
    rw[zzc]at e
    injection e with e3 e4
    subst e3
    have co:=ok c (by rw[e1];simp)
    have st:=vJ co.2
    have cl:c0.length <= 100:=by rw[e1,zzi]at t100;omega
    have ll:=zg n c0
    have lm:n*c0.length <= 5*100:=Nat.mul_le_mul n5 cl
    have inner:∀E:DEnds,(∀ρ,(∃s3 s4 s5:Sl,ρ=[.val (bY ts),.val (.int n),.own ((lgr n (c0++[c])).map aq),s3,s4,s5])->E.nx ρ)->dFor (diR2 (jv (dVar 4) (jv (dVar 1) qS))) (ge 5) (dApp 2 (dOp Dd (dVar 3) (dTup (jv (dVar 5) qS)))) E [.val (bY ts),.val (.int n),.own ((lgr n c0).map aq),.val (aq c),.val (.int (aH c)),s5]:=fun E hE=>by
     have e5:((n:Int) - aH c).toNat=n - (aH c).toNat:=by omega
     refine⟨⟨by omega,by omega,by omega,by omega⟩,?_⟩
     refine eF (fun k ρ=>∃s5:Sl,ρ=[.val (bY ts),.val (.int n),.own ((lgr n c0++(List.range (k - aH c).toNat).map fun(i:Nat)=>c++[aH c+(i:Int)]).map aq),.val (aq c),.val (.int (aH c)),s5]) _ _ ?_ ?_ _ ⟨s5,by rw[Int.sub_self];simp⟩
     ·rintro ρ ⟨s5,rfl⟩
      refine hE _ ⟨.val (aq c),.val (.int (aH c)),s5,?_⟩
      have e6:lgr n (c0++[c])=lgr n c0++(List.range (aH c+(((n:Int) - aH c).toNat:Nat) - aH c).toNat).map fun(i:Nat)=>c++[aH c+(i:Int)]:=by
       unfold lgr
       rw[zye,zyj]
       have:(aH c+(((n:Int) - aH c).toNat:Nat) - aH c).toNat=n - (aH c).toNat:=by omega
       rw[this]
       rfl
      rw[e6]
     ·rintro k ρ Z k0 k1 ⟨s5,rfl⟩ hZ
      have ek:(List.range (k+1 - aH c).toNat).map (fun(i:Nat)=>c++[aH c+(i:Int)])=(List.range (k - aH c).toNat).map (fun(i:Nat)=>c++[aH c+(i:Int)])++[c++[k]]:=by
       rw[show (k+1 - aH c).toNat=(k - aH c).toNat+1 by omega,List.range_succ,zzl]
       congr 2
       show [c++[aH c+(((k - aH c).toNat:Nat):Int)]]=_
       rw[show aH c+(((k - aH c).toNat:Nat):Int)=k by omega]
      refine⟨trivial,sz,?_,?_,hZ _ ⟨.val (.int k),?_⟩⟩
      ·show (c.map D.int).length+1 <= sizeLine
       rw[zza]
       exact zzk (show c.length+1 <= 6 by omega) (by decide)
      ·rw[zza,zzi,zza,zyc]
       exact zzC (show _ <= 600 by omega) (by decide)
      ·have em:∀A:List (List Int),(A++[c++[k]]).map aq=A.map aq++[.tup (c.map D.int++[.int k])]:=fun A=>by
        rw[zzl]
        unfold aq
        simp
       rw[ek,←zym,em]
       rfl
    have go:∀E:DEnds,(∀ρ,(∃s3 s4 s5:Sl,ρ=[.val (bY ts),.val (.int n),.own ((lgr n (c0++[c])).map aq),s3,s4,s5])->E.nx ρ)->True:=fun _ _=>trivial
    have fin:∀ρ,(∃s3 s4 s5:Sl,ρ=[.val (bY ts),.val (.int n),.own ((lgr n (c0++[c])).map aq),s3,s4,s5])->X ρ:=fun ρ ⟨s3,s4,s5,er⟩=>hX ρ ⟨c0++[c],c1,by rw[e1];simp,by simp,s3,s4,s5,er⟩
    have el:(((c.map D.int).length:Nat):Int)=c.length:=by rw[zza]
    refine Br.di (fun z=>?_) (fun z=>?_)
    ·obtain⟨x,hx⟩:∃x,c.getLast? = some x:=by
      cases q:c.getLast? with
      |none =>
       rw[List.getLast?_eq_none_iff]at q
       rw[q]at z
       exact absurd z (by decide)
      |some x=>exact⟨x,rfl⟩
     have es:aH c=x+1:=by unfold aH;rw[hx]
     rw[es]at inner
     have cp:0<c.length:=by omega
     have ea:atI (c.map D.int) (-1)=some (.int x):=by
      unfold atI ixN
      rw[zza,if_neg (by decide),if_pos (by omega)]
      show (c.map D.int)[(-1+(c.length:Int)).toNat]? = _
      rw[zzq,show (-1+(c.length:Int)).toNat=c.length - 1 by omega,←List.getLast?_eq_getElem?,hx]
      rfl
     show opt (atI (c.map D.int) (-1)) _
     rw[ea]
     exact inner _ fin
    ·have cn:c=[]:=by
      have:c.length=0:=by omega
      exact zzK.mp this
     have es:aH c=0:=by rw[cn];rfl
     rw[es]at inner
     exact inner _ fin
 ·rintro _ ⟨s3,s4,s5,rfl⟩
  exact h
def gCh:DSp:=fun ds Q=>∃n:Nat,ds=[.int n]/\n <= 5/\Q (bY (chs n (n+1)))
theorem zh:aY gCh:=fun ds P P' f ⟨n,a,b,h⟩=>⟨n,a,b,f _ h⟩
def cntO:Sl->Nat
 |.own l=>2*(40 - l.length)
 |_=>0
def flg:Sl->Nat
 |.val (.lst (_::_))=>1
 |_=>0
def muC(ρ:DS):Nat:=cntO (slot ρ 1)+flg (slot ρ 2)
theorem zi(T:Tx K mg):FnOk P w K mg base CX0 2 T.oi T.li ["many"] (spD K 1 gCh):=by
 refine fnD (k:=1) T.gD.F sc_choices (fun cdv A outer s H E hr=>(ah (jw (i:=1) sc_choices.nd rfl oo (bD ad))
   (ah (aM (i:=2) sc_choices.nd rfl oo (aN (bD (aa (aR ad) ad))))
   (aZ (zZ PassesOwn.never (aG lO (au bF rfl T.cD zzE (aa (ac 2 (pv 2)) ad)) af (aw _)) (ah (aM (i:=2) sc_choices.nd rfl oo (ai (AK T) AJ (rm hr) rfl T.jV.m T.jV.F.kp T.jV.b (aa (ac 2 (pv 2)) (aa (ac 0 (pv 0)) ad))))
   (ag (Bt (pv 1) (ac 2 (pv 2))))))
   (ag (ax (ac 1 (pv 1)))))))) (fun ds Q hl h=>?_)
 obtain⟨n,rfl,n5,h⟩:=h
 refine⟨sz,sz,sz,fun ρ=>∃s2:Sl,ρ=[.val (.int n),.own ((chs n (n+1)).map aq),s2],?_,?_⟩
 ·refine wk (fun ρ=>∃k,k <= n+1/\ρ=[.val (.int n),.own ((chs n k).map aq),.val (bY (lv n k))]) muC (fun ρ X hN hX=>?_) _ ⟨0,by omega,rfl⟩
  obtain⟨k,kn,rfl⟩:=hN
  have l10:=mi n n5 k (by omega)
  have cl:=gy n n5 k (by omega)
  by_cases z:k=n+1
  ·subst z
   have e:=BM n n5
   rw[e]
   exact Br.f ⟨_,rfl⟩
  ·have kn':k <= n:=by omega
   have ne:=Hj n n5 k kn'
   have lp:0<(lv n k).length:=List.length_pos_iff.mpr ne
   have el:((((lv n k).map aq).length:Nat):Int)=(lv n k).length:=by rw[zza]
   refine Br.dt (by omega) ?_
   refine⟨rfl,n,lv n k,rfl,n5,by omega,fun s hs=>⟨(DC n5 (by omega) hs).1,(DC n5 (by omega) hs).2.1⟩,trivial,?_⟩
   have l10':=mi n n5 (k+1) (by omega)
   have cl':=gy n n5 (k+1) (by omega)
   have e1:lgr n (lv n k)=lv n (k+1):=rfl
   have e2:(chs n (k+1)).map aq=(chs n k).map aq++(lv n (k+1)).map aq:=by
    show (chs n k++lv n (k+1)).map aq=_
    rw[zzl]
   rw[e1]
   refine⟨_,rfl,?_,hX _ ⟨k+1,by omega,by rw[e2];rfl⟩ ?_⟩
   ·rw[zza,zza]
    exact zzk (show _ <= 100 by omega) (by decide)
   ·have c2:(chs n (k+1)).length=(chs n k).length+(lv n (k+1)).length:=by
     show (chs n k++lv n (k+1)).length=_
     rw[zzi]
    show 2*(40 - ((chs n k).map aq++(lv n (k+1)).map aq).length)+flg (.val (bY (lv n (k+1))))<2*(40 - ((chs n k).map aq).length)+flg (.val (bY (lv n k)))
    have m1:flg (.val (bY (lv n k)))=1:=by
     cases q:lv n k with
     |nil=>exact absurd q ne
     |cons a r=>rfl
    have m2:flg (.val (bY (lv n (k+1)))) <= (lv n (k+1)).length/\flg (.val (bY (lv n (k+1)))) <= 1:=by
     cases q:lv n (k+1) with
     |nil=>exact⟨zzh _,zzH _⟩
     |cons a r=>exact⟨Nat.succ_le_succ (zzH _),zzh _⟩
    rw[m1,zzi,zza,zza]
    omega
 ·rintro _ ⟨s2,rfl⟩
  exact h
theorem oZ:aY (fun ds Q=>qf ds Q fun es=>Q (.lst es)):=fun ds P P' f h=>nH _ _ _ _ _ f (fun es q=>f _ q) h
theorem pf(T:Tx K mg):FnOk P w K mg base CX0 6 T.ii T.fP ["book","some"] (spD K 2 (fun ds Q=>qf ds Q fun es=>Q (.lst es))):=DL.FnOk.asD (ue T) (fun ds Q h=>h) nH
def tblB(b:Bk)(so:List Int):List Row:=(aJ b so).map (·.2)
def trnB(b:Bk)(x y:Nat)(so:List Int):D:=fH (told (tblB b so) x y) (bd (tblB b so) x y)
def hdD:D->D
 |.tup (d::_)=>d
 |_=>.non
def isT(b:Bk)(x y:Nat)(so:List Int):Bool:=eqD (hdD (trnB b x y so)) (.str (PySem.Str.ofString "turned"))
theorem pj(ws:List D)(d:D):∃s r,fH ws d=.tup (.str s::r)/\shp (.str s)=true:=by
 have tk:∀s:Int,∃s' r,tkT s d=.tup (.str s'::r)/\shp (.str s')=true:=fun s=>by
  unfold tkT
  split
  ·exact⟨_,_,rfl,Shp.shp (n:=0) ⟨rfl,by decide +kernel,zzH _⟩⟩
  ·exact⟨_,_,rfl,Shp.shp (n:=0) ⟨rfl,by decide +kernel,zzH _⟩⟩
 unfold fH
 split
 ·exact tk 1
 ·split
  ·exact tk (-1)
  ·split
   ·exact⟨_,_,rfl,Shp.shp (n:=0) ⟨rfl,by decide +kernel,zzH _⟩⟩
   ·exact⟨_,_,rfl,Shp.shp (n:=0) ⟨rfl,by decide +kernel,zzH _⟩⟩
def tby(b:Bk)(x y:Nat):List (List Int):=if b.cells=[] then[] else(chs b.marks.length (b.marks.length+1)).filter (isT b x y)
def gTB:DSp:=fun ds Q=>∃(b:Bk) (x y:Int),ds=[ck b,.int x,.int y]/\BkOk b/\AbOk b.m x y/\Q (bY (tby b x.toNat y.toNat))
theorem nT:aY gTB:=fun ds P P' f ⟨b,x,y,a,c,d,h⟩=>⟨b,x,y,a,c,d,f _ h⟩
theorem sr{b:Bk}(bo:BkOk b)(cn:b.cells≠[])(so:List Int):Tbl b.m (tblB b so):=by
 refine⟨bo.m2,bo.m6,?_,?_,fun r hr=>?_⟩
 ·cases q:b.cells with
  |nil=>exact absurd q cn
  |cons c t =>
   have:vals c.1 so∈(aJ b so).map (·.1):=by
    unfold aJ
    rw[parts_mem,zzg,zze]
    exact⟨c,by rw[q];exact zzd,rfl⟩
   unfold tblB
   rw[zza]
   cases e:aJ b so with
   |nil=>rw[e]at this;simp at this
   |cons _ _=>simp
 ·unfold tblB
  rw[zza]
  exact zzk (jL bo) (by decide)
 ·obtain⟨c,hc,rfl⟩:=zze.mp hr
  unfold aJ at hc
  rw[nQ hc]
  refine BI (fun r hr=>?_) ?_
  ·obtain⟨p,hp,rfl⟩:=zze.mp hr
   obtain⟨d,hd,rfl⟩:=zze.mp (zzp.mp hp).1
   exact(bo.it d hd).2.1
  ·rw[zza]
   refine zzk (zzN _ _) ?_
   rw[zza]
   exact bo.c60
theorem ss:shp (.str (PySem.Str.ofString "turned"))=true:=Shp.shp (n:=0) ⟨rfl,by decide +kernel,zzH _⟩
theorem nU(T:Tx K mg):FnOk P w K mg base CX0 7 T.iX T.gN ["book","a","b"] (spD K 3 gTB):=by
 refine fnD (k:=6) T.bS.F rQ (fun cdv A outer s H E hr=>(ah (gc (ai (gw T) gv (rm hr) rfl T.aP.m T.aP.F.kp T.aP.b (aa (aL (ac 0 (pv 0)) af (fun _ _=>rfl)) (aa (ac 1 (pv 1)) (aa (ac 2 (pv 2)) ad)))))
   (ah (bx (aG (cf hr) (au bF rfl T.cD zzE (aa (aL (ac 0 (pv 0)) af (fun _ _=>rfl)) ad)) af (aw _)) (ag (ax (aN (bD ad)))) aA)
   (ag (ax (aN (PCD.pld (aQ (N':=["some","book","a","b"]) rfl rfl dk rfl (.own (.cap (j:=0) rfl oo rfl (.cap (j:=1) rfl oo rfl (.cap (j:=2) rfl oo rfl .nil)))) dk (ba (ai (zi T) zh (rm hr) rfl T.gD.m T.gD.F.kp T.gD.b (aa (au bF rfl T.cD zzE (aa (aL (ac 0 (pv 0)) af (fun _ _=>rfl)) ad)) ad))) (fun B=>(ar (i:=0) ndB rfl oo)) (fun B=>(kq (aG (cf hr) (aL (ai (se T) rZ (rm hr) rfl T.du.m T.du.F.kp T.du.b (aa (ai (pf T) oZ (rm hr) rfl T.cB.m T.cB.F.kp T.cB.b (aa (ac 1 (pv 1)) (aa (ac 0 (pv 0)) ad))) (aa (ac 2 (pv 2)) (aa (ac 3 (pv 3)) ad)))) af (fun _ _=>rfl)) ip (aw _)))) (fun B=>(ac 0 (pv 0))))))))))) (fun ds Q hl h=>?_)
 obtain⟨b,x,y,rfl,bo,ab,h⟩:=h
 have mk5:=bo.mk5
 refine⟨rfl,⟨ab.a0,ab.a1,ab.b0,ab.b1,ab.ne⟩,⟨rfl,rfl⟩,fun z=>?_,fun z=>?_⟩
 ·have z:(((b.cells.map cj).length:Nat):Int)=0:=by simpa[aV]using z
  have cn:b.cells=[]:=by
   rw[zza]at z
   exact zzK.mp (by omega)
  unfold tby at h
  rw[if_pos cn]at h
  exact⟨sz,h⟩
 ·have z:(((b.cells.map cj).length:Nat):Int)≠0:=by simpa[aV]using z
  have cn:b.cells≠[]:=fun q=>z (by rw[q];rfl)
  unfold tby at h
  rw[if_neg cn]at h
  have em:(((b.marks.map D.int).length:Nat):Int)=((b.marks.length:Nat):Int):=by rw[zza]
  refine⟨rfl,b.marks.length,by rw[em],mk5,?_⟩
  have cok:∀s∈chs b.marks.length (b.marks.length+1),SoOk b s:=fun s hs=>by
   have:=BP mk5 (show b.marks.length+1 <= 6 by omega) hs
   exact⟨this.2.1,this.2.2,this.1⟩
  have cl:=gy _ mk5 (b.marks.length+1) (by omega)
  generalize chs b.marks.length (b.marks.length+1)=cs at h cok cl
  refine br (fun pre acc ρ=>∃c0 c1:List (List Int),cs=c0++c1/\pre=c0.map aq/\acc=(c0.filter (isT b x.toNat y.toNat)).map aq/\∃s:Sl,ρ=[s,.val (ck b),.val (.int x),.val (.int y)]) (fun acc ρ hN=>?_) (fun pre d post acc ρ Y e hN hY=>?_) _ ⟨[],cs,rfl,rfl,rfl,_,rfl⟩
  ·obtain⟨c0,c1,e1,e2,rfl,s,rfl⟩:=hN
   have:c1=[]:=by
    have:=congrArg List.length e2
    rw[e1]at this
    simp at this
    exact this
   subst this
   rw[zzy]at e1
   subst e1
   exact h
  ·obtain⟨c0,c1,e1,rfl,rfl,s,rfl⟩:=hN
   rw[e1,zzl]at e
   have e:=zzD e
   cases c1 with
   |nil=>simp at e
   |cons c c1 =>
    rw[zzc]at e
    injection e with e3 e4
    subst e3
    have so:=cok c (by rw[e1];simp)
    have tb:=sr bo cn c
    have c31:(c0.filter (isT b x.toNat y.toNat)).length <= 31:=by
     rw[e1,zzi]at cl
     exact zzk (zzN _ _) (by omega)
    refine⟨rfl,b,c,rfl,bo,so,rfl,b.m,tblB b c,rfl,tb,⟨ab.a0,ab.a1,ab.b0,ab.b1,ab.ne⟩,?_⟩
    obtain⟨w',r,ew,sw⟩:=pj (told (tblB b c) x.toNat y.toNat) (bd (tblB b c) x.toNat y.toNat)
    have ei:isT b x.toNat y.toNat c=eqD (.str w') (.str (PySem.Str.ofString "turned")):=by
     unfold isT trnB
     rw[ew]
     rfl
    rw[ew]
    refine lB (zyx 0) rfl ⟨⟨sw,ss⟩,fun z=>?_,fun z=>?_⟩
    ·have z:isT b x.toNat y.toNat c=true:=by rw[ei];exact z
     refine⟨?_,hY _ _ ⟨c0++[c],c1,by rw[e1];simp,by simp,?_,_,rfl⟩⟩
     ·rw[zza]
      exact zzC c31 (by decide)
     ·rw[zzQ,zzW z,zzl]
      rfl
    ·have z:isT b x.toNat y.toNat c=false:=by rw[ei];exact z
     refine hY _ _ ⟨c0++[c],c1,by rw[e1];simp,by simp,?_,_,rfl⟩
     rw[zzQ,zya (by rw[z];exact zzo)]
     simp
theorem FR{α:Type}(f:Int->α){n:Nat}{a:Int}(a0:0 <= a)(a1:a <= n):((List.range n).filter fun(i:Nat)=>decide (a <= (i:Int))).map (fun(i:Nat)=>f (i:Int))=(List.range (n - a.toNat)).map fun(i:Nat)=>f (a+(i:Int)):=by
 induction n with
 |zero=>simp
 |succ n ih =>
  rw[List.range_succ,zzQ,zzl,List.filter_cons]
  by_cases z:a <= (n:Int)
  ·rw[ih z,if_pos (decide_eq_true z),show n+1 - a.toNat=(n - a.toNat)+1 by omega,List.range_succ,zzl]
   congr 1
   show [f (n:Int)]=[f (a+((n - a.toNat:Nat):Int))]
   rw[show a+((n - a.toNat:Nat):Int)=(n:Int) by omega]
  ·rw[if_neg (by rw[decide_eq_true_eq];exact z),show n+1 - a.toNat=0 by omega]
   have:((List.range n).filter fun(i:Nat)=>decide (a <= (i:Int)))=[]:=by
    rw[List.filter_eq_nil_iff]
    intro i hi
    have:=zzR.mp hi
    rw[decide_eq_true_eq]
    omega
   rw[this]
   rfl
theorem qk(ks:List Int):shp (aq ks)=true:=Shp.shp (n:=1) (.tup fun d hd=>by
 obtain⟨k,_,rfl⟩:=zze.mp hd
 exact .int)
theorem vK(n:Nat):iA 0 n=(List.range n).map fun(i:Nat)=>D.int (i:Int):=by
 rw[dg]
 apply zzv
 intro i _
 simp
theorem AL{c:List Int}{x:Int}(hx:c.getLast? = some x):atI (c.map D.int) (-1)=some (.int x):=by
 have cp:0<c.length:=by
  cases c with
  |nil=>simp at hx
  |cons a r=>simp
 unfold atI ixN
 rw[zza,if_neg (by decide),if_pos (by omega)]
 show (c.map D.int)[(-1+(c.length:Int)).toNat]? = _
 rw[zzq,show (-1+(c.length:Int)).toNat=c.length - 1 by omega,←List.getLast?_eq_getElem?,hx]
 rfl
theorem AM{n:Nat}(n5:n <= 5){s:List Int}(s5:s.length <= 5)(so:∀x∈s,0 <= x/\x<(n:Int)){s0:Sl}{Q:List D->Prop}(q:Q ((extI n s).map aq)) :
  cF (ge 0) (dOr (dB (dOp (gEq false) (dVar 1) (dTup qS))) (dB (dOp (g2I0 fun i j=>D.bl (decide (j<i))) (dVar 0) (dOp gIx (dVar 1) (dUn gNeg (dC (D.int 1))))))) (dOp Dd (dVar 1) (dTup (jv (dVar 0) qS))) (iA 0 n) [] [s0,.val (aq s)] Q:=by
 have st:=vJ so
 have fe:∀k,((List.range k).filter fun(i:Nat)=>decide (aH s <= (i:Int))).length <= k:=fun k=>zzk (zzN _ _) (by rw[zyc];exact zzh _)
 rw[vK]
 refine br (fun pre acc ρ=>acc=(((List.range pre.length).filter fun(i:Nat)=>decide (aH s <= (i:Int))).map fun(i:Nat)=>s++[(i:Int)]).map aq/\∃s0,ρ=[s0,.val (aq s)]) (fun acc ρ hN=>?_) (fun pre d post acc ρ Y e hN hY=>?_) _ ⟨rfl,_,rfl⟩
 ·obtain⟨rfl,_⟩:=hN
  rw[zza,zyc]
  have e:=FR (fun i=>s++[i]) st.1 st.2
  rw[e]
  exact q
 ·obtain⟨rfl,s0,rfl⟩:=hN
  obtain⟨k,hk⟩:∃k,k=pre.length:=⟨_,rfl⟩
  have hg:((List.range n).map fun(i:Nat)=>D.int (i:Int))[k]? = some d:=by
   rw[e,hk,zzU (zzh _),Nat.sub_self]
   rfl
  have kn:k<n:=by
   have:=(zzm.mp hg).1
   simpa using this
  rw[zzq,zyL kn]at hg
  have hg:D.int (k:Int)=d:=by simpa using hg
  subst hg
  rw[←hk]
  have fk:=fe k
  have sn:(((List.range (pre++[D.int (k:Int)]).length).filter fun(i:Nat)=>decide (aH s <= (i:Int))).map fun(i:Nat)=>s++[(i:Int)]).map aq=(((List.range k).filter fun(i:Nat)=>decide (aH s <= (i:Int))).map fun(i:Nat)=>s++[(i:Int)]).map aq++(if aH s <= (k:Int) then[aq (s++[(k:Int)])] else[]):=by
   rw[zzi,zyE,←hk,List.range_succ,zzQ,zzl,zzl,List.filter_cons]
   by_cases z:aH s <= (k:Int)
   ·rw[if_pos (decide_eq_true z),if_pos z];rfl
   ·rw[if_neg (by rw[decide_eq_true_eq];exact z),if_neg z];rfl
  have ea:aq (s++[(k:Int)])=.tup (s.map D.int++[.int (k:Int)]):=by unfold aq;rw[zzl];rfl
  have yes:aH s <= (k:Int)->(s.map D.int).length+1 <= sizeLine/\(((((List.range k).filter fun(i:Nat)=>decide (aH s <= (i:Int))).map fun(i:Nat)=>s++[(i:Int)]).map aq).length<sizeLine/\Y ((((List.range k).filter fun(i:Nat)=>decide (aH s <= (i:Int))).map fun(i:Nat)=>s++[(i:Int)]).map aq++[.tup (s.map D.int++[.int (k:Int)])]) [.val (.int (k:Int)),.val (aq s)]):=fun z=>by
   refine⟨?_,?_,hY _ _ ⟨?_,_,rfl⟩⟩
   ·rw[zza]
    exact zzk (show s.length+1 <= 6 by omega) (by decide)
   ·rw[zza,zza]
    exact zzC (show _ <= 5 by omega) (by decide)
   ·rw[sn,if_pos z,ea]
  have no:¬aH s <= (k:Int)->Y ((((List.range k).filter fun(i:Nat)=>decide (aH s <= (i:Int))).map fun(i:Nat)=>s++[(i:Int)]).map aq) [.val (.int (k:Int)),.val (aq s)]:=fun z=>hY _ _ ⟨by rw[sn,if_neg z,zzy],_,rfl⟩
  cases hl:s.getLast? with
  |none =>
   have sn:s=[]:=List.getLast?_eq_none_iff.mp hl
   have es:aH s=0:=by unfold aH;rw[hl]
   have y:=yes (by omega)
   subst sn
   exact⟨sz,⟨rfl,rfl⟩,Br.t (Br.t ⟨sz,y⟩)⟩
  |some x =>
   have es:aH s=x+1:=by unfold aH;rw[hl]
   have ne:eqD (aq s) (.tup [])=false:=by
    cases s with
    |nil=>simp at hl
    |cons a r=>rfl
   refine⟨sz,⟨qk s,rfl⟩,fun z=>?_,fun _=>?_⟩
   ·have z:eqD (aq s) (.tup [])=true:=z
    rw[ne]at z
    cases z
   ·show opt (atI (s.map D.int) (-1)) _
    rw[AL hl]
    exact Br.di (fun z=>⟨sz,yes (by omega)⟩) (fun z=>no (by omega))
def gAC:DSp:=fun ds Q=>∃n:Nat,ds=[.int n]/\n <= 5/\Q (bY (chs n n))
theorem jP:aY gAC:=fun ds P P' f ⟨n,a,b,h⟩=>⟨n,a,b,f _ h⟩
theorem jQ(T:Tx K mg):FnOk P w K mg base CX0 1 T.cN T.cx ["_law_size"] (spD K 1 gAC):=by
 refine fnD (k:=0) T.bm.F sc__law_all_choices (fun cdv A outer s H E hr=>(ah (aM (i:=1) sc__law_all_choices.nd rfl oo (aN (bD (aa (aR ad) ad))))
   (ah (aM (i:=2) sc__law_all_choices.nd rfl oo (aN (bD ad)))
   (aZ (bE PassesOwn.never rfl (bN rfl T.cW (aa (ac 0 (pv 0)) ad)) (ar (i:=3) sc__law_all_choices.nd rfl oo) (ah (aM (i:=4) sc__law_all_choices.nd rfl oo (aN (bD ad)))
   (aZ (bE PassesOwn.never rfl (ba (ac 1 (pv 1))) (ar (i:=5) sc__law_all_choices.nd rfl oo) (ag (aM (i:=4) sc__law_all_choices.nd rfl oo (aN (uW (ac 4 (pv 4)) (aN (PCD.pld (aQ (N':=["_law_mark","_law_some"]) rfl rfl dk rfl (.own (.cap (j:=5) rfl oo rfl .nil)) dk (bN rfl T.cW (aa (ac 0 (pv 0)) ad)) (fun B=>(ar (i:=0) ndB rfl oo)) (fun B=>(kq (PWD.pt (lN (aG (cf hr) (ac 1 (pv 1)) (aR ad) (aw _)) (fY (aG lO (ac 0 (pv 0)) (aL (ac 1 (pv 1)) (mP gh af) (fun _ _=>rfl)) (aw _))))))) (fun B=>(bL yA (ac 1 (pv 1)) (aR (aa (ac 0 (pv 0)) ad))))))))))))
   (ah (aM (i:=1) sc__law_all_choices.nd rfl oo (ac 4 (pv 4)))
   (ag (aM (i:=2) sc__law_all_choices.nd rfl oo (aN (uW (ac 2 (pv 2)) (ac 1 (pv 1))))))))))
   (ag (ax (ac 2 (pv 2)))))))) (fun ds Q hl h=>?_)
 obtain⟨n,rfl,n5,h⟩:=h
 refine⟨sz,sz,sz,fun ρ=>∃s1 s3 s4 s5:Sl,ρ=[.val (.int n),s1,.val (bY (chs n n)),s3,s4,s5],?_,?_⟩
 ·refine⟨⟨by omega,by omega⟩,?_⟩
  rw[zzY,vK]
  refine bO (fun pre ρ=>∃s3 s4 s5:Sl,ρ=[.val (.int n),.val (bY (lv n pre.length)),.val (bY (chs n pre.length)),s3,s4,s5]) (fun ρ hN=>?_) (fun pre d post ρ X e hN hX=>?_) _ ⟨_,_,_,rfl⟩
  ·rw[zza,zyc]at hN
   obtain⟨s3,s4,s5,rfl⟩:=hN
   exact⟨_,_,_,_,rfl⟩
  ·obtain⟨s3,s4,s5,rfl⟩:=hN
   obtain⟨k,hk⟩:∃k,k=pre.length:=⟨_,rfl⟩
   have kn:k<n:=by
    have:=congrArg List.length e
    rw[zza,zyc,zzi,zzZ]at this
    omega
   rw[←hk]
   have l10:=mi n n5 k (by omega)
   have l11:=mi n n5 (k+1) (by omega)
   have c31:=gy n n5 k (by omega)
   have fin:∀s3 s4 s5:Sl,X [.val (.int n),.val (bY (lv n (k+1))),.val (bY (chs n (k+1))),s3,s4,s5]:=fun s3 s4 s5=>hX _ ⟨s3,s4,s5,by rw[zzi,zyE,←hk]⟩
   refine⟨sz,fun ρ=>∃s5:Sl,ρ=[.val (.int n),.val (bY (lv n k)),.val (bY (chs n k)),.val d,.val (bY (lv n (k+1))),s5],?_,?_⟩
   ·refine bO (fun pre ρ=>∃c0 c1:List (List Int),lv n k=c0++c1/\pre=c0.map aq/\∃s5:Sl,ρ=[.val (.int n),.val (bY (lv n k)),.val (bY (chs n k)),.val d,.val (bY (lgr n c0)),s5]) (fun ρ hN=>?_) (fun pre' d' post' ρ Z e' hN hZ=>?_) _ ⟨[],lv n k,rfl,rfl,_,rfl⟩
    ·obtain⟨c0,c1,e1,e2,s5,rfl⟩:=hN
     have:c1=[]:=by
      have:=congrArg List.length e2
      rw[e1]at this
      simp at this
      exact this
     subst this
     rw[zzy]at e1
     refine⟨s5,?_⟩
     have e3:lv n (k+1)=lgr n c0:=by rw[←e1];rfl
     rw[e3]
    ·obtain⟨c0,c1,e1,rfl,s5,rfl⟩:=hN
     have e':(lv n k).map aq=c0.map aq++d'::post':=e'
     rw[e1,zzl]at e'
     have e':=zzD e'
     cases c1 with
     |nil=>simp at e'
     |cons c c1 =>
      rw[zzc]at e'
      injection e' with e3 e4
      subst e3
      have co:=DC n5 (show k <= 6 by omega) (show c∈lv n k by rw[e1];simp)
      have cl:c0.length <= 10:=by rw[e1,zzi]at l10;omega
      have ll:=zg n c0
      have lm:n*c0.length <= 5*10:=Nat.mul_le_mul n5 cl
      have el:=zf n c
      refine⟨⟨by omega,by omega⟩,?_⟩
      rw[zzY]
      refine AM n5 co.1 co.2.1 ⟨?_,hZ _ ⟨c0++[c],c1,by rw[e1];simp,by simp,.val (aq c),?_⟩⟩
      ·rw[zza,zza]
       exact zzk (show _ <= 100 by omega) (by decide)
      ·have e6:bY (lgr n (c0++[c]))=.lst ((lgr n c0).map aq++(extI n c).map aq):=by
        unfold bY lgr
        rw[zye,zyj,zzl]
       rw[e6]
       rfl
   ·rintro _ ⟨s5,rfl⟩
    refine⟨?_,?_⟩
    ·rw[zza,zza]
     exact zzk (show _ <= 100 by omega) (by decide)
    ·have e6:bY (chs n (k+1))=.lst ((chs n k).map aq++(lv n (k+1)).map aq):=by
      show D.lst ((chs n k++lv n (k+1)).map aq)=_
      rw[zzl]
     have f:=fin (.val d) (.val (bY (lv n (k+1)))) s5
     rw[e6]at f
     exact f
 ·rintro _ ⟨s1,s3,s4,s5,rfl⟩
  exact h
def gLS:DSp:=fun ds Q=>∃t w t' w':Int,ds=[.lst [.int t,.int w,.int t',.int w']]/\(Bd 64 t/\Bd 64 w/\Bd 64 t'/\Bd 64 w')/\Q (gu t w t' w')
theorem cS:aY gLS:=fun ds P P' f ⟨t,w,t',w',a,b,h⟩=>⟨t,w,t',w',a,b,f _ h⟩
theorem cT(T:Tx K mg):FnOk P w K mg base CX0 1 T.iU T.gI ["_law_one"] (spD K 1 gLS):=by
 refine fnD (k:=0) T.ay.F sc__law_said (fun cdv A outer s H E hr=>(ah (bx (PWD.pt (lN (aG (cf hr) (aL (ac 0 (pv 0)) af (fun _ _=>rfl)) af (aw _)) (fY (aG (cf hr) (aL (ac 0 (pv 0)) af (fun _ _=>rfl)) af (aw _))))) (ag (ax uJ)) aA)
   (ah (aM (i:=1) sc__law_said.nd rfl oo (bL jx (aL (ac 0 (pv 0)) af (fun _ _=>rfl)) (aL (ac 0 (pv 0)) af (fun _ _=>rfl))))
   (ah (aM (i:=2) sc__law_said.nd rfl oo (bL jx (aL (ac 0 (pv 0)) af (fun _ _=>rfl)) (aL (ac 0 (pv 0)) af (fun _ _=>rfl))))
   (ag (ax (bL qV (aU qX rfl T.uv rfl (aa (dO lO (ac 1 (pv 1)) (ac 2 (pv 2)) (aw _)) ad)) (aU qX rfl T.uv rfl (aa (dO EZ (ac 1 (pv 1)) (ac 2 (pv 2)) (aw _)) ad))))))))) (fun ds Q hl h=>?_)
 obtain⟨t,w,t',w',rfl,⟨b1,b2,b3,b4⟩,h⟩:=h
 unfold gu at h
 refine⟨⟨rfl,rfl⟩,fun e=>Br.t ?_,fun e=>⟨⟨rfl,rfl⟩,fun e'=>?_,fun e'=>?_⟩⟩
 ·have e:t=0:=by simpa[aV]using e
  rw[if_pos (.inl e)]at h
  exact h
 ·have e':t'=0:=by simpa[aV]using e'
  rw[if_pos (.inr e')]at h
  exact h
 ·have e:t≠0:=by simpa[aV]using e
  have e':t'≠0:=by simpa[aV]using e'
  rw[if_neg (by omega)]at h
  refine⟨b2.cmul b3,b4.cmul b1,?_⟩
  show Q (.int ((if decide (w'*t<w*t')=true then 1 else 0) - (if decide (w*t'<w'*t)=true then 1 else 0)))
  rw[Int.mul_comm t w']at h
  by_cases c:w'*t<w*t'
  ·have c':¬w*t'<w'*t:=by omega
   simpa[c,c']using h
  ·by_cases c':w*t'<w'*t
   ·simpa[c,c']using h
   ·simpa[c,c']using h
structure C57(c:Int×Int):Prop where
 lo:0 <= c.2
 hi:c.2 <= c.1
 u:c.1 <= 100
def gCt:DSp:=fun ds Q=>∃(h:Int) (e t:Bool),ds=[.pen,.int h,.bl e,.bl t]/\(0 <= h/\h <= 10)/\∀c:Int×Int,C57 c->Q (bX c)
theorem sv:aY gCt:=fun ds P P' f ⟨h,e,t,a,b,c⟩=>⟨h,e,t,a,b,fun x y=>f _ (c x y)⟩
theorem BQ{a b:Int}{x:Bool}{Q:D->Prop}(q:∀n,n=a∨n=b->Q (.int n)):opt (atI [D.int a,.int b] (if x=true then 1 else 0)) Q:=by
 cases x
 ·exact q a (.inl rfl)
 ·exact q b (.inr rfl)
theorem sx(T:Tx K mg):FnOk P w K mg base CX0 2 T.gP T.fS ["_law_pen_here","_law_house","_law_even","_law_tilted"] (spD K 4 gCt):=by
 refine fnD (k:=1) T.dq.F sc__law_count (fun cdv A outer s H E hr=>(ah (bx (de (cE (ac 3 (pv 3)))) (ah (aM (i:=4) sc__law_count.nd rfl oo (ai (aD T) aE (rm hr) rfl T.ae.m T.ae.F.kp T.ae.b (aa (ac 0 (pv 0)) (aa af ad))))
   (ag (ax (aR (aa (ac 4 (pv 4)) (aa (ai (aD T) aE (rm hr) rfl T.ae.m T.ae.F.kp T.ae.b (aa (ac 0 (pv 0)) (aa (bL dP (ac 4 (pv 4)) af) ad))) ad)))))) aA)
   (ah (aM (i:=5) sc__law_count.nd rfl oo (dO (cf hr) (dO (cf hr) (bL xO (ac 1 (pv 1)) af) af (aw _)) (ac 2 (pv 2)) (aw _)))
   (ah (aM (i:=4) sc__law_count.nd rfl oo (bL dP (aL (aN (bD (aa af (aa af ad)))) (aU qX rfl T.uv rfl (aa (ac 5 (pv 5)) ad)) (fun _ _=>rfl)) (ai (aD T) aE (rm hr) rfl T.ae.m T.ae.F.kp T.ae.b (aa (ac 0 (pv 0)) (aa af ad)))))
   (ah (aM (i:=6) sc__law_count.nd rfl oo (bL dP (bL dP (bL Cy (bL jx (ac 4 (pv 4)) (aL (aN (bD (aa af (aa af ad)))) (aU qX rfl T.uv rfl (aa (ac 2 (pv 2)) ad)) (fun _ _=>rfl))) af) (aU qX rfl T.uv rfl (aa (dO (cf hr) (bL xO (ac 1 (pv 1)) af) af (aw _)) ad))) (ai (aD T) aE (rm hr) rfl T.ae.m T.ae.F.kp T.ae.b (aa (ac 0 (pv 0)) (aa af ad)))))
   (ag (ax (aR (aa (ac 4 (pv 4)) (aa (au xX rfl T.Bb PyProof.Rows.boot_min (aa (ac 4 (pv 4)) (aa (ac 6 (pv 6)) ad))) ad)))))))))) (fun ds Q hl h=>?_)
 obtain⟨hh,e,t,rfl,⟨h0,h1⟩,h⟩:=h
 cases t with
 |false =>
  refine Br.t ⟨rfl,⟨by decide,by decide⟩,fun r r0 r1=>⟨rfl,⟨by omega,by omega⟩,fun w w0 w1=>⟨sz,h (r,w) ⟨w0,?_,?_⟩⟩⟩⟩
  ·show w <= r
   omega
  ·show r <= 100
   omega
 |true =>
  refine Br.f ⟨show (0:Int)<2 by decide,⟨rfl,rfl⟩,⟨rfl,rfl⟩,sz,?_⟩
  refine BQ fun n hn=>⟨rfl,⟨by decide,by decide⟩,fun r r0 r1=>⟨sz,?_⟩⟩
  refine BQ fun m hm=>⟨?_,?_,show (0:Int)<2 by decide,⟨rfl,rfl⟩,rfl,⟨by decide,by decide⟩,fun u u0 u1=>?_⟩
  ·exact .inl ⟨by omega,by omega⟩
  ·exact⟨by decide,mI (by decide) (by decide)⟩
  ·obtain⟨v,hv,v01⟩:∃v:Int,v=(if (if false=true then !eqD (.int (hh % 2)) (.int 0) else eqD (.int (hh % 2)) (.int 0))=true then 1 else 0)/\(v=0∨v=1):=by
    refine⟨_,rfl,?_⟩
    cases (if false=true then !eqD (.int (hh % 2)) (.int 0) else eqD (.int (hh % 2)) (.int 0))
    ·exact .inl rfl
    ·exact .inr rfl
   have dv:0 <= (n+r)*m / 10:=Int.ediv_nonneg (Int.mul_nonneg (by omega) (by omega)) (by decide)
   have fin:∀z:Int,0 <= z->Q (bX (n+r,if z<n+r then z else n+r)):=fun z z0=>h _ ⟨by show 0 <= (if z<n+r then z else n+r);split<;>omega,by show (if z<n+r then z else n+r) <= n+r;split<;>omega,by show n+r <= 100;omega⟩
   have f:=fin ((n+r)*m / 10+v+u) (by omega)
   rw[hv]at f
   exact⟨sz,f⟩
def FS:DSp:=fun ds Q=>∃(n:Nat) (ms:List Int),ds=[.pen,.int n,.lst (ms.map D.int)]/\(2 <= n/\n <= 6)/\MsOk ms/\1 <= ms.length/\∀rs:List Rw,rs.length <= 25->(∀r∈rs,RwOk n ms r/\r.t <= 100)->Q (.lst (rs.map rwD))
theorem um:aY FS:=fun ds P P' f ⟨n,ms,a,b,c,d,h⟩=>⟨n,ms,a,b,c,d,fun rs x y=>f _ (h rs x y)⟩
theorem uo(T:Tx K mg):FnOk P w K mg base CX0 3 T.je T.gO ["_law_pen_here","_law_many","_law_marks"] (spD K 3 FS):=by
 refine fnD (k:=2) T.eu.F sc__law_rows (fun cdv A outer s H E hr=>(ah (aM (i:=3) sc__law_rows.nd rfl oo (dO (cf hr) (ai (aD T) aE (rm hr) rfl T.ae.m T.ae.F.kp T.ae.b (aa (ac 0 (pv 0)) (aa af ad))) af (aw _)))
   (ah (aM (i:=4) sc__law_rows.nd rfl oo (ai (aD T) aE (rm hr) rfl T.ae.m T.ae.F.kp T.ae.b (aa (ac 0 (pv 0)) (aa (au bF rfl T.cD zzE (aa (ac 2 (pv 2)) ad)) ad))))
   (ah (jw (i:=5) sc__law_rows.nd rfl oo (bD ad))
   (aZ (bE PassesOwn.never rfl (bN rfl T.cW (aa (ai (aD T) aE (rm hr) rfl T.ae.m T.ae.F.kp T.ae.b (aa (ac 0 (pv 0)) (aa (aL (aN (bD (aa af (aa af ad)))) (ai (aD T) aE (rm hr) rfl T.ae.m T.ae.F.kp T.ae.b (aa (ac 0 (pv 0)) (aa af ad))) (fun _ _=>rfl)) ad))) ad)) (ar (i:=6) sc__law_rows.nd rfl oo) (ah (aM (i:=7) sc__law_rows.nd rfl oo (aU cX rfl T.bU rfl (aa (aN (PCD.pld (aQ (N':=["_law_kinds","_law_pen_here"]) rfl rfl dk rfl (.own (.cap (j:=0) rfl oo rfl .nil)) dk (ba (ac 2 (pv 2))) (fun B=>(ar (i:=0) ndB rfl oo)) (fun B=>bb) (fun B=>(ai (aD T) aE (rm hr) rfl T.ae.m T.ae.F.kp T.ae.b (aa (ac 1 (pv 1)) (aa (ac 0 (pv 0)) ad))))))) ad)))
   (aZ (bx (PWD.pt (oI (aG lO (ac 6 (pv 6)) af (aw _)) (mO (aG (cf hr) (ai (aD T) aE (rm hr) rfl T.ae.m T.ae.F.kp T.ae.b (aa (ac 0 (pv 0)) (aa af ad))) af (aw _))))) (ag (aM (i:=7) sc__law_rows.nd rfl oo (aL (Fk (pv 5) (ai (aD T) aE (rm hr) rfl T.ae.m T.ae.F.kp T.ae.b (aa (ac 0 (pv 0)) (aa (ac 6 (pv 6)) ad))) (fun _ _=>rfl)) af (fun _ _=>rfl)))) aA)
   (ah (aM (i:=8) sc__law_rows.nd rfl oo (ai (aD T) aE (rm hr) rfl T.ae.m T.ae.F.kp T.ae.b (aa (ac 0 (pv 0)) (aa (ac 1 (pv 1)) ad))))
   (ag (qY (pv 5) (bL CD (aR (aa (ac 8 (pv 8)) (aa (ac 7 (pv 7)) ad))) (ai (sx T) sv (rm hr) rfl T.dq.m T.dq.F.kp T.dq.b (aa (ac 0 (pv 0)) (aa (ac 8 (pv 8)) (aa (dO (cf hr) (bL xO (aL (ac 7 (pv 7)) (ac 4 (pv 4)) (fun _ _=>rfl)) af) af (aw _)) (aa (ac 3 (pv 3)) ad))))))))))))
   (ag (ax (ac 5 (pv 5))))))))) (fun ds Q hl h=>?_)
 obtain⟨n,ms,rfl,⟨n2,n6⟩,mo,m1,h⟩:=h
 have m5:=mo.l5
 have em:(((ms.map D.int).length:Nat):Int)=ms.length:=by rw[zza]
 refine⟨rfl,⟨by decide,by decide⟩,fun z z0 z1=>⟨⟨rfl,rfl⟩,rfl,⟨by omega,by omega⟩,fun mk mk0 mk1=>⟨sz,?_⟩⟩⟩
 generalize htl:eqD (D.int z) (.int 0)=tl
 refine⟨fun ρ=>∃rs:List Rw,rs.length <= 25/\(∀r∈rs,RwOk n ms r/\r.t <= 100)/\∃a b c:Sl,ρ=[.val .pen,.val (.int n),.val (.lst (ms.map D.int)),.val (.bl tl),.val (.int mk),.own (rs.map rwD),a,b,c],?_,?_⟩
 ·refine⟨sz,rfl,⟨by decide,by decide⟩,fun z z0 z1=>CF z0 z1 fun d hd=>?_⟩
  have hc:∃c:Int,d=.int c/\1 <= c/\c <= 26:=by
   simp only[zzj,zyi,or_false]at hd
   rcases hd with rfl|rfl
   ·exact⟨_,rfl,by decide,by decide⟩
   ·exact⟨_,rfl,by decide,by decide⟩
  obtain⟨c,rfl,c0,c1⟩:=hc
  refine⟨rfl,⟨by omega,by omega⟩,fun x x0 x1=>⟨⟨by omega,by omega⟩,?_⟩⟩
  refine eF (fun k ρ=>∃rs:List Rw,(rs.length:Int)=k/\(∀r∈rs,RwOk n ms r/\r.t <= 100)/\∃a b c:Sl,ρ=[.val .pen,.val (.int n),.val (.lst (ms.map D.int)),.val (.bl tl),.val (.int mk),.own (rs.map rwD),a,b,c]) _ _ ?_ ?_ _ ⟨[],rfl,fun r hr=>by simp at hr,.nil,.nil,.nil,rfl⟩
  ·rintro ρ ⟨rs,rl,ro,a,b,c,rfl⟩
   exact⟨rs,by omega,ro,a,b,c,rfl⟩
  ·rintro k ρ X k0 k1 ⟨rs,rl,ro,a,b,c,rfl⟩ hX
   refine br (fun pre acc ρ=>∃m0 m1 ks:List Int,ms=m0++m1/\pre=m0.map D.int/\acc=ks.map D.int/\ks.length=m0.length/\(∀(i:Nat) (k m:Int),ks[i]? = some k->m0[i]? = some m->0 <= k/\k<m)/\∃s,ρ=[s,.val .pen]) (fun acc ρ hN=>?_) (fun pre d post acc ρ Y e hN hY=>?_) _ ⟨[],ms,[],rfl,rfl,rfl,rfl,fun i k m hk=>by simp at hk,_,rfl⟩
   ·obtain⟨m0,m1,ks,e1,e2,rfl,kl,kk,s,rfl⟩:=hN
    have:m1=[]:=by
     have:=congrArg List.length e2
     rw[e1]at this
     simp at this
     exact this
    subst this
    rw[zzy]at e1
    subst e1
    refine⟨fun ρ=>∃ks:List Int,ks.length=ms.length/\(∀(i:Nat) (k m:Int),ks[i]? = some k->ms[i]? = some m->0 <= k/\k<m)/\ρ=[.val .pen,.val (.int n),.val (.lst (ms.map D.int)),.val (.bl tl),.val (.int mk),.own (rs.map rwD),.val (.int k),.val (aq ks),c],?_,?_⟩
    ·refine Br.di (fun kp=>?_) (fun _=>Br.f ⟨ks,kl,kk,rfl⟩)
     refine⟨rfl,⟨by decide,by decide⟩,fun u u0 u1=>⟨⟨rfl,rfl⟩,fun _=>?_,fun _=>⟨ks,kl,kk,rfl⟩⟩⟩
     refine⟨trivial,rfl,⟨by omega,by omega⟩,fun q q0 q1=>?_⟩
     obtain⟨d0,ed,ed2⟩:=Bn (xs:=rs) q0 (by omega)
     have r0:=ro d0 (zzM ed2)
     exact lB (d:=rwD d0) q0 (by rw[zzq,ed2];rfl) ⟨d0.ks,r0.1.kl,r0.1.kk,rfl⟩
    ·rintro _ ⟨ks,kl,kk,rfl⟩
     refine⟨rfl,⟨by omega,by omega⟩,fun hh hh0 hh1=>⟨trivial,sz,?_⟩⟩
     have km:mk.toNat<ks.length:=by omega
     refine lB (d:=.int (ks.getD mk.toNat 0)) mk0 (by rw[zzq,zzF,zzB km];rfl) ⟨show (0:Int)<2 by decide,⟨rfl,rfl⟩,rfl,hh,_,tl,rfl,⟨hh0,by omega⟩,fun cc oc=>⟨⟨by simp,sz⟩,?_,hX _ ⟨rs++[⟨hh,ks,cc.1,cc.2⟩],by simp;omega,fun r hr=>?_,_,_,_,by rw[zzl];rfl⟩⟩⟩
     ·rw[zza]
      exact zzC (show rs.length <= 100 by omega) (by decide)
     ·rcases zzw.mp hr with hr|hr
      ·exact ro r hr
      ·rw[zzx.mp hr]
       have:=oc.u
       exact⟨⟨hh0,hh1,kl,kk,oc.lo,oc.hi,by show cc.1 <= 10^12;omega⟩,oc.u⟩
   ·obtain⟨m0,m1,ks,e1,rfl,rfl,kl,kk,s,rfl⟩:=hN
    rw[e1,zzl]at e
    have e:=zzD e
    cases m1 with
    |nil=>simp at e
    |cons x m1 =>
     rw[zzc]at e
     injection e with e3 e4
     subst e3
     have hx:=mo.it x (by rw[e1];simp)
     rw[e1,zzi]at m5
     refine Br.t ⟨rfl,⟨by omega,by omega⟩,fun r r0 r1=>⟨?_,hY _ _ ⟨m0++[x],m1,ks++[r],by rw[e1];simp,by simp,by simp,by simp[kl],fun i k m hk hm=>?_,_,rfl⟩⟩⟩
     ·rw[zza,kl]
      exact zzC (show m0.length <= 10 by omega) (by decide)
     ·by_cases z:i<m0.length
      ·rw[zyk (by omega)]at hk
       rw[zyk z]at hm
       exact kk i k m hk hm
      ·rw[zzU (by omega)]at hk
       rw[zzU (by omega)]at hm
       have z2:i - m0.length=0:=by
        have:=(zzm.mp hm).1
        simp at this
        omega
       rw[kl,z2]at hk
       rw[z2]at hm
       simp at hk hm
       omega
 ·rintro _ ⟨rs,rl,ro,a,b,c,rfl⟩
  exact h rs rl ro
def addX{α:Type}(k:List Int)(r:α):List (List Int×List α)->List (List Int×List α)
 |[]=>[(k,[r])]
 |p::t=>if p.1=k then(p.1,p.2++[r])::t else p::addX k r t
def grpX{α:Type}(ps:List (List Int×α)):List (List Int×List α):=ps.foldl (fun g p=>addX p.1 p.2 g) []
theorem zj{α:Type}(ps:List (List Int×α))(p:List Int×α):grpX (ps++[p])=addX p.1 p.2 (grpX ps):=by
 unfold grpX
 rw[List.foldl_append]
 rfl
theorem jR{α:Type}(k:List Int)(r:α):∀g:List (List Int×List α),(addX k r g).map (·.1)=if k∈g.map (·.1) then g.map (·.1) else g.map (·.1)++[k]
 |[]=>rfl
 |p::t=>by
  unfold addX
  by_cases e:p.1=k
  ·rw[if_pos e,if_pos (by simp[e])]
   rfl
  ·rw[if_neg e,zzc,jR k r t]
   by_cases m:k∈t.map (·.1)
   ·rw[if_pos m,if_pos (by rw[zzc];exact zzb _ m),zzc]
   ·rw[if_neg m,if_neg (by rw[zzc];intro z;rcases zzj.mp z with z|z;exact e z.symm;exact m z),zzc]
    rfl
def xsOf{α:Type}(g:List (List Int×List α))(k:List Int):List α:=((g.find? fun p=>decide (p.1=k)).map (·.2)).getD []
theorem sy{α:Type}(k:List Int)(r:α)(k':List Int):∀g:List (List Int×List α),xsOf (addX k r g) k'=if k=k' then xsOf g k'++[r] else xsOf g k'
 |[]=>by
  unfold addX xsOf
  by_cases e:k=k'
  ·rw[if_pos e,zzt (by simpa using e)]
   rfl
  ·rw[if_neg e,zzu (by simpa using e)]
 |p::t=>by
  have ih:=sy k r k' t
  unfold addX
  unfold xsOf at ih ⊢
  by_cases e:p.1=k
  ·rw[if_pos e]
   by_cases e2:k=k'
   ·rw[if_pos e2,zzt (by simp[e,e2]),zzt (by simp[e,e2])]
    rfl
   ·rw[if_neg e2,zzu (by simp[e,e2]),zzu (by simp[e,e2])]
  ·rw[if_neg e]
   by_cases e2:p.1=k'
   ·rw[zzt (by simpa using e2),zzt (by simpa using e2),if_neg (fun z=>e (by rw[e2,z]))]
   ·rw[zzu (by simpa using e2),zzu (by simpa using e2)]
    exact ih
theorem nV{α:Type}(ps:List (List Int×α))(k:List Int):xsOf (grpX ps) k=(ps.filter fun p=>decide (p.1=k)).map (·.2):=by
 have key:∀(qs:List (List Int×α)) g,xsOf (qs.foldl (fun g (p:List Int×α)=>addX p.1 p.2 g) g) k=xsOf g k++(qs.filter fun p=>decide (p.1=k)).map (·.2):=by
  intro qs
  induction qs with
  |nil=>intro g;simp
  |cons q t ih =>
   intro g
   rw[zyD,ih,sy]
   by_cases e:q.1=k
   ·rw[if_pos e,zzW (by simpa using e),zzc,zym]
    rfl
   ·rw[if_neg e,zya (by simpa using e)]
 rw[grpX,key]
 rfl
theorem vL{α:Type}(ps:List (List Int×α))(k:List Int):k∈(grpX ps).map (·.1)↔k∈ps.map (·.1):=by
 have key:∀(qs:List (List Int×α)) g,k∈(qs.foldl (fun g (p:List Int×α)=>addX p.1 p.2 g) g).map (·.1)↔k∈g.map (·.1)∨k∈qs.map (·.1):=by
  intro qs
  induction qs with
  |nil=>intro g;simp
  |cons q t ih =>
   intro g
   rw[zyD,ih,jR,zzc,zzj]
   by_cases m:q.1∈g.map (·.1)
   ·rw[if_pos m]
    constructor
    ·rintro(h|h)
     ·exact .inl h
     ·exact .inr (.inr h)
    ·rintro(h|h|h)
     ·exact .inl h
     ·exact .inl (h ▸ m)
     ·exact .inr h
   ·rw[if_neg m,zzw,zzx]
    constructor
    ·rintro((h|h)|h)
     ·exact .inl h
     ·exact .inr (.inl h)
     ·exact .inr (.inr h)
    ·rintro(h|h|h)
     ·exact .inl (.inl h)
     ·exact .inl (.inr h)
     ·exact .inr h
 rw[grpX,key]
 simp
theorem qm{α:Type}(ps:List (List Int×α)):((grpX ps).map (·.1)).Nodup:=by
 have key:∀(qs:List (List Int×α)) g,(g.map (·.1)).Nodup->((qs.foldl (fun g (p:List Int×α)=>addX p.1 p.2 g) g).map (·.1)).Nodup:=by
  intro qs
  induction qs with
  |nil=>intro g h;exact h
  |cons q t ih =>
   intro g h
   rw[zyD]
   refine ih _ ?_
   rw[jR]
   by_cases m:q.1∈g.map (·.1)
   ·rw[if_pos m];exact h
   ·rw[if_neg m]
    refine List.nodup_append.mpr ⟨h,by simp,fun a ha b hb e=>?_⟩
    rw[zzx.mp hb]at e
    exact m (e ▸ ha)
 exact key ps [] List.nodup_nil
def bf(n:Nat)(rs:List Rw):Row:=(List.range n).map fun(h:Nat)=>(((rs.filter fun r=>decide (r.h=(h:Int))).map (·.t)).sum,((rs.filter fun r=>decide (r.h=(h:Int))).map (·.w)).sum)
theorem Hk(kds:List (List Key×D)):fzO (dvO kds)=.dT (kds.map (·.1)) (kds.map (·.2)):=by
 unfold dvO
 simp only[fzO]
 congr 1
 rw[lV,zzg]
 apply zzv
 intro p _
 simp only[Function.comp,fzO]
theorem vM{α:Type}{p:α->Bool}{l:List α}{n:Nat}(h:l.length <= n):(l.filter p).length <= n:=zzk (zzN _ _) h
def cI(rs:List Rw)(so:List Int):List (List Int×Rw):=(rs.filter fun r=>decide (0<r.t)).map fun r=>(vals r.ks so,r)
def dueL(n:Nat)(rs:List Rw)(so:List Int):List (List Int×Row):=(cH ((grpX (cI rs so)).map (·.1))).map fun k=>(k,bf n (xsOf (grpX (cI rs so)) k))
theorem uq(rs:List Rw)(so:List Int)(r:Rw):cI (rs++[r]) so=if 0<r.t then cI rs so++[(vals r.ks so,r)] else cI rs so:=by
 unfold cI
 rw[zzQ]
 by_cases h:0<r.t
 ·rw[if_pos h,zzW (by simpa using h)]
  simp
 ·rw[if_neg h,zya (by simpa using h)]
  simp
theorem vN{α:Type}(ps:List (List Int×α)):(grpX ps).length <= ps.length:=by
 have key:∀(qs:List (List Int×α)) g,(qs.foldl (fun g (p:List Int×α)=>addX p.1 p.2 g) g).length <= g.length+qs.length:=by
  intro qs
  induction qs with
  |nil=>intro g;simp
  |cons q t ih =>
   intro g
   rw[zyD,zzZ]
   have h1:=ih (addX q.1 q.2 g)
   have h2:=congrArg List.length (jR q.1 q.2 g)
   rw[zza]at h2
   have h3:(addX q.1 q.2 g).length <= g.length+1:=by
    rw[h2]
    split
    ·rw[zza];omega
    ·rw[zzi,zza];simp
   omega
 have:=key ps []
 simpa[grpX]using this
def embG{α:Type}(F:List α->D)(g:List (List Int×List α)):List (List Key×D):=g.map fun p=>(kI p.1,F p.2)
theorem sA{α:Type}(F:List α->D)(k:List Int):∀g:List (List Int×List α),(fB (embG F g) (kI k)).getD (F [])=F (xsOf g k)
 |[]=>rfl
 |p::t=>by
  have ih:=sA F k t
  unfold fB embG xsOf at ih ⊢
  rw[zzc]
  by_cases e:p.1=k
  ·rw[zzt (by simpa[wy]using e),zzt (by simpa using e)]
   rfl
  ·rw[zzu (by simpa[wy]using e),zzu (by simpa using e)]
   exact ih
theorem vO{α:Type}(F:List α->D)(k:List Int)(r:α):∀(g:List (List Int×List α)),(g.map (·.1)).Nodup->putA (embG F g) (kI k) (F (xsOf g k++[r]))=embG F (addX k r g)
 |[],_=>rfl
 |p::t,nd=>by
  have nd':=zzL.mp (by simpa using nd:(p.1::t.map (·.1)).Nodup)
  by_cases e:p.1=k
  ·have er:xsOf (p::t) k=p.2:=by
    unfold xsOf
    rw[zzt (by simpa using e)]
    rfl
   have et:(embG F t).map (fun q=>if q.1=kI k then(q.1,F (xsOf (p::t) k++[r])) else q)=embG F t:=by
    rw[←List.map_id (embG F t),zzg]
    apply zzv
    intro q hq
    obtain⟨q',hq',rfl⟩:=zze.mp hq
    simp only[Function.comp,id]
    rw[if_neg]
    intro z
    exact nd'.1 (by rw[e,←lE z];exact zze.mpr ⟨q',hq',rfl⟩)
   unfold putA addX
   rw[if_pos e]
   have ea:((embG F (p::t)).any fun q=>decide (q.1=kI k))=true:=by
    rw[List.any_eq_true]
    exact⟨(kI p.1,F p.2),zzd,by simp[e]⟩
   rw[if_pos ea]
   show (if kI p.1=kI k then(kI p.1,F (xsOf (p::t) k++[r])) else(kI p.1,F p.2))::(embG F t).map _=(kI p.1,F (p.2++[r]))::embG F t
   rw[if_pos (by rw[e]),et,er]
  ·have er:xsOf (p::t) k=xsOf t k:=by
    unfold xsOf
    rw[zzu (by simpa using e)]
   have ih:=vO F k r t nd'.2
   have nk:¬kI p.1=kI k:=fun z=>e (lE z)
   unfold putA at ih ⊢
   unfold addX
   rw[if_neg e,er]
   have ea:((embG F (p::t)).any fun q=>decide (q.1=kI k))=(embG F t).any fun q=>decide (q.1=kI k):=by
    show (decide (kI p.1=kI k) || (embG F t).any fun q=>decide (q.1=kI k))=_
    rw[decide_eq_false nk,Bool.false_or]
   rw[ea]
   by_cases a:((embG F t).any fun q=>decide (q.1=kI k))=true
   ·rw[if_pos a]at ih ⊢
    show (if kI p.1=kI k then _ else(kI p.1,F p.2))::(embG F t).map _=(kI p.1,F p.2)::embG F (addX k r t)
    rw[if_neg nk,ih]
   ·rw[if_neg a]at ih ⊢
    show (kI p.1,F p.2)::(embG F t++_)=(kI p.1,F p.2)::embG F (addX k r t)
    rw[ih]
theorem fJ{α:Type}{F G:α->Int}{l:List α}(h:∀x∈l,F x=G x):(l.map F).sum=(l.map G).sum:=by rw[zzv h]
theorem zk{F:Rw->Int}{P:List Int->Bool}{K:List (List Int)}(nd:K.Nodup):∀{rs:List Rw},(∀r∈rs,r.ks∈K) ->
  (K.map fun k=>if P k=true then(rs.map fun r=>if r.ks=k then F r else 0).sum else 0).sum=(rs.map fun r=>if P r.ks=true then F r else 0).sum
 |[],_=>jO fun k _=>by
  split<;>rfl
 |r::rs,h=>by
  rw[zzc,zzI,←zk nd fun x hx=>h x (zzb _ hx)]
  have e:(K.map fun k=>if P k=true then((r::rs).map fun r=>if r.ks=k then F r else 0).sum else 0).sum=(K.map fun k=>(if r.ks=k then(if P r.ks=true then F r else 0) else 0)+(if P k=true then(rs.map fun r=>if r.ks=k then F r else 0).sum else 0)).sum:=by
   apply fJ
   intro k _
   rw[zzc,zzI]
   by_cases e1:r.ks=k
   ·subst e1
    rw[if_pos rfl,if_pos rfl]
    split
    ·rfl
    ·rfl
   ·rw[if_neg e1,if_neg e1,Int.zero_add,Int.zero_add]
  rw[e,qj,uf nd (h r zzd)]
theorem DD{n:Nat}{ms:List Int}{r:Rw}(o:RwOk n ms r){h:Nat}(hh:h<n):at_ (gb n r) h=if r.h=(h:Int) then(r.t,r.w) else(0,0):=by
 unfold at_ gb
 have h0:=o.h0
 have h1:=o.h1
 rw[zzF,List.getElem?_set]
 by_cases e:r.h=(h:Int)
 ·rw[if_pos e,if_pos (by omega),if_pos (by rw[List.length_replicate];omega)]
  rfl
 ·rw[if_neg e,if_neg (by omega),List.getElem?_replicate,if_pos hh]
  rfl
def prs(n:Nat)(rs:List Rw):List (List Int×Row):=rs.map fun r=>(r.ks,gb n r)
theorem qo(n:Nat)(rs:List Rw)(k:List Int):bK (grp (prs n rs)) k=(rs.filter fun r=>decide (r.ks=k)).map (gb n):=by
 rw[kP]
 unfold prs
 rw[zyG,zzg]
 rfl
structure Part(pr:Int×Int->Int)(fr:Rw->Int):Prop where
 un:∀r:Rw,pr (r.t,r.w)=fr r
 z:pr (0,0)=0
 su:∀cs,pr (sumP cs)=(cs.map pr).sum
theorem DF:Part (·.1) (·.t):=⟨fun _=>rfl,rfl,fun _=>rfl⟩
theorem Hl:Part (·.2) (·.w):=⟨fun _=>rfl,rfl,fun _=>rfl⟩
section
variable{n:Nat}{ms:List Int}{rs:List Rw}{pr:Int×Int->Int}{fr:Rw->Int}
theorem zl(pt:Part pr fr)(ro:∀r∈rs,RwOk n ms r){h:Nat}(hh:h<n)(k:List Int):pr (at_ (sums (bK (grp (prs n rs)) k) n) h)=(rs.map fun r=>if r.ks=k then(if r.h=(h:Int) then fr r else 0) else 0).sum:=by
 rw[kR hh,qo,pt.su]
 unfold col
 rw[zzg,zzg,eI]
 apply fJ
 intro r hr
 by_cases e:r.ks=k
 ·rw[if_pos (by simpa using e),if_pos e]
  show pr (at_ (gb n r) h)=_
  rw[DD (ro r hr) hh]
  split
  ·exact pt.un r
  ·exact pt.z
 ·rw[if_neg (by simpa using e),if_neg e]
theorem zm{F:Rw->Int}:∀{l:List Rw},0<(l.map F).sum->∃r∈l,0<F r
 |[],h=>by simp at h
 |r::l,h=>by
  rw[zzc,zzI]at h
  by_cases e:0<F r
  ·exact⟨r,zzd,e⟩
  ·obtain⟨x,hx,hp⟩:=zm (F:=F) (l:=l) (by omega)
   exact⟨x,zzb _ hx,hp⟩
theorem jS(ro:∀r∈rs,RwOk n ms r)(k:List Int):lG (sums (bK (grp (prs n rs)) k) n)=true↔∃r∈rs,r.ks=k/\0<r.t:=by
 rw[triedB_iff]
 constructor
 ·rintro⟨c,hc,hp⟩
  obtain⟨h,hh,rfl⟩:=zze.mp hc
  have hh:=zzR.mp hh
  have e:=zl DF ro hh k
  rw[kR hh]at e
  rw[e]at hp
  obtain⟨r,hr,q⟩:=zm hp
  by_cases e1:r.ks=k
  ·rw[if_pos e1]at q
   by_cases e2:r.h=(h:Int)
   ·rw[if_pos e2]at q
    exact⟨r,hr,e1,q⟩
   ·rw[if_neg e2]at q
    omega
  ·rw[if_neg e1]at q
   omega
 ·rintro⟨r,hr,e1,tp⟩
  have o:=ro r hr
  have h0:=o.h0
  have h1:=o.h1
  have hh:r.h.toNat<n:=by omega
  refine⟨at_ (sums (bK (grp (prs n rs)) k) n) r.h.toNat,?_,?_⟩
  ·rw[kR hh]
   exact zze.mpr ⟨r.h.toNat,zzR.mpr hh,rfl⟩
  ·have e:=zl DF ro hh k
   rw[e]
   have hin:r.t∈rs.map fun r'=>if r'.ks=k then(if r'.h=(r.h.toNat:Int) then r'.t else 0) else 0:=zze.mpr ⟨r,hr,by rw[if_pos e1,if_pos (by omega)]⟩
   have hall:∀x∈rs.map fun r'=>if r'.ks=k then(if r'.h=(r.h.toNat:Int) then r'.t else 0) else 0,0 <= x:=fun x hx=>by
    obtain⟨r',hr',rfl⟩:=zze.mp hx
    have o':=ro r' hr'
    have:=o'.w0
    have:=o'.wt
    split
    ·split
     ·omega
     ·omega
    ·omega
   have:=(Bz hall _ hin).1
   omega
theorem vP(pt:Part pr fr)(ro:∀r∈rs,RwOk n ms r)(hz:∀r∈rs,r.t <= 0->fr r=0){h:Nat}(hh:h<n)(P:List Int->Bool) :
  (((gath n (prs n rs)).filter fun c=>P c.1).map fun c=>pr (at_ c.2 h)).sum=(rs.map fun r=>if P r.ks=true then(if r.h=(h:Int) then fr r else 0) else 0).sum:=by
 have nd:(cH ((grp (prs n rs)).map (·.1))).Nodup:=(aB _).nodup_iff.mpr (vx _)
 have mem:∀r∈rs,r.ks∈cH ((grp (prs n rs)).map (·.1)):=fun r hr=>by
  rw[(aB _).mem_iff,qe]
  exact zze.mpr ⟨(r.ks,gb n r),zze.mpr ⟨r,hr,rfl⟩,rfl⟩
 rw[←zk (F:=fun r=>if r.h=(h:Int) then fr r else 0) (P:=P) nd mem]
 unfold gath aO
 rw[eI,eI,zzg]
 apply fJ
 intro k hk
 dsimp only[Function.comp]
 rw[zl pt ro hh k]
 cases z:lG (sums (bK (grp (prs n rs)) k) n) with
 |true=>rw[if_pos rfl]
 |false =>
  rw[if_neg (by intro z;cases z)]
  by_cases e:P k=true
  ·rw[if_pos e]
   symm
   refine jO fun r hr=>?_
   by_cases e1:r.ks=k
   ·have tz:r.t <= 0:=by
     refine Int.not_lt.mp fun tp=>?_
     have:=(jS ro k).mpr ⟨r,hr,e1,tp⟩
     rw[z]at this
     cases this
    rw[if_pos e1,hz r hr tz]
    split<;>rfl
   ·rw[if_neg e1]
  ·rw[if_neg e]
end
section
variable{n:Nat}{ms:List Int}{rs:List Rw}
theorem zn{r:Rw}(o:RwOk n ms r):RowN 40 n (gb n r):=by
 refine⟨by unfold gb;simp,fun c hc=>?_⟩
 unfold gb at hc
 rcases List.mem_or_eq_of_mem_set hc with hc|rfl
 ·rw[zyo hc]
  exact rS (zyx 0) (zyx 0) (by unfold Bd;exact Nat.two_pow_pos _)
 ·refine rS o.w0 o.wt ?_
  have:=o.t1
  have:=o.w0
  have:=o.wt
  unfold Bd
  have e:(2:Nat)^40=1099511627776:=by decide
  omega
theorem DH{cs:List (Int×Int)}(h:∀c∈cs,Cnt 40 c.1 c.2)(l:cs.length <= 2^6):Cnt 110 (sumP cs).1 (sumP cs).2:=by
 have lo:∀cs:List (Int×Int),(∀c∈cs,Cnt 40 c.1 c.2)->0 <= (cs.map (·.2)).sum/\(cs.map (·.2)).sum <= (cs.map (·.1)).sum:=by
  intro cs
  induction cs with
  |nil=>intro _;exact⟨zyx 0,zyx 0⟩
  |cons c t ih =>
   intro h
   have h1:=ih fun x hx=>h x (zzb _ hx)
   have h2:=h c zzd
   have:=h2.lo
   have:=h2.hi
   rw[zzc,zzc,zzI,zzI]
   omega
 have b:Bd (40+6) (cs.map (·.1)).sum:=rX (fun i hi=>by
  obtain⟨c,hc,rfl⟩:=zze.mp hi
  exact(h c hc).bt) (by rw[zza];exact l)
 exact rS (lo cs h).1 (lo cs h).2 (b.mono (by decide))
theorem qp{c:List Int×Row}(ro:∀r∈rs,RwOk n ms r)(h:c∈gath n (prs n rs)):∃k,c=(k,sums (bK (grp (prs n rs)) k) n)/\∃r∈rs,r.ks=k/\0<r.t:=by
 unfold gath at h
 obtain⟨h1,h2⟩:=zzp.mp h
 obtain⟨k,hk,rfl⟩:=zze.mp h1
 exact⟨k,rfl,(jS ro k).mp h2⟩
theorem zo(ro:∀r∈rs,RwOk n ms r){r:Rw}(hr:r∈rs)(tp:0<r.t):(r.ks,sums (bK (grp (prs n rs)) r.ks) n)∈gath n (prs n rs):=by
 unfold gath
 refine zzp.mpr ⟨zze.mpr ⟨r.ks,?_,rfl⟩,(jS ro r.ks).mpr ⟨r,hr,rfl,tp⟩⟩
 rw[(aB _).mem_iff,qe]
 exact zze.mpr ⟨(r.ks,gb n r),zze.mpr ⟨r,hr,rfl⟩,rfl⟩
theorem DI(n2:2 <= n)(n6:n <= 6)(mo:MsOk ms)(rl:rs.length <= 60)(ro:∀r∈rs,RwOk n ms r):BkOk ⟨n,ms,gath n (prs n rs)⟩:=by
 refine⟨n2,n6,mo.l5,?_,fun c hc=>?_⟩
 ·show (gath n (prs n rs)).length <= 60
  unfold gath
  refine vM ?_
  unfold aO
  rw[zza,(aB _).length_eq,zza]
  have:=(oU (C:=fun _=>True) (R:=fun _=>True) (prs n rs) fun _ _=>⟨trivial,trivial⟩).len
  have e:(prs n rs).length=rs.length:=by unfold prs;rw[zza]
  omega
 ·obtain⟨k,rfl,r,hr,rfl,tp⟩:=qp ro hc
  refine⟨(ro r hr).kl,⟨?_,fun c hc=>?_⟩,triedB_iff.mp ((jS ro r.ks).mpr ⟨r,hr,rfl,tp⟩)⟩
  ·show (sums _ n).length=n
   unfold sums
   rw[zza,zyc]
  ·obtain⟨h,hh,rfl⟩:=zze.mp hc
   have hh:=zzR.mp hh
   refine DH (fun c hc=>?_) ?_
   ·obtain⟨row,hrow,rfl⟩:=zze.mp hc
    rw[qo]at hrow
    obtain⟨r',hr',rfl⟩:=zze.mp hrow
    exact(jG (zn (ro r' (zzp.mp hr').1)) hh).2
   ·unfold col
    rw[zza,qo,zza]
    exact zzk (vM rl) (by decide)
theorem zt(ro:∀r∈rs,RwOk n ms r):∀r∈rs,r.t <= 0->r.t=0:=fun r hr h=>by
 have:=(ro r hr).w0
 have:=(ro r hr).wt
 omega
theorem zw(ro:∀r∈rs,RwOk n ms r):∀r∈rs,r.t <= 0->r.w=0:=fun r hr h=>by
 have:=(ro r hr).w0
 have:=(ro r hr).wt
 omega
theorem wO(ro:∀r∈rs,RwOk n ms r)(P:List Int->Bool):sums (((gath n (prs n rs)).filter fun c=>P c.1).map (·.2)) n=bf n (rs.filter fun r=>P r.ks):=by
 unfold sums bf
 apply zzv
 intro h hh
 have hh:=zzR.mp hh
 unfold sumP col
 have e1:=vP DF ro (zt ro) hh P
 have e2:=vP Hl ro (zw ro) hh P
 simp only[zzg]
 refine Prod.ext ?_ ?_
 ·show ((_:List (List Int×Row)).map fun c=>(at_ c.2 h).1).sum=(((rs.filter fun r=>P r.ks).filter fun r=>decide (r.h=(h:Int))).map (·.t)).sum
  rw[e1,eI,eI]
  apply fJ
  intro r _
  split
  ·by_cases z:r.h=(h:Int)
   ·rw[if_pos z,if_pos (by simpa using z)]
   ·rw[if_neg z,if_neg (by simpa using z)]
  ·rfl
 ·show ((_:List (List Int×Row)).map fun c=>(at_ c.2 h).2).sum=(((rs.filter fun r=>P r.ks).filter fun r=>decide (r.h=(h:Int))).map (·.w)).sum
  rw[e2,eI,eI]
  apply fJ
  intro r _
  split
  ·by_cases z:r.h=(h:Int)
   ·rw[if_pos z,if_pos (by simpa using z)]
   ·rw[if_neg z,if_neg (by simpa using z)]
  ·rfl
theorem ur(ro:∀r∈rs,RwOk n ms r)(m:Nat):bf m (rs.filter fun r=>decide (0<r.t))=bf m rs:=by
 unfold bf
 apply zzv
 intro h _
 refine Prod.ext ?_ ?_
 ·show (((rs.filter _).filter _).map _).sum=((rs.filter _).map _).sum
  rw[eI,eI,eI]
  apply fJ
  intro r hr
  have:=zt ro r hr
  by_cases z:0<r.t
  ·rw[if_pos (by simpa using z)]
  ·rw[if_neg (by simpa using z),this (by omega)]
   split<;>rfl
 ·show (((rs.filter _).filter _).map _).sum=((rs.filter _).map _).sum
  rw[eI,eI,eI]
  apply fJ
  intro r hr
  have:=zw ro r hr
  by_cases z:0<r.t
  ·rw[if_pos (by simpa using z)]
  ·rw[if_neg (by simpa using z),this (by omega)]
   split<;>rfl
theorem zp(ro:∀r∈rs,RwOk n ms r)(so:List Int):aJ ⟨n,ms,gath n (prs n rs)⟩ so=dueL n rs so:=by
 show aO n ((gath n (prs n rs)).map fun c=>(vals c.1 so,c.2))=_
 unfold aO dueL
 rw[yT (vx _) (qm (cI rs so)) fun k=>?_]
 ·apply zzv
  intro k _
  rw[kP,nV,zyG,zzg]
  have e1:(((gath n (prs n rs)).filter ((fun p=>decide (p.1=k)) ∘ fun c=>(vals c.1 so,c.2))).map ((·.2) ∘ fun c=>(vals c.1 so,c.2)))=((gath n (prs n rs)).filter fun c=>decide (vals c.1 so=k)).map (·.2):=rfl
  have e5:sums (((gath n (prs n rs)).filter fun c=>decide (vals c.1 so=k)).map (·.2)) n=bf n (rs.filter fun r=>decide (vals r.ks so=k)):=wO ro fun k'=>decide (vals k' so=k)
  rw[e1,e5]
  unfold cI
  rw[zyG,zzg,List.filter_filter]
  have e2:∀l:List Rw,l.map ((·.2) ∘ fun r=>(vals r.ks so,r))=l:=fun l=>by
   have:((·.2) ∘ fun r:Rw=>(vals r.ks so,r))=id:=rfl
   rw[this,List.map_id]
  rw[e2]
  have e3:=ur (rs:=rs.filter fun r=>decide (vals r.ks so=k)) (n:=n) (ms:=ms) (fun r hr=>ro r (zzp.mp hr).1) n
  rw[List.filter_filter]at e3
  rw[←e3]
  have e4:(rs.filter fun r=>decide (0<r.t) && decide (vals r.ks so=k))=rs.filter fun r=>((fun p=>decide (p.1=k)) ∘ fun r=>(vals r.ks so,r)) r && decide (0<r.t):=by
   apply List.filter_congr
   intro r _
   exact Bool.and_comm _ _
  rw[e4]
 ·rw[qe,vL,zzg]
  unfold cI
  rw[zzg]
  constructor
  ·intro h
   obtain⟨c,hc,rfl⟩:=zze.mp h
   obtain⟨k,rfl,r,hr,rfl,tp⟩:=qp ro hc
   exact zze.mpr ⟨r,zzp.mpr ⟨hr,by simpa using tp⟩,rfl⟩
  ·intro h
   obtain⟨r,hr,rfl⟩:=zze.mp h
   obtain⟨hr,tp⟩:=zzp.mp hr
   exact zze.mpr ⟨_,zo ro hr (by simpa using tp),rfl⟩
end
theorem pq{b:Bk}{so:List Int}{c:List Int×Row}(h:c∈aJ b so):c.1.length=so.length:=by
 have:c.1∈(aJ b so).map (·.1):=zze.mpr ⟨c,h,rfl⟩
 unfold aJ at this
 rw[parts_mem,zzg,zze]at this
 obtain⟨d,_,e⟩:=this
 rw[←e]
 exact mh _ _
theorem knots_mem{b:Bk}{so:List Int}{n:Nat}{c:List Int×Row}:c∈aC b so n↔∃l,l<n/\c∈aJ b (so.take l):=by
 unfold aC
 rw[List.mem_flatMap]
 exact⟨fun⟨l,hl,h⟩=>⟨l,zzR.mp hl,h⟩,fun⟨l,hl,h⟩=>⟨l,zzR.mpr hl,h⟩⟩
theorem ut{b:Bk}{so:List Int}{l:Nat}(hl:l <= so.length){c:List Int×Row}(h:c∈aJ b (so.take l)):c.1.length=l:=by
 rw[pq h,zyd]
 omega
theorem ie{b:Bk}{so v:List Int}{n:Nat}(hn:n <= so.length+1):(aC b so n).filter (fun c=>fG v c.1)=if v.length+1<n then(aJ b (so.take (v.length+1))).filter (fun c=>fG v c.1) else[]:=by
 induction n with
 |zero=>rfl
 |succ n ih =>
  rw[fg,zzQ,ih (by omega)]
  by_cases z:v.length+1=n
  ·subst z
   rw[if_neg (by omega),if_pos (by omega),List.nil_append]
  ·have:(aJ b (so.take n)).filter (fun c=>fG v c.1)=[]:=by
    rw[List.filter_eq_nil_iff]
    intro c hc
    have:=ut (by omega) hc
    unfold fG
    rw[decide_eq_false (by omega)]
    exact zzo
   rw[this,zzy]
   by_cases y:v.length+1<n
   ·rw[if_pos y,if_pos (by omega)]
   ·rw[if_neg y,if_neg (by omega)]
def wP(b:Bk)(so:List Int)(v:List Int):List Row:=(wI b so v.length v).map (·.2)
section
variable{b:Bk}{so:List Int}
theorem pw{v:List Int}(hv:v.length<so.length)(x y:Nat):bu (aC b so (so.length+1)) x y v=(wP b so v).map (sayR x y):=by
 unfold bu wP
 rw[ie (zzh _),if_pos (by omega),Dx hv rfl,zzg,zzg]
 rfl
theorem zq{c:List Int×Row}(hc:c∈aJ b (so.take c.1.length)):wP b so c.1≠[]:=by
 have:c.1∈(aJ b (so.take c.1.length)).map (·.1):=zze.mpr ⟨c,hc,rfl⟩
 unfold aJ at this
 rw[parts_mem,zzg,zze]at this
 obtain⟨d,hd,e⟩:=this
 have e:vals d.1 (so.take c.1.length)=c.1:=e
 have hk:vals d.1 [so.getD c.1.length 0]∈(wI b so c.1.length c.1).map (·.1):=by
  unfold wI
  rw[parts_mem,zzg,zze]
  exact⟨d,zzp.mpr ⟨hd,decide_eq_true e⟩,rfl⟩
 intro z
 unfold wP at z
 have:wI b so c.1.length c.1=[]:=List.map_eq_nil_iff.mp z
 rw[this]at hk
 simp at hk
theorem zr{t:List Row}{m:Nat}{r:Row}(e:sums t m=r){x y:Nat}(hx:x<m)(hy:y<m):bd t x y=sayR x y r:=by
 unfold bd sayR
 rw[←e,kR hx,kR hy]
theorem DJ{s:Int}{x y:Nat}(hs:s=1∨s = -1)(lv:∀c∈aJ b (so.take so.length),isS s (sayR x y c.2)=true)(nt:∀p∈dX (aC b so (so.length+1)) x y,p.2≠s):∀k,k <= so.length->∀c∈aJ b (so.take (so.length - k)),isS s (sayR x y c.2)=true:=by
 intro k
 induction k with
 |zero=>intro _ c hc;exact lv c hc
 |succ k ih =>
  intro hk c hc
  have ih:=ih (by omega)
  have cl:=ut (by omega) hc
  have hc':c∈aJ b (so.take c.1.length):=by rw[cl];exact hc
  have hm:c∈aC b so (so.length+1):=knots_mem.mpr ⟨_,by omega,hc⟩
  have e1:=pw (b:=b) (so:=so) (v:=c.1) (by omega) x y
  have e2:=zq hc'
  cases q:isS s (sayR x y c.2) with
  |true=>rfl
  |false =>
   exfalso
   have ok:okT (bu (aC b so (so.length+1)) x y c.1) (sayR x y c.2) s=true:=by
    have ne:(bu (aC b so (so.length+1)) x y c.1).isEmpty=false:=by
     rw[e1,List.isEmpty_map]
     cases q:wP b so c.1 with
     |nil=>exact absurd q e2
     |cons _ _=>rfl
    have al:(bu (aC b so (so.length+1)) x y c.1).all (isS s)=true:=by
     unfold bu
     rw[ie (zzh _),if_pos (by omega),zzO]
     intro d hd
     obtain⟨e,he,rfl⟩:=zze.mp hd
     have he:=(zzp.mp he).1
     refine ih e ?_
     rw[show so.length - k=c.1.length+1 by omega]
     exact he
    unfold okT
    rw[ne,al,q]
    rfl
   refine nt (c.1,s) ?_ rfl
   unfold dX
   refine List.mem_flatMap.mpr ⟨c,hm,?_⟩
   unfold tuOf
   refine List.mem_flatMap.mpr ⟨s,by rcases hs with rfl|rfl<;>simp,?_⟩
   unfold oneT
   rw[if_pos ok]
   exact zzx.mpr rfl
end
theorem nW{xs:List D}{i:Int}{d:D}{P:D->Prop}(h:atI xs i=some d)(q:P d):gIx (.lst xs) (.int i) P:=by
 show opt (atI xs i) P
 rw[h]
 exact q
def sT(h:Int)(xs:List Rw):Int:=((xs.filter fun r=>decide (r.h=h)).map (·.t)).sum
def sW(h:Int)(xs:List Rw):Int:=((xs.filter fun r=>decide (r.h=h)).map (·.w)).sum
def dl(a b:Int)(xs:List Rw):D:=.lst [.int (sT a xs),.int (sW a xs),.int (sT b xs),.int (sW b xs)]
theorem zu(h:Int)(xs:List Rw)(r:Rw):sT h (xs++[r])=sT h xs+(if r.h=h then r.t else 0):=by
 unfold sT
 rw[zzQ,zzl,List.sum_append]
 by_cases e:r.h=h
 ·rw[if_pos e,zzW (by simpa using e)]
  simp
 ·rw[if_neg e,zya (by simpa using e)]
  simp
theorem zv(h:Int)(xs:List Rw)(r:Rw):sW h (xs++[r])=sW h xs+(if r.h=h then r.w else 0):=by
 unfold sW
 rw[zzQ,zzl,List.sum_append]
 by_cases e:r.h=h
 ·rw[if_pos e,zzW (by simpa using e)]
  simp
 ·rw[if_neg e,zya (by simpa using e)]
  simp
def PD(a b:Int)(Ks:List (List Int))(R:List Int->List Rw):D:=.dT (Ks.map kI) (Ks.map fun k=>dl a b (R k))
abbrev Gp(rs:List Rw)(so:List Int):List (List Int×List Rw):=grpX (cI rs so)
abbrev Kp(rs:List Rw)(so:List Int):List (List Int):=(Gp rs so).map (·.1)
abbrev Xp(rs:List Rw)(so:List Int)(k:List Int):List Rw:=xsOf (Gp rs so) k
theorem FT(a b:Int)(g:List (List Int×List Rw))(nd:(g.map (·.1)).Nodup):D.dT ((embG (dl a b) g).map (·.1)) ((embG (dl a b) g).map (·.2))=PD a b (g.map (·.1)) (xsOf g):=by
 unfold PD embG
 rw[zzg,zzg,zzg,zzg]
 congr 1
 apply zzv
 intro p hp
 show dl a b p.2=dl a b (xsOf g p.1)
 congr 1
 have:g.find? (fun q=>decide (q.1=p.1))=some p:=by
  clear a b
  induction g with
  |nil=>simp at hp
  |cons q t ih =>
   obtain⟨n1,n2⟩:=zzL.mp (by simpa using nd:(q.1::t.map (·.1)).Nodup)
   rcases zzj.mp hp with rfl|hp
   ·rw[zzt (by simp)]
   ·rw[zzu,ih n2 hp]
    intro z
    have z:q.1=p.1:=by simpa using z
    exact n1 (zze.mpr ⟨p,hp,z.symm⟩)
 unfold xsOf
 rw[this]
 rfl
structure RsOk(n:Nat)(ms:List Int)(rs:List Rw):Prop where
 n2:2 <= n
 n6:n <= 6
 mo:MsOk ms
 rl:rs.length <= 25
 ro:∀r∈rs,RwOk n ms r
 t9:∀r∈rs,r.t <= 100
def gPt:DSp:=fun ds Q=>∃(n:Nat) (ms:List Int) (rs:List Rw) (so:List Int) (a b:Int),ds=[.lst (rs.map rwD),aq so,.int a,.int b]/\RsOk n ms rs/\(∀x∈so,0 <= x/\x<ms.length)/\so.length <= 5/\a≠b/\Q (PD a b (Kp rs so) (Xp rs so))
theorem eJ:aY gPt:=fun ds P P' f ⟨n,ms,rs,so,a,b,h1,h2,h3,h4,h5,h⟩=>⟨n,ms,rs,so,a,b,h1,h2,h3,h4,h5,f _ h⟩
theorem eK(T:Tx K mg):FnOk P w K mg base CX0 1 T.gG T.fM ["_law_rows_here","_law_some","_law_a","_law_b"] (spD K 4 gPt):=by
 refine fnD (k:=0) T.aK.F sc__law_parts (fun cdv A outer s H E hr=>(ah (tG (i:=4) sc__law_parts.nd rfl oo)
   (aZ (bE PassesOwn.never rfl (ba (ac 0 (pv 0))) (lA (n:=4) rfl (aX (ar (i:=5) sc__law_parts.nd rfl oo) (aX (ar (i:=6) sc__law_parts.nd rfl oo) (aX (ar (i:=7) sc__law_parts.nd rfl oo) (aX (ar (i:=8) sc__law_parts.nd rfl oo) gf))))) (ag (bx (aG lO (ac 7 (pv 7)) af (aw _)) (ah (aM (i:=9) sc__law_parts.nd rfl oo (aU cX rfl T.bU rfl (aa (aN (PCD.pld (aQ (N':=["_law_mark","_law_kinds"]) rfl rfl dk rfl (.own (.cap (j:=6) rfl oo rfl .nil)) dk (iq (ac 1 (pv 1))) (fun B=>(ar (i:=0) ndB rfl oo)) (fun B=>bb) (fun B=>(aL (ac 1 (pv 1)) (ac 0 (pv 0)) (fun _ _=>rfl)))))) ad)))
   (ah (aM (i:=10) sc__law_parts.nd rfl oo (CT hr (pv 4) (ac 9 (pv 9)) (aN (bD (aa af (aa af (aa af (aa af ad))))))))
   (aZ (bE PassesOwn.never rfl (tt rfl T.fU (aa (aN (bD (aa (ac 2 (pv 2)) (aa (ac 3 (pv 3)) ad)))) ad)) (lA (n:=2) rfl (aX (ar (i:=11) sc__law_parts.nd rfl oo) (aX (ar (i:=12) sc__law_parts.nd rfl oo) gf))) (ag (bx (aG (cf hr) (ac 5 (pv 5)) (ac 12 (pv 12)) (aw _)) (ag (aM (i:=10) sc__law_parts.nd rfl oo (aN (uW (aN (uW (aN (Bp (ac 10 (pv 10)) iB (iC (bL jx af (ac 11 (pv 11)))))) (aN (bD (aa (bL dP (aL (ac 10 (pv 10)) (bL jx af (ac 11 (pv 11))) (fun _ _=>rfl)) (ac 7 (pv 7))) (aa (bL dP (aL (ac 10 (pv 10)) (bL dP (bL jx af (ac 11 (pv 11))) af) (fun _ _=>rfl)) (ac 8 (pv 8))) ad)))))) (aN (Bp (ac 10 (pv 10)) (iC (bL dP (bL jx af (ac 11 (pv 11))) af)) iB)))))) aA)))
   (ag (CQ hr (pv 4) (ac 9 (pv 9)) (ac 10 (pv 10))))))) aA)))
   (ag (ax (ac 4 (pv 4))))))) (fun ds Q hl h=>?_)
 obtain⟨n,ms,rs,so,a,b,rfl,ok,hso,s5,ab,h⟩:=h
 refine⟨fun ρ=>∃x1 x2 x3 x4 x5 x6 x7 x8:Sl,ρ=[.val (.lst (rs.map rwD)),.val (aq so),.val (.int a),.val (.int b),.obj (dvO (embG (dl a b) (Gp rs so))),x1,x2,x3,x4,x5,x6,x7,x8],?_,?_⟩
 ·refine bO (fun pre ρ=>∃r0 r1:List Rw,rs=r0++r1/\pre=r0.map rwD/\∃x1 x2 x3 x4 x5 x6 x7 x8:Sl,ρ=[.val (.lst (rs.map rwD)),.val (aq so),.val (.int a),.val (.int b),.obj (dvO (embG (dl a b) (Gp r0 so))),x1,x2,x3,x4,x5,x6,x7,x8]) (fun ρ hN=>?_) (fun pre d post ρ X e hN hX=>?_) _ ⟨[],rs,rfl,rfl,_,_,_,_,_,_,_,_,rfl⟩
  ·obtain⟨r0,r1,e1,e2,x1,x2,x3,x4,x5,x6,x7,x8,rfl⟩:=hN
   have:r1=[]:=by
    have:=congrArg List.length e2
    rw[e1]at this
    simp at this
    exact this
   subst this
   rw[zzy]at e1
   subst e1
   exact⟨x1,x2,x3,x4,x5,x6,x7,x8,rfl⟩
  ·obtain⟨r0,r1,e1,rfl,x1,x2,x3,x4,x5,x6,x7,x8,rfl⟩:=hN
   rw[e1,zzl]at e
   have e:=zzD e
   cases r1 with
   |nil=>simp at e
   |cons r r1 =>
    rw[zzc]at e
    injection e with e3 e4
    subst e3
    have ro:=ok.ro r (by rw[e1];simp)
    have rl:=ok.rl
    have pl:(cI r0 so).length <= 25:=by
     unfold cI
     rw[zza]
     refine zzk (zzN _ _) ?_
     rw[e1,zzi]at rl
     omega
    have gl:=vN (cI r0 so)
    have nxt:∀(g:List (List Int×List Rw)),g=Gp (r0++[r]) so->∀(y1 y2 y3 y4 y5 y6 y7 y8:Sl),X [.val (.lst (rs.map rwD)),.val (aq so),.val (.int a),.val (.int b),.obj (dvO (embG (dl a b) g)),y1,y2,y3,y4,y5,y6,y7,y8]:=fun g eg y1 y2 y3 y4 y5 y6 y7 y8=>hX _ ⟨r0++[r],r1,by rw[e1];simp,by simp,y1,y2,y3,y4,y5,y6,y7,y8,by rw[eg]⟩
    have ps:=uq r0 so r
    refine⟨rfl,Br.di (fun tp=>?_) (fun tn=>?_)⟩
    ·rw[if_pos tp]at ps
     obtain⟨k,hk⟩:∃k,k=vals r.ks so:=⟨_,rfl⟩
     refine rT (fun x hx=>by rw[ro.kl];exact hso x hx) (by omega) ?_
     rw[←hk]
     refine⟨trivial,sz,embG (dl a b) (Gp r0 so),kI k,rfl,dW k,?_⟩
     have ef:(fB (embG (dl a b) (Gp r0 so)) (kI k)).getD (.lst [.int 0,.int 0,.int 0,.int 0])=dl a b (Xp r0 so k):=sA (dl a b) k (Gp r0 so)
     rw[ef]
     obtain⟨xs,hxs⟩:∃xs,xs=Xp r0 so k:=⟨_,rfl⟩
     rw[←hxs]
     refine⟨fun ρ=>∃y7 y8:Sl,ρ=[.val (.lst (rs.map rwD)),.val (aq so),.val (.int a),.val (.int b),.obj (dvO (embG (dl a b) (Gp r0 so))),.val (.int r.h),.val (aq r.ks),.val (.int r.t),.val (.int r.w),.val (aq k),.val (dl a b (xs++[r])),y7,y8],⟨sz,?_⟩,?_⟩
     ·refine kr (fun i ρ=>∃t1 w1 t2 w2:Int,t1=sT a xs+(if 1 <= i/\r.h=a then r.t else 0)/\w1=sW a xs+(if 1 <= i/\r.h=a then r.w else 0)/\t2=sT b xs+(if 2 <= i/\r.h=b then r.t else 0)/\w2=sW b xs+(if 2 <= i/\r.h=b then r.w else 0)/\∃y7 y8:Sl,ρ=[.val (.lst (rs.map rwD)),.val (aq so),.val (.int a),.val (.int b),.obj (dvO (embG (dl a b) (Gp r0 so))),.val (.int r.h),.val (aq r.ks),.val (.int r.t),.val (.int r.w),.val (aq k),.val (.lst [.int t1,.int w1,.int t2,.int w2]),y7,y8]) (fun ρ hN=>?_) (fun i d ρ Z hd hN hZ=>?_) _ ⟨sT a xs,sW a xs,sT b xs,sW b xs,by simp,by simp,by simp,by simp,_,_,rfl⟩
      ·obtain⟨t1,w1,t2,w2,h1,h2,h3,h4,y7,y8,rfl⟩:=hN
       refine⟨y7,y8,?_⟩
       have:dl a b (xs++[r])=.lst [.int t1,.int w1,.int t2,.int w2]:=by
        unfold dl
        rw[zu,zv,zu,zv,h1,h2,h3,h4]
        simp
       rw[this]
      ·obtain⟨t1,w1,t2,w2,h1,h2,h3,h4,y7,y8,rfl⟩:=hN
       have hi:i=0∨i=1:=by
        have:=(zzm.mp hd).1
        simp at this
        omega
       rcases hi with rfl|rfl
       ·simp only[List.getElem?_cons_zero,Option.some.injEq]at hd
        subst hd
        refine⟨rfl,⟨rfl,rfl⟩,fun z=>?_,fun z=>?_⟩
        ·have z:r.h=a:=by simpa[aV]using z
         have cm:CMulB 2 ((0:Nat):Int):=.inl ⟨by decide,by decide⟩
         refine⟨cm,cm,?_⟩
         refine nW (d:=.int t1) rfl ⟨cm,?_⟩
         dsimp only[g2I0]
         refine nW (d:=.int w1) rfl ?_
         refine⟨sz,sz,cm,sz,hZ _ ⟨t1+r.t,w1+r.w,t2,w2,by rw[h1];simp[z],by rw[h2];simp[z],by rw[h3];simp,by rw[h4];simp,_,_,rfl⟩⟩
        ·have z:¬r.h=a:=by simpa[aV]using z
         exact hZ _ ⟨t1,w1,t2,w2,by rw[h1];simp[z],by rw[h2];simp[z],by rw[h3];simp,by rw[h4];simp,_,_,rfl⟩
       ·simp only[zyN,List.getElem?_cons_zero,Option.some.injEq]at hd
        subst hd
        refine⟨rfl,⟨rfl,rfl⟩,fun z=>?_,fun z=>?_⟩
        ·have z:r.h=b:=by simpa[aV]using z
         have cm:CMulB 2 ((1:Nat):Int):=.inl ⟨by decide,by decide⟩
         refine⟨cm,cm,?_⟩
         refine nW (d:=.int t2) rfl ⟨cm,?_⟩
         dsimp only[g2I0]
         refine nW (d:=.int w2) rfl ?_
         refine⟨sz,sz,cm,sz,hZ _ ⟨t1,w1,t2+r.t,w2+r.w,by rw[h1];simp,by rw[h2];simp,by rw[h3];simp[z],by rw[h4];simp[z],_,_,rfl⟩⟩
        ·have z:¬r.h=b:=by simpa[aV]using z
         exact hZ _ ⟨t1,w1,t2,w2,by rw[h1];simp,by rw[h2];simp,by rw[h3];simp[z],by rw[h4];simp[z],_,_,rfl⟩
     ·rintro _ ⟨y7,y8,rfl⟩
      refine⟨trivial,embG (dl a b) (Gp r0 so),kI k,rfl,dW k,?_,?_⟩
      ·unfold embG
       rw[zza]
       exact zzC (zzk gl pl) (by decide)
      ·have put:=vO (dl a b) k r (Gp r0 so) (qm _)
       rw[hxs,put]
       refine nxt _ ?_ _ _ _ _ _ _ _ _
       show _=grpX (cI (r0++[r]) so)
       rw[ps,zj,←hk]
    ·rw[if_neg (by omega)]at ps
     exact nxt _ (by show _=grpX (cI (r0++[r]) so);rw[ps]) _ _ _ _ _ _ _ _
 ·rintro _ ⟨x1,x2,x3,x4,x5,x6,x7,x8,rfl⟩
  have e:=FT a b (Gp rs so) (qm _)
  rw[←e,←Hk]at h
  exact h
theorem qq{α:Type}{g:DG}{te:DE}{l:List α}{Q:List D->Prop}(F G:α->D)(N:DS->Prop)(hl:l.length <= 1000)
  (hs:∀i∈l,∀(ρ:DS) (Y:D->DS->Prop) (Z:DS->Prop),N ρ->(∀ρ',N (bn ρ')->Y (G i) ρ')->g (F i) ρ fun ρ1=>dQ ρ1 fun b ρ2=>Br b (te ρ2 Y) (Z ρ2)) (ρ:DS) (h:N ρ) (hq:Q (l.map G)):cF g dQ te (l.map F) [] ρ Q:=by
 refine br (fun pre acc ρ=>acc=(l.take pre.length).map G/\N ρ) (fun acc ρ hN=>by rw[hN.1,zza,List.take_length];exact hq) (fun pre d post acc ρ Y e hN hY=>?_) _ ⟨rfl,h⟩
 obtain⟨rfl,hN⟩:=hN
 have hg:(l.map F)[pre.length]? = some d:=by
  rw[e,zzU (zzh _),Nat.sub_self]
  rfl
 have lt:pre.length<l.length:=by
  have:=(zzm.mp hg).1
  simpa using this
 rw[zzq,zzB lt]at hg
 have hg:F l[pre.length]=d:=by simpa using hg
 rw[←hg]
 have tk:l.take (pre.length+1)=l.take pre.length++[l[pre.length]]:=(List.take_append_getElem lt).symm
 refine hs l[pre.length] (List.getElem_mem lt) ρ _ _ hN fun ρ' h'=>⟨?_,hY _ _ ⟨?_,h'⟩⟩
 ·rw[zza,zyd]
  exact zzC (show min pre.length l.length <= 1000 by omega) (by decide)
 ·rw[zzi,zyE,tk,zzl]
  rfl
theorem qr{α:Type}{g:DG}{tc:DT}{te:DE}{l:List α}{Q:List D->Prop}(F G:α->D)(p:α->Bool)(N:DS->Prop)(hl:l.length <= 1000)
  (hs:∀i∈l,∀(ρ:DS) (Y:D->DS->Prop) (Z:DS->Prop),N ρ->(p i=true->∀ρ',N (bn ρ')->Y (G i) ρ')->(p i=false->∀ρ',N (bn ρ')->Z ρ')->g (F i) ρ fun ρ1=>tc ρ1 fun b ρ2=>Br b (te ρ2 Y) (Z ρ2)) (ρ:DS) (h:N ρ) (hq:Q ((l.filter p).map G)):cF g tc te (l.map F) [] ρ Q:=by
 refine br (fun pre acc ρ=>acc=((l.take pre.length).filter p).map G/\N ρ) (fun acc ρ hN=>by rw[hN.1,zza,List.take_length];exact hq) (fun pre d post acc ρ Y e hN hY=>?_) _ ⟨rfl,h⟩
 obtain⟨rfl,hN⟩:=hN
 have hg:(l.map F)[pre.length]? = some d:=by
  rw[e,zzU (zzh _),Nat.sub_self]
  rfl
 have lt:pre.length<l.length:=by
  have:=(zzm.mp hg).1
  simpa using this
 rw[zzq,zzB lt]at hg
 have e1:F l[pre.length]=d:=by simpa using hg
 subst e1
 have e2:l.take (pre++[F l[pre.length]]).length=l.take pre.length++[l[pre.length]]:=by
  rw[zzi,zyE,List.take_succ_eq_append_getElem lt]
 have ll:(((l.take pre.length).filter p).map G).length <= 1000:=by
  rw[zza]
  exact zzk (zzN _ _) (by rw[zyd];omega)
 refine hs _ (List.getElem_mem lt) ρ _ _ hN (fun z ρ' hN'=>⟨zzC ll (by decide),hY _ _ ⟨?_,hN'⟩⟩) (fun z ρ' hN'=>hY _ _ ⟨?_,hN'⟩)
 ·rw[e2,zzQ,zzW z,zzl]
  rfl
 ·rw[e2,zzQ,zya (by rw[z];exact zzo)]
  simp
def cmp4(a b:Int)(i:Nat)(xs:List Rw):Int:=[sT a xs,sW a xs,sT b xs,sW b xs].getD i 0
def gWh:DSp:=fun ds Q=>∃(a b:Int) (Ks:List (List Int)) (R:List Int->List Rw),ds=[PD a b Ks R]/\Ks.length <= 1000/\Q (.lst [.int (Ks.map fun k=>sT a (R k)).sum,.int (Ks.map fun k=>sW a (R k)).sum,.int (Ks.map fun k=>sT b (R k)).sum,.int (Ks.map fun k=>sW b (R k)).sum])
theorem lH:aY gWh:=fun ds P P' f ⟨a,b,Ks,R,h1,h2,h⟩=>⟨a,b,Ks,R,h1,h2,f _ h⟩
theorem lI(T:Tx K mg):FnOk P w K mg base CX0 1 T.gC T.fQ ["_law_parts_here"] (spD K 1 gWh):=by
 refine fnD (k:=0) T.bA.F qc (fun cdv A outer s H E hr=>(ag (ax (aN (PCD.pld (aQ (N':=["_law_at","_law_parts_here"]) rfl rfl dk rfl (.own (.cap (j:=0) rfl oo rfl .nil)) dk (bN rfl T.cW (aa af ad)) (fun B=>(ar (i:=0) ndB rfl oo)) (fun B=>bb) (fun B=>(au uS rfl T.zI PyProof.Rows.boot_sum (aa (aN (PCD.pld (Aq (N':=["_law_one","_law_at"]) rfl rfl dk rfl (.own (.cap (j:=0) rfl oo rfl .nil)) dk (pv 1) (fun B=>(ar (i:=0) ndB rfl oo)) (fun B=>bb) (fun B=>(aL (ac 0 (pv 0)) (ac 1 (pv 1)) (fun _ _=>rfl)))))) ad))))))))) (fun ds Q hl h=>?_)
 obtain⟨a,b,Ks,R,rfl,kl,h⟩:=h
 refine⟨⟨by decide,by decide⟩,?_⟩
 refine bP (fun d=>match d with|.int i=>.int (Ks.map fun k=>cmp4 a b i.toNat (R k)).sum|_=>.non) (fun ρ=>∃s,ρ=[s,.val (PD a b Ks R)]) (by decide) (fun d hd ρ Y Z hN hY=>?_) _ ⟨_,rfl⟩ h
 obtain⟨s,rfl⟩:=hN
 have hd:∃i:Nat,i<4/\d=.int i:=by
  have hd:d∈iA 0 4:=hd
  rw[dg]at hd
  obtain⟨i,hi,rfl⟩:=zze.mp hd
  exact⟨i,zzR.mp hi,by rw[Int.zero_add]⟩
 obtain⟨i,hi,rfl⟩:=hd
 refine Br.t ⟨_,_,rfl,?_⟩
 refine qq (l:=Ks) (fun k=>dl a b (R k)) (fun k=>.int (cmp4 a b i (R k))) (fun ρ=>∃s,ρ=[s,.val (.int i)]) kl (fun k hk ρ Y Z hN hY=>?_) _ ⟨_,rfl⟩ ?_
 ·obtain⟨s,rfl⟩:=hN
  refine Br.t (nW (d:=.int (cmp4 a b i (R k))) ?_ (hY _ ⟨_,rfl⟩))
  have:i=0∨i=1∨i=2∨i=3:=by omega
  rcases this with rfl|rfl|rfl|rfl<;>rfl
 ·have e:Ks.map (fun k=>D.int (cmp4 a b i (R k)))=(Ks.map fun k=>cmp4 a b i (R k)).map D.int:=by rw[zzg];rfl
  rw[e]
  exact mT (hY _ ⟨_,rfl⟩)
section
variable{n:Nat}{ms:List Int}{rs:List Rw}{so:List Int}
abbrev BB(n:Nat)(ms:List Int)(rs:List Rw):Bk:=⟨n,ms,gath n (prs n rs)⟩
theorem mj{xs:List Rw}{h:Nat}(hh:h<n):at_ (bf n xs) h=(sT (h:Int) xs,sW (h:Int) xs):=by
 unfold at_ bf
 rw[zzF,zzq,zyL hh]
 rfl
theorem AN(o:RsOk n ms rs):BkOk (BB n ms rs):=DI o.n2 o.n6 o.mo (by have:=o.rl;omega) o.ro
theorem ml(o:RsOk n ms rs)(so:List Int):aJ (BB n ms rs) so=(cH (Kp rs so)).map fun k=>(k,bf n (Xp rs so k)):=zp o.ro so
theorem BR(o:RsOk n ms rs)(so:List Int):tblB (BB n ms rs) so=(cH (Kp rs so)).map fun k=>bf n (Xp rs so k):=by
 unfold tblB
 rw[ml o,zzg]
 rfl
theorem sB(o:RsOk n ms rs):(Kp rs so).length <= 25:=by
 rw[zza]
 refine zzk (vN _) ?_
 unfold cI
 rw[zza]
 exact zzk (zzN _ _) o.rl
theorem Hm:(Kp rs so).Nodup:=qm _
theorem AO:∀k∈Kp rs so,k.length=so.length:=fun k hk=>by
 rw[vL]at hk
 obtain⟨p,hp,rfl⟩:=zze.mp hk
 obtain⟨r,_,rfl⟩:=zze.mp hp
 exact mh _ _
theorem zx{F:Rw->Int}:∀{l:List Rw},(∀r∈l,0 <= F r/\F r <= 100)->0 <= (l.map F).sum/\(l.map F).sum <= 100*(l.length:Int)
 |[],_=>by simp
 |r::l,h=>by
  have h1:=h r zzd
  have h2:=zx fun r hr=>h r (zzb _ hr)
  rw[zzc,zzI,zzZ]
  omega
theorem BS(k:List Int):∀r∈Xp rs so k,r∈rs:=fun r hr=>by
 have hr:r∈xsOf (grpX (cI rs so)) k:=hr
 rw[nV]at hr
 obtain⟨p,hp,rfl⟩:=zze.mp hr
 obtain⟨q,hq,rfl⟩:=zze.mp (zzp.mp hp).1
 exact(zzp.mp hq).1
theorem FU(o:RsOk n ms rs)(k:List Int):(Xp rs so k).length <= 25:=by
 show (xsOf (grpX (cI rs so)) k).length <= 25
 rw[nV,zza]
 refine zzk (zzN _ _) ?_
 unfold cI
 rw[zza]
 exact zzk (zzN _ _) o.rl
theorem s_bd(o:RsOk n ms rs)(k:List Int)(h:Int):(0 <= sT h (Xp rs so k)/\sT h (Xp rs so k) <= 2500)/\0 <= sW h (Xp rs so k)/\sW h (Xp rs so k) <= 2500:=by
 have hl:=FU o (so:=so) k
 have fl:=zzN (fun r:Rw=>decide (r.h=h)) (Xp rs so k)
 have ok:∀r∈(Xp rs so k).filter (fun r=>decide (r.h=h)),RwOk n ms r/\r.t <= 100:=fun r hr=>⟨o.ro r (BS k r (zzp.mp hr).1),o.t9 r (BS k r (zzp.mp hr).1)⟩
 have a:=zx (F:=(·.t)) fun r hr=>by
  have:=ok r hr
  have h1:=this.1.w0
  have h2:=this.1.wt
  exact⟨by omega,this.2⟩
 have b:=zx (F:=(·.w)) fun r hr=>by
  have:=ok r hr
  have h1:=this.1.w0
  have h2:=this.1.wt
  exact⟨h1,by omega⟩
 unfold sT sW
 omega
theorem sC{x:Int}(h0:0 <= x)(h1:x <= 100000):Bd 64 x:=by
 show x.natAbs<2^64
 have e:(2:Nat)^64=18446744073709551616:=by decide
 rw[e]
 omega
theorem vQ(o:RsOk n ms rs)(k:List Int){a b:Int}{Q:D->Prop}(q:Q (gu (sT a (Xp rs so k)) (sW a (Xp rs so k)) (sT b (Xp rs so k)) (sW b (Xp rs so k)))):gLS [dl a b (Xp rs so k)] Q:=by
 have h1:=s_bd o (so:=so) k a
 have h2:=s_bd o (so:=so) k b
 exact⟨_,_,_,_,rfl,⟨sC h1.1.1 (by omega),sC h1.2.1 (by omega),sC h2.1.1 (by omega),sC h2.2.1 (by omega)⟩,q⟩
theorem AQ{a b:Nat}(ha:a<n)(hb:b<n)(k:List Int):fZ a b (bf n (Xp rs so k))=gu (sT (a:Int) (Xp rs so k)) (sW (a:Int) (Xp rs so k)) (sT (b:Int) (Xp rs so k)) (sW (b:Int) (Xp rs so k)):=by
 unfold fZ
 rw[mj ha,mj hb]
theorem psum{f:List Int->Int}{xs ys:List (List Int)}(h:xs.Perm ys):(xs.map f).sum=(ys.map f).sum:=by
 induction h with
 |nil=>rfl
 |cons a _ ih=>rw[zzc,zzc,zzI,zzI,ih]
 |swap a b l=>simp only[zzc,zzI];omega
 |trans _ _ h1 h2=>exact h1.trans h2
theorem zy(o:RsOk n ms rs){h:Nat}(hh:h<n):sumP (col (tblB (BB n ms rs) so) h)=(((Kp rs so).map fun k=>sT (h:Int) (Xp rs so k)).sum,((Kp rs so).map fun k=>sW (h:Int) (Xp rs so k)).sum):=by
 have p:=aB (Kp rs so)
 have key:∀(g:Int×Int->Int) (f:List Int->Int),(∀k,g (at_ (bf n (Xp rs so k)) h)=f k)->((((cH (Kp rs so)).map fun k=>bf n (Xp rs so k)).map fun r=>at_ r h).map g).sum=((Kp rs so).map f).sum:=fun g f e=>by
  rw[zzg,zzg,←psum p]
  congr 1
  apply zzv
  intro k _
  exact e k
 rw[BR o]
 exact Prod.ext (key (·.1) _ fun k=>by rw[mj hh]) (key (·.2) _ fun k=>by rw[mj hh])
theorem nX{f:List Int->Int}:∀{l:List (List Int)},(∀k,0 <= f k/\f k <= 2500)->0 <= (l.map f).sum/\(l.map f).sum <= 2500*(l.length:Int)
 |[],_=>by simp
 |r::l,h=>by
  have h1:=h r
  have h2:=nX (l:=l) h
  rw[zzc,zzI,zzZ]
  omega
theorem BT(o:RsOk n ms rs){a b:Int}(a0:0 <= a)(a1:a<n)(b0:0 <= b)(b1:b<n){Q:D->Prop}(q:Q (bd (tblB (BB n ms rs) so) a.toNat b.toNat)):gLS [.lst [.int ((Kp rs so).map fun k=>sT a (Xp rs so k)).sum,.int ((Kp rs so).map fun k=>sW a (Xp rs so k)).sum,.int ((Kp rs so).map fun k=>sT b (Xp rs so k)).sum,.int ((Kp rs so).map fun k=>sW b (Xp rs so k)).sum]] Q:=by
 have kl:=sB o (so:=so)
 have t1:=nX (l:=Kp rs so) fun k=>(s_bd o (so:=so) k a).1
 have t2:=nX (l:=Kp rs so) fun k=>(s_bd o (so:=so) k a).2
 have t3:=nX (l:=Kp rs so) fun k=>(s_bd o (so:=so) k b).1
 have t4:=nX (l:=Kp rs so) fun k=>(s_bd o (so:=so) k b).2
 refine⟨_,_,_,_,rfl,⟨sC t1.1 (by omega),sC t2.1 (by omega),sC t3.1 (by omega),sC t4.1 (by omega)⟩,?_⟩
 unfold bd at q
 rw[zy o (h:=a.toNat) (by omega),zy o (h:=b.toNat) (by omega),zyf a0,zyf b0]at q
 exact q
theorem DK{a b:Int}{Ks:List (List Int)}{R:List Int->List Rw}{k:List Int}(hk:k∈Ks):fB (Ks.map fun k=>(kI k,dl a b (R k))) (kI k)=some (dl a b (R k)):=by
 induction Ks with
 |nil=>simp at hk
 |cons q t ih =>
  unfold fB at ih ⊢
  by_cases e:q=k
  ·rw[zzc,zzt (by simp[e]),e]
   rfl
  ·rw[zzc,zzu (by simpa using fun z=>e (lE z))]
   exact ih (by rcases zzj.mp hk with z|z;exact absurd z.symm e;exact z)
theorem AR{a b:Int}{Ks:List (List Int)}{R:List Int->List Rw}{k:List Int}(hk:k∈Ks){P:D->Prop}(q:P (dl a b (R k))):gIxT (PD a b Ks R) (aq k) P:=by
 refine⟨Ks.map fun k=>(kI k,dl a b (R k)),kI k,_,?_,dW k,DK hk,q⟩
 unfold PD
 rw[zzg,zzg]
 rfl
end
def gDu:DSp:=fun ds Q=>∃(n:Nat) (ms:List Int) (rs:List Rw) (so:List Int) (a b:Int),ds=[PD a b (Kp rs so) (Xp rs so)]/\RsOk n ms rs/\AbOk n a b/\Q (trnB (BB n ms rs) a.toNat b.toNat so)
theorem wQ:aY gDu:=fun ds P P' f ⟨n,ms,rs,so,a,b,h1,h2,h3,h⟩=>⟨n,ms,rs,so,a,b,h1,h2,h3,f _ h⟩
theorem zz(ks:List (List Int)):(srtK (ks.map kI)).map keyD=(cH ks).map aq:=by
 rw[yQ,zzg]
 apply zzv
 intro k _
 exact(dW k).symm
theorem BU{rs:List Rw}{so:List Int}(h:(Kp rs so).length <= 25):(∀k∈(Kp rs so).map kI,wm k)/\(2 <= ((Kp rs so).map kI).length->∀k∈(Kp rs so).map kI,k≠[])/\((Kp rs so).map kI).length<64:=by
 refine⟨fun k hk=>?_,fun h2 k hk=>?_,by rw[zza];omega⟩
 ·obtain⟨k',_,rfl⟩:=zze.mp hk
  exact vv k'
 ·rw[zza]at h2
  obtain⟨k',hk2,rfl⟩:=zze.mp hk
  intro z
  exact yR Hm AO h2 k' hk2 (lE (b:=[]) z)
theorem DM{t:List Row}{a b:Nat}:(∃i,bd t a b=.int i)∨bd t a b=.non:=oY _ _ _ _
theorem wR(T:Tx K mg):FnOk P w K mg base CX0 2 T.kT T.iT ["_law_parts_here"] (spD K 1 gDu):=by
 refine fnD (k:=1) T.fi.F sc__law_due (fun cdv A outer s H E hr=>(ah (iD (i:=1) sc__law_due.nd rfl rfl (aQ (N':=["_law_values","_law_parts_here"]) rfl rfl dk rfl (.own (.cap (j:=0) rfl oo rfl .nil)) dk (ba (au pW rfl T.mx dk (aa (ac 0 (pv 0)) ad))) (fun B=>(ar (i:=0) ndB rfl oo)) (fun B=>bb) (fun B=>(ai (cT T) cS (rm hr) rfl T.ay.m T.ay.F.kp T.ay.b (aa (rF hr (ac 1 (pv 1)) (ac 0 (pv 0)) (fun _ _=>rfl)) ad)))))
   (ah (aM (i:=2) sc__law_due.nd rfl oo (ai (cT T) cS (rm hr) rfl T.ay.m T.ay.F.kp T.ay.b (aa (ai (lI T) lH (rm hr) rfl T.bA.m T.bA.F.kp T.bA.b (aa (ac 0 (pv 0)) ad)) ad)))
   (aZ (bE PassesOwn.never rfl (iq (aR (aa af (aa (mP gh af) ad)))) (ar (i:=3) sc__law_due.nd rfl oo) (ag (bx (aG (cf hr) (pP jA (ac 1 (pv 1)) (ac 3 (pv 3))) (au bF rfl T.cD zzE (aa (ac 1 (pv 1)) ad)) (aw _)) (ag (ax (uK (aG (cf hr) (ac 2 (pv 2)) (ac 3 (pv 3)) (aw _)) (aR (aa ip (aa (ac 3 (pv 3)) ad))) (aR (aa ip (aa (ac 3 (pv 3)) (aa (ac 2 (pv 2)) ad))))))) aA)))
   (aZ (bE PassesOwn.never rfl (tt rfl T.fU (aa (ac 1 (pv 1)) ad)) (lA (n:=2) rfl (aX (ar (i:=4) sc__law_due.nd rfl oo) (aX (ar (i:=5) sc__law_due.nd rfl oo) gf))) (ag (bx (PWD.pt (lN (aG Bl (ac 5 (pv 5)) uJ (aw _)) (fY (aG (cf hr) (ac 5 (pv 5)) af (aw _))))) (ag (ax (aR (aa ip (aa (ac 4 (pv 4)) ad))))) aA)))
   (ag (ax (aR (aa ip (aa (pP lX (ac 1 (pv 1)) af) (aa (pP lX (ac 1 (pv 1)) (mP gh af)) ad))))))))))) (fun ds Q hl h=>?_)
 obtain⟨n,ms,rs,so,a,b,rfl,o,ab,h⟩:=h
 have kl:=sB o (so:=so)
 have a0:=ab.a0
 have a1:=ab.a1
 have b0:=ab.b0
 have b1:=ab.b1
 have sl:(cH (Kp rs so)).length <= 1000:=by rw[(aB _).length_eq];omega
 obtain⟨t,ht⟩:∃t,t=tblB (BB n ms rs) so:=⟨_,rfl⟩
 obtain⟨pd,hpd⟩:∃pd,pd=PD a b (Kp rs so) (Xp rs so):=⟨_,rfl⟩
 have h:Q (fH (told t a.toNat b.toNat) (bd t a.toNat b.toNat)):=by rw[ht];exact h
 refine⟨BU kl,?_⟩
 show cF _ _ _ ((srtK ((Kp rs so).map kI)).map keyD) _ _ _
 rw[zz]
 refine qq (l:=cH (Kp rs so)) aq (fun k=>fZ a.toNat b.toNat (bf n (Xp rs so k))) (fun ρ=>∃s,ρ=[s,.val (PD a b (Kp rs so) (Xp rs so))]) sl (fun k hk ρ Y Z hN hY=>?_) _ ⟨_,rfl⟩ ?_
 ·obtain⟨s,rfl⟩:=hN
  have hk:=(aB _).mem_iff.mp hk
  have hY:=hY [.val (aq k),.val (PD a b (Kp rs so) (Xp rs so))] ⟨_,rfl⟩
  rw[AQ (by omega) (by omega),zyf a0,zyf b0]at hY
  exact Br.t (AR hk ⟨rfl,vQ o k hY⟩)
 have et:(cH (Kp rs so)).map (fun k=>fZ a.toNat b.toNat (bf n (Xp rs so k)))=told t a.toNat b.toNat:=by
  rw[ht]
  unfold told
  rw[BR o,zzg]
  rfl
 rw[et]
 refine⟨rfl,a,b,Kp rs so,Xp rs so,rfl,by omega,rfl,BT o a0 a1 b0 b1 ?_⟩
 rw[←ht,←hpd]
 have tf:=nK t a.toNat b.toNat
 have sw:=DM (t:=t) (a:=a.toNat) (b:=b.toNat)
 refine⟨fun ρ=>(¬(told t a.toNat b.toNat).all (isS 1)=true/\¬(told t a.toNat b.toNat).all (isS (-1))=true)/\∃s3 s4 s5:Sl,ρ=[.val pd,.val (.lst (told t a.toNat b.toNat)),.val (bd t a.toNat b.toNat),s3,s4,s5],?_,?_⟩
 ·have fin:∀s:Int,fH (told t a.toNat b.toNat) (bd t a.toNat b.toNat)=tkT s (bd t a.toNat b.toNat)->(eqD (bd t a.toNat b.toNat) (.int s)=true->Q (.tup [.str "kept",.int s]))/\(eqD (bd t a.toNat b.toNat) (.int s)=false->Q (.tup [.str "turned",.int s,bd t a.toNat b.toNat])):=fun s e=>by
   rw[e]at h
   unfold tkT at h
   refine⟨fun z=>?_,fun z=>?_⟩
   ·rw[if_pos z]at h;exact h
   ·rw[if_neg (by rw[z];exact zzo)]at h;exact h
  refine⟨sz,trivial,⟨rfl,tf⟩,⟨rfl,rfl⟩,fun z=>?_,fun z=>⟨trivial,⟨rfl,tf⟩,⟨rfl,rfl⟩,fun z'=>?_,fun z'=>?_⟩⟩
  ·have z:=count_all.mp z
   have f:=fin 1 (by unfold fH;rw[if_pos z])
   exact⟨⟨qh sw,rfl⟩,fun c=>⟨sz,f.1 c⟩,fun c=>⟨sz,f.2 c⟩⟩
  ·have z':=count_all.mp z'
   have z:¬(told t a.toNat b.toNat).all (isS 1)=true:=fun q=>by rw[count_all.mpr q]at z;cases z
   have f:=fin (-1) (by unfold fH;rw[if_neg z,if_pos z'])
   exact⟨⟨qh sw,rfl⟩,fun c=>⟨sz,f.1 c⟩,fun c=>⟨sz,f.2 c⟩⟩
  ·have z:¬(told t a.toNat b.toNat).all (isS 1)=true:=fun q=>by rw[count_all.mpr q]at z;cases z
   have z':¬(told t a.toNat b.toNat).all (isS (-1))=true:=fun q=>by rw[count_all.mpr q]at z';cases z'
   exact⟨⟨z,z'⟩,_,_,_,rfl⟩
 ·rintro _ ⟨⟨n1,n2⟩,s3,s4,s5,rfl⟩
  refine⟨fun ρ=>(told t a.toNat b.toNat).findIdx? im=none/\∃s3 s4 s5:Sl,ρ=[.val pd,.val (.lst (told t a.toNat b.toNat)),.val (bd t a.toNat b.toNat),s3,s4,s5],?_,?_⟩
  ·refine kr (fun i ρ=>(∀m z,m<i->(told t a.toNat b.toNat)[m]? = some z->im z=false)/\∃s3 s4 s5:Sl,ρ=[.val pd,.val (.lst (told t a.toNat b.toNat)),.val (bd t a.toNat b.toNat),s3,s4,s5]) ?_ ?_ _ ⟨fun m z hm=>absurd hm (zyq _),_,_,_,rfl⟩
   ·rintro ρ ⟨hn,hr⟩
    refine⟨?_,hr⟩
    rw[List.findIdx?_eq_none_iff]
    intro d hd
    obtain⟨m,hm,e⟩:=List.mem_iff_getElem.mp hd
    exact hn m d hm (by rw[←e];exact zzB hm)
   ·rintro i d ρ X hd ⟨hn,s3,s4,s5,rfl⟩ hX
    have ret:im d=true->Q (.tup [.str "open",.int i]):=fun od=>by
     have hf:(told t a.toNat b.toNat).findIdx? im=some i:=by
      rw[List.findIdx?_eq_some_iff_getElem]
      obtain⟨hl,e⟩:=zzm.mp hd
      refine⟨hl,by rw[e];exact od,fun j hj=>?_⟩
      have:=hn j ((told t a.toNat b.toNat)[j]'(Nat.lt_trans hj hl)) hj (zzB _)
      rw[this];exact zzo
     unfold fH at h
     rw[if_neg n1,if_neg n2,hf]at h
     exact h
    have nx:im d=false->∀m z,m<i+1->(told t a.toNat b.toNat)[m]? = some z->im z=false:=fun od m z hm hz=>by
     by_cases e:m=i
     ·subst e;rw[hd]at hz;cases hz;exact od
     ·exact hn m z (by omega) hz
    obtain⟨r,_,rfl⟩:=zze.mp (zzM hd)
    rcases ic a.toNat b.toNat r with e|e|e|e<;>rw[e]at ret nx ⊢
    ·exact⟨rfl,Br.t (Br.t ⟨sz,ret rfl⟩)⟩
    ·exact⟨rfl,Br.f ⟨⟨rfl,rfl⟩,Br.f (hX _ ⟨nx rfl,_,_,_,rfl⟩)⟩⟩
    ·exact⟨rfl,Br.f ⟨⟨rfl,rfl⟩,Br.f (hX _ ⟨nx rfl,_,_,_,rfl⟩)⟩⟩
    ·exact⟨rfl,Br.f ⟨⟨rfl,rfl⟩,Br.t ⟨sz,ret rfl⟩⟩⟩
  ·rintro _ ⟨hf,s3,s4,s5,rfl⟩
   unfold fH at h
   rw[if_neg n1,if_neg n2,hf]at h
   refine⟨trivial,vE hf (.inl rfl) n2 ⟨trivial,?_⟩⟩
   obtain⟨i1,j,i2,i3⟩:=vE (Q:=fun d=>d=.int ((told t a.toNat b.toNat).findIdx (isS (-1)):Nat)) hf (.inr rfl) n1 rfl
   injection i3 with i3
   have i3:j=(told t a.toNat b.toNat).findIdx (isS (-1)):=by omega
   subst i3
   exact⟨i1,_,i2,sz,h⟩
theorem zA{b:Bk}{so:List Int}(x y:Nat):dX (aC b so (so.length+1)) x y=(aC b so so.length).flatMap (tuOf (aC b so (so.length+1)) x y):=by
 have key:∀f:List Int×Row->List (List Int×Int),(∀c∈aJ b (so.take so.length),f c=[])->(aC b so (so.length+1)).flatMap f=(aC b so so.length).flatMap f:=fun f hf=>by rw[fg,zye,List.flatMap_eq_nil_iff.mpr hf,zzy]
 refine key _ fun c hc=>?_
 have cl:=ut (zzh _) hc
 have e:bu (aC b so (so.length+1)) x y c.1=[]:=by
  unfold bu
  rw[ie (zzh _),if_neg (by omega)]
  rfl
 unfold tuOf
 rw[e]
 rfl
theorem AS{l l':List D}(h:l.Perm l')(p:D->Bool):l.all p=l'.all p:=by
 rw[zyC,zzO,zzO]
 exact⟨fun q d hd=>q d (h.mem_iff.mpr hd),fun q d hd=>q d (h.mem_iff.mp hd)⟩
section
variable{n:Nat}{ms:List Int}{rs:List Rw}{so:List Int}
abbrev wd57(n:Nat)(rs:List Rw)(so:List Int)(a b:Nat)(k:List Int):List D:=((Kp rs (so.take (k.length+1))).filter fun w=>decide (w.take k.length=k)).map fun w=>fZ a b (bf n (Xp rs (so.take (k.length+1)) w))
theorem AT(o:RsOk n ms rs){k:List Int}(hd:k.length<so.length)(a b:Nat):(wd57 n rs so a b k).Perm (bu (aC (BB n ms rs) so (so.length+1)) a b k):=by
 unfold bu
 rw[ie (zzh _),if_pos (by omega),ml o,zyG,zzg]
 have e:(cH (Kp rs (so.take (k.length+1)))).filter ((fun c=>fG k c.1) ∘ fun w=>(w,bf n (Xp rs (so.take (k.length+1)) w)))=(cH (Kp rs (so.take (k.length+1)))).filter fun w=>decide (w.take k.length=k):=by
  apply List.filter_congr
  intro w hw
  have hl:=AO w ((aB _).mem_iff.mp hw)
  rw[zyd]at hl
  show fG k w=_
  unfold fG
  rw[decide_eq_true (by omega),Bool.true_and]
 rw[e]
 exact((aB _).symm.filter _).map _
theorem AU(o:RsOk n ms rs){c:List Int×Row}(hc:c∈aJ (BB n ms rs) (so.take c.1.length))(hl:c.1.length<so.length)(a b:Nat):(bu (aC (BB n ms rs) so (so.length+1)) a b c.1).isEmpty=false:=by
 rw[pw hl]
 cases q:wP (BB n ms rs) so c.1 with
 |nil=>exact absurd q (zq hc)
 |cons _ _=>rfl
end
def gKD:DSp:=fun ds Q=>∃(n:Nat) (ms:List Int) (rs:List Rw) (so:List Int) (a b:Int),ds=[.lst (rs.map rwD),aq so,.int a,.int b]/\RsOk n ms rs/\SoOk (BB n ms rs) so/\AbOk n a b/\Q (.lst ((dX (aC (BB n ms rs) so (so.length+1)) a.toNat b.toNat).map tkD))
theorem lS:aY gKD:=fun ds P P' f ⟨n,ms,rs,so,a,b,h1,h2,h3,h4,h⟩=>⟨n,ms,rs,so,a,b,h1,h2,h3,h4,f _ h⟩
theorem zB{n:Nat}{ms:List Int}{rs:List Rw}{so s:List Int}{a b:Int}(o:RsOk n ms rs)(so_:SoOk (BB n ms rs) so)(l:Nat)(ab:AbOk n a b){x:D}(hx:x=aq (so.take l)){Q:D->Prop}(q:Q (PD a b (Kp rs (so.take l)) (Xp rs (so.take l)))):gPt [.lst (rs.map rwD),x,.int a,.int b] Q:=by
 subst hx
 exact⟨n,ms,rs,so.take l,a,b,rfl,o,(so_.take l).it,(so_.take l).len,ab.ne,q⟩
theorem zC{n:Nat}{ms:List Int}{rs:List Rw}{so:List Int}{a b:Int}(o:RsOk n ms rs)(ab:AbOk n a b){k:List Int}(hk:k.length<so.length){s:Sl}{Q:List D->Prop}(q:Q (wd57 n rs so a.toNat b.toNat k)) :
  cF (ge 0) (dB (dOp (gEq false) (dSlA (dVar 0) xV (xW (dVar 2))) (dVar 3))) (zY 1 gLS (jv (dOp gIxT (dVar 1) (dVar 0)) qS)) (((Kp rs (so.take (k.length+1))).map kI).map keyD) [] [s,.val (PD a b (Kp rs (so.take (k.length+1))) (Xp rs (so.take (k.length+1)))),.val (.int k.length),.val (aq k)] Q:=by
 have a0:=ab.a0
 have a1:=ab.a1
 have b0:=ab.b0
 have b1:=ab.b1
 have kl:=sB o (so:=so.take (k.length+1))
 have e:((Kp rs (so.take (k.length+1))).map kI).map keyD=(Kp rs (so.take (k.length+1))).map aq:=by
  rw[zzg]
  apply zzv
  intro w _
  exact(dW w).symm
 rw[e]
 refine qr (l:=Kp rs (so.take (k.length+1))) aq (fun w=>fZ a.toNat b.toNat (bf n (Xp rs (so.take (k.length+1)) w))) (fun w=>decide (w.take k.length=k)) (fun ρ=>∃s,ρ=[s,.val (PD a b (Kp rs (so.take (k.length+1))) (Xp rs (so.take (k.length+1)))),.val (.int k.length),.val (aq k)]) (by omega) (fun w hw ρ Y Z hN hY hZ=>?_) _ ⟨_,rfl⟩ q
 obtain⟨s,rfl⟩:=hN
 have wl:=AO w hw
 rw[zyd]at wl
 have ec:cutD (w.map D.int) none (some ((k.length:Nat):Int))=(w.take k.length).map D.int:=by
  have:=ma (so:=w) (k:=((k.length:Nat):Int)) (by omega) (by omega)
  rw[zzY]at this
  exact this
 refine⟨⟨?_,qk _⟩,?_⟩
 ·show shp (.tup (cutD (w.map D.int) none (some ((k.length:Nat):Int))))=true
  rw[ec]
  exact qk _
 show Br (eqD (.tup (cutD (w.map D.int) none (some ((k.length:Nat):Int)))) (aq k)) _ _
 rw[ec]
 show Br (eqD (aq (w.take k.length)) (aq k)) _ _
 rw[vF]
 refine⟨fun z=>?_,fun z=>hZ z _ ⟨_,rfl⟩⟩
 have hY:=hY z [.val (aq w),.val (PD a b (Kp rs (so.take (k.length+1))) (Xp rs (so.take (k.length+1)))),.val (.int k.length),.val (aq k)] ⟨_,rfl⟩
 rw[AQ (by omega) (by omega),zyf a0,zyf b0]at hY
 exact AR hw ⟨rfl,vQ o w hY⟩
theorem zD(ws:List D)(d:D)(v:List Int):∀t0:List Int,(t0.flatMap (oneT ws d v)).length <= t0.length
 |[]=>by simp
 |u::t=>by
  have ih:=zD ws d v t
  rw[List.flatMap_cons,zzi,zzZ]
  have:(oneT ws d v u).length <= 1:=by unfold oneT;split<;>simp
  omega
set_option maxHeartbeats 1000000 in
theorem lT(T:Tx K mg):FnOk P w K mg base CX0 2 T.dF T.cU ["_law_rows_here","_law_order","_law_a","_law_b"] (spD K 4 gKD):=by
 refine fnD (k:=1) T.bG.F sc__law_knots_due (fun cdv A outer s H E hr=>(ah (jw (i:=4) sc__law_knots_due.nd rfl oo (bD ad))
   (aZ (bE PassesOwn.never rfl (bN rfl T.cW (aa (au bF rfl T.cD zzE (aa (ac 1 (pv 1)) ad)) ad)) (ar (i:=5) sc__law_knots_due.nd rfl oo) (ah (aM (i:=6) sc__law_knots_due.nd rfl oo (ai (eK T) eJ (rm hr) rfl T.aK.m T.aK.F.kp T.aK.b (aa (ac 0 (pv 0)) (aa (rA (ac 1 (pv 1)) iB (iC (ac 5 (pv 5)))) (aa (ac 2 (pv 2)) (aa (ac 3 (pv 3)) ad))))))
   (ah (aM (i:=7) sc__law_knots_due.nd rfl oo (ai (eK T) eJ (rm hr) rfl T.aK.m T.aK.F.kp T.aK.b (aa (ac 0 (pv 0)) (aa (rA (ac 1 (pv 1)) iB (iC (bL dP (ac 5 (pv 5)) af))) (aa (ac 2 (pv 2)) (aa (ac 3 (pv 3)) ad))))))
   (ag (bE PassesOwn.never rfl (ba (au pW rfl T.mx dk (aa (ac 6 (pv 6)) ad))) (ar (i:=8) sc__law_knots_due.nd rfl oo) (ah (iD (i:=9) sc__law_knots_due.nd rfl rfl (vp (N':=["_law_kid","_law_kids","_law_deep","_law_values"]) rfl rfl dk rfl (.own (.cap (j:=7) rfl oo rfl (.cap (j:=5) rfl oo rfl (.cap (j:=8) rfl oo rfl .nil)))) dk (pv 7) (fun B=>(ar (i:=0) ndB rfl oo)) (fun B=>(kq (aG (cf hr) (rA (ac 0 (pv 0)) iB (iC (ac 2 (pv 2)))) (ac 3 (pv 3)) (aw _)))) (fun B=>(ai (cT T) cS (rm hr) rfl T.ay.m T.ay.F.kp T.ay.b (aa (rF hr (ac 1 (pv 1)) (ac 0 (pv 0)) (fun _ _=>rfl)) ad)))))
   (ag (bE PassesOwn.never rfl (iq (aR (aa af (aa (mP gh af) ad)))) (ar (i:=10) sc__law_knots_due.nd rfl oo) (ag (bx (PWD.pt (oI (aG (cf hr) (pP jA (ac 9 (pv 9)) (ac 10 (pv 10))) (au bF rfl T.cD zzE (aa (ac 9 (pv 9)) ad)) (aw _)) (mO (aG (lP hr) (ai (cT T) cS (rm hr) rfl T.ay.m T.ay.F.kp T.ay.b (aa (rF hr (ac 6 (pv 6)) (ac 8 (pv 8)) (fun _ _=>rfl)) ad)) (ac 10 (pv 10)) (aw _))))) (ag (qY (pv 4) (aR (aa (ac 8 (pv 8)) (aa (ac 10 (pv 10)) ad))))) aA))))))))))
   (ag (ax (ac 4 (pv 4))))))) (fun ds Q hl h=>?_)
 obtain⟨n,ms,rs,so,a,b,rfl,o,so_,ab,h⟩:=h
 have a0:=ab.a0
 have a1:=ab.a1
 have b0:=ab.b0
 have b1:=ab.b1
 have s5:=so_.len
 have bo:=AN o
 obtain⟨B,hB⟩:∃B,B=BB n ms rs:=⟨_,rfl⟩
 obtain⟨cs,hcs⟩:∃cs,cs=aC (BB n ms rs) so (so.length+1):=⟨_,rfl⟩
 have el:((so.map D.int).length:Int)=so.length:=by rw[zza]
 rw[zA,←hcs,←hB]at h
 rw[←hB]at bo
 refine⟨sz,fun ρ=>∃x1 x2 x3 x4 x5 x6:Sl,ρ=[.val (.lst (rs.map rwD)),.val (aq so),.val (.int a),.val (.int b),.own (((aC B so so.length).flatMap (tuOf cs a.toNat b.toNat)).map tkD),x1,x2,x3,x4,x5,x6],⟨⟨by omega,by omega⟩,?_⟩,?_⟩
 ·refine eF (fun l ρ=>∃x1 x2 x3 x4 x5 x6:Sl,ρ=[.val (.lst (rs.map rwD)),.val (aq so),.val (.int a),.val (.int b),.own (((aC B so l.toNat).flatMap (tuOf cs a.toNat b.toNat)).map tkD),x1,x2,x3,x4,x5,x6]) _ _ ?_ ?_ _ ⟨_,_,_,_,_,_,rfl⟩
  ·rintro ρ ⟨x1,x2,x3,x4,x5,x6,rfl⟩
   have e:(0+(((so.map D.int).length:Int).toNat:Int)).toNat=so.length:=by omega
   rw[e]
   exact⟨x1,x2,x3,x4,x5,x6,rfl⟩
  ·rintro l ρ X l0 l1 ⟨x1,x2,x3,x4,x5,x6,rfl⟩ hX
   have ll:l.toNat<so.length:=by omega
   refine⟨rfl,zB (s:=so) o so_ l.toNat ab (by show D.tup (cutD (so.map D.int) none (some l))=_;rw[ma (by omega) (by omega)];rfl) ?_⟩
   refine⟨rfl,zB (s:=so) o so_ (l.toNat+1) ab (by show D.tup (cutD (so.map D.int) none (some (l+1)))=_;rw[ma (by omega) (by omega),show (l+1).toNat=l.toNat+1 by omega];rfl) ?_⟩
   obtain⟨P1,hP1⟩:∃P1,P1=PD a b (Kp rs (so.take l.toNat)) (Xp rs (so.take l.toNat)):=⟨_,rfl⟩
   obtain⟨P2,hP2⟩:∃P2,P2=PD a b (Kp rs (so.take (l.toNat+1))) (Xp rs (so.take (l.toNat+1))):=⟨_,rfl⟩
   have kl:=sB o (so:=so.take l.toNat)
   refine⟨BU kl,?_⟩
   rw[←hP1,←hP2]
   show iz _ _ ((srtK ((Kp rs (so.take l.toNat)).map kI)).map keyD) _ _
   rw[zz]
   have pb:aJ B (so.take l.toNat)=(cH (Kp rs (so.take l.toNat))).map fun k=>(k,bf n (Xp rs (so.take l.toNat) k)):=by rw[hB];exact ml o _
   have kn:=gx bo (so:=so) l.toNat
   refine bO (fun pre ρ=>∃k0 k1:List (List Int),cH (Kp rs (so.take l.toNat))=k0++k1/\pre=k0.map aq/\∃x4 x5 x6:Sl,ρ=[.val (.lst (rs.map rwD)),.val (aq so),.val (.int a),.val (.int b),.own (((aC B so l.toNat++k0.map fun k=>(k,bf n (Xp rs (so.take l.toNat) k))).flatMap (tuOf cs a.toNat b.toNat)).map tkD),.val (.int l),.val P1,.val P2,x4,x5,x6]) (fun ρ hN=>?_) (fun pre d post ρ Z e hN hZ=>?_) _ ⟨[],_,rfl,rfl,_,_,_,by rw[zyb,zzy];rfl⟩
   ·obtain⟨k0,k1,e1,e2,x4,x5,x6,rfl⟩:=hN
    have:k1=[]:=by
     have:=congrArg List.length e2
     rw[e1]at this
     simp at this
     exact this
    subst this
    rw[zzy]at e1
    refine hX _ ⟨.val (.int l),.val P1,.val P2,x4,x5,x6,?_⟩
    rw[show (l+1).toNat=l.toNat+1 by omega,fg,pb,e1]
   ·obtain⟨k0,k1,e1,rfl,x4,x5,x6,rfl⟩:=hN
    rw[e1,zzl]at e
    have e:=zzD e
    cases k1 with
    |nil=>simp at e
    |cons k k1 =>
     rw[zzc]at e
     injection e with e3 e4
     subst e3
     have hk:k∈Kp rs (so.take l.toNat):=(aB _).mem_iff.mp (by rw[e1];simp)
     have kk:k.length=l.toNat:=by have:=AO k hk;rw[zyd]at this;omega
     have hc:(k,bf n (Xp rs (so.take l.toNat) k))∈aJ (BB n ms rs) (so.take (k,bf n (Xp rs (so.take l.toNat) k)).1.length):=by
      show _∈aJ (BB n ms rs) (so.take k.length)
      rw[kk,←hB,pb]
      exact zze.mpr ⟨k,(aB _).mem_iff.mpr hk,rfl⟩
     have ne:=AU o hc (by show k.length<so.length;omega) a.toNat b.toNat
     have wp:=AT o (so:=so) (k:=k) (by omega) a.toNat b.toNat
     rw[←hcs]at ne wp
     have k0l:k0.length <= 25:=by
      have:=(aB (Kp rs (so.take l.toNat))).length_eq
      rw[e1,zzi]at this
      omega
     have tl:=nM cs (aC B so l.toNat++k0.map fun k=>(k,bf n (Xp rs (so.take l.toNat) k))) a.toNat b.toNat
     rw[zzi,zza]at tl
     refine⟨_,_,by rw[hP2];rfl,?_⟩
     have lk:l=((k.length:Nat):Int):=by omega
     have eP2:P2=PD a b (Kp rs (so.take (k.length+1))) (Xp rs (so.take (k.length+1))):=by rw[hP2,kk]
     have cst:∀Q:List D->Prop,Q (wd57 n rs so a.toNat b.toNat k)->cF (ge 0) (dB (dOp (gEq false) (dSlA (dVar 0) xV (xW (dVar 2))) (dVar 3))) (zY 1 gLS (jv (dOp gIxT (dVar 1) (dVar 0)) qS)) (((Kp rs (so.take (l.toNat+1))).map kI).map keyD) [] [.nil,.val P2,.val (.int l),.val (aq k)] Q:=fun Q q=>by
      rw[lk,eP2,zzY]
      exact zC o ab (by omega) q
     refine cst _ ?_
     obtain⟨ws,hws⟩:∃ws,ws=wd57 n rs so a.toNat b.toNat k:=⟨_,rfl⟩
     obtain⟨w0,hw0⟩:∃w0,w0=bu cs a.toNat b.toNat k:=⟨_,rfl⟩
     obtain⟨dk,hdk⟩:∃dk,dk=sayR a.toNat b.toNat (bf n (Xp rs (so.take l.toNat) k)):=⟨_,rfl⟩
     have ne:w0.isEmpty=false:=by rw[hw0];exact ne
     rw[←hws,←hw0]at wp
     rw[←hws]
     have wf:∀d∈ws,four d:=fun d hd=>by
      rw[hws]at hd
      obtain⟨c,_,rfl⟩:=zze.mp hd
      exact dh _ _ _
     have fa:ws.all mV=true:=zzO.mpr fun d hd=>nI (wf d hd)
     have ok:∀s,okT w0 dk s=(ws.all (isS s) && !isS s dk):=fun s=>by
      unfold okT
      rw[ne,AS wp]
      rfl
     have dk4:four dk:=by rw[hdk];exact dh _ _ _
     obtain⟨L0,hL0⟩:∃L0,L0=(aC B so l.toNat++k0.map fun k=>(k,bf n (Xp rs (so.take l.toNat) k))).flatMap (tuOf cs a.toNat b.toNat):=⟨_,rfl⟩
     rw[←hL0]at tl
     rw[←hL0]
     have sdk:∀Q:D->Prop,Q dk->gLS [dl a b (Xp rs (so.take l.toNat) k)] Q:=fun Q q=>vQ o k (by
      have e:=AQ (n:=n) (rs:=rs) (so:=so.take l.toNat) (a:=a.toNat) (b:=b.toNat) (by omega) (by omega) k
      rw[zyf a0,zyf b0]at e
      rw[←e]
      rw[hdk]at q
      exact q)
     refine⟨sz,?_⟩
     show iz _ _ (([1,-1]:List Int).map D.int) _ _
     refine bO (fun pre ρ=>∃t0 t1:List Int,([1,-1]:List Int)=t0++t1/\pre=t0.map D.int/\∃x6:Sl,ρ=[.val (.lst (rs.map rwD)),.val (aq so),.val (.int a),.val (.int b),.own ((L0++t0.flatMap (oneT w0 dk k)).map tkD),.val (.int l),.val P1,.val P2,.val (aq k),.val (.lst ws),x6]) (fun ρ hN=>?_) (fun pre d post ρ Y e hN hY=>?_) _ ⟨[],[1,-1],rfl,rfl,_,by rw[List.flatMap_nil,zzy];rfl⟩
     ·obtain⟨t0,t1,e5,e6,x6,rfl⟩:=hN
      have:t1=[]:=by
       have:=congrArg List.length e6
       rw[e5]at this
       simp at this
       exact this
      subst this
      rw[zzy]at e5
      refine hZ _ ⟨k0++[k],k1,by rw[e1];simp,by simp,.val (aq k),.val (.lst ws),x6,?_⟩
      have eL:(aC B so l.toNat++(k0++[k]).map fun k=>(k,bf n (Xp rs (so.take l.toNat) k))).flatMap (tuOf cs a.toNat b.toNat)=L0++([1,-1]:List Int).flatMap (oneT w0 dk k):=by
       rw[zzl,←zym,zye,←hL0,List.map_singleton,zyj,hw0,hdk]
       rfl
      rw[eL,e5]
     ·obtain⟨t0,t1,e5,rfl,x6,rfl⟩:=hN
      rw[e5,zzl]at e
      have e:=zzD e
      cases t1 with
      |nil=>simp at e
      |cons s t1 =>
       rw[zzc]at e
       injection e with e7 e8
       subst e7
       have t2:t0.length <= 2:=by have:=congrArg List.length e5;simp at this;omega
       have hol:=zD w0 dk k t0
       have hlen:((L0++t0.flatMap (oneT w0 dk k)).map tkD).length<sizeLine:=by
        rw[zza,zzi]
        exact zzC (show _ <= 2000 by omega) (by decide)
       have hT:okT w0 dk s=true->Y [.val (.lst (rs.map rwD)),.val (aq so),.val (.int a),.val (.int b),.own ((L0++t0.flatMap (oneT w0 dk k)).map tkD++[tkD (k,s)]),.val (.int l),.val P1,.val P2,.val (aq k),.val (.lst ws),.val (.int s)]:=fun q=>by
        refine hY _ ⟨t0++[s],t1,by rw[e5];simp,by simp,.val (.int s),?_⟩
        have:oneT w0 dk k s=[(k,s)]:=by unfold oneT;rw[if_pos q]
        rw[zye,zyj,this,←zym]
        simp only[zzl]
        rfl
       have hF:okT w0 dk s=false->Y [.val (.lst (rs.map rwD)),.val (aq so),.val (.int a),.val (.int b),.own ((L0++t0.flatMap (oneT w0 dk k)).map tkD),.val (.int l),.val P1,.val P2,.val (aq k),.val (.lst ws),.val (.int s)]:=fun q=>by
        refine hY _ ⟨t0++[s],t1,by rw[e5];simp,by simp,.val (.int s),?_⟩
        have:oneT w0 dk k s=[]:=by unfold oneT;rw[if_neg (by rw[q];exact zzo)]
        rw[zye,zyj,this,zzy]
       refine⟨trivial,⟨rfl,fa⟩,⟨rfl,rfl⟩,fun hc=>?_,fun hc=>?_⟩
       ·have hc:ws.all (isS s)=true:=by rw[←nL];exact hc
        rw[hP1]
        refine AR hk ⟨rfl,sdk _ ⟨⟨qg dk4,rfl⟩,fun hd=>?_,fun hd=>?_⟩⟩
        ·have hd:(!eqD dk (.int s))=true:=hd
         rw[nJ dk4]at hd
         rw[←hP1]
         exact⟨trivial,sz,hlen,hT (by rw[ok,hc,hd];rfl)⟩
        ·have hd:(!eqD dk (.int s))=false:=hd
         rw[nJ dk4]at hd
         rw[←hP1]
         exact hF (by rw[ok,hc,hd];rfl)
       ·have hc:ws.all (isS s)=false:=by rw[←nL];exact hc
        exact Br.f (hF (by rw[ok,hc];rfl))
 ·rintro _ ⟨x1,x2,x3,x4,x5,x6,rfl⟩
  exact h
theorem AV{b:Bk}{c:List Int×Row}(hc:c∈aJ b []):c.2=sums (b.cells.map (·.2)) b.m:=by
 have cl:c.1=[]:=zzK.mp (pq hc)
 unfold aJ at hc
 rw[nQ hc,List.filter_eq_self.mpr,zzg]
 ·rfl
 ·intro p hp
  obtain⟨d,_,rfl⟩:=zze.mp hp
  rw[cl]
  rfl
theorem wS(bk:Bk)(so:List Int):sums (tblB bk so) bk.m=sums (bk.cells.map (·.2)) bk.m:=by
 have:=wJ bk.m (bk.cells.map fun c=>(vals c.1 so,c.2))
 rw[zzg (f:=fun c:List Int×Row=>(vals c.1 so,c.2))]at this
 exact this
theorem AW{b:Bk}(h:b.cells≠[]):∃c,c∈aJ b []:=by
 cases q:b.cells with
 |nil=>exact absurd q h
 |cons c t =>
  have:vals c.1 []∈(aJ b []).map (·.1):=by
   unfold aJ
   rw[parts_mem,zzg,zze]
   exact⟨c,by rw[q];exact zzd,rfl⟩
  obtain⟨d,hd,_⟩:=zze.mp this
  exact⟨d,hd⟩
theorem zE{b:Bk}{so:List Int}{s:Int}{x y:Nat}(hx:x<b.m)(hy:y<b.m)(hs:s=1∨s = -1)(ne:b.cells≠[])(lv:∀c∈aJ b so,isS s (sayR x y c.2)=true)(nt:∀p∈dX (aC b so (so.length+1)) x y,p.2≠s):isS s (bd (tblB b so) x y)=true:=by
 obtain⟨c,hc⟩:=AW ne
 have r:=DJ hs (by rw[List.take_length];exact lv) nt so.length (zzh _) c (by rw[Nat.sub_self];exact hc)
 rw[zr (m:=b.m) ((wS b so).trans (AV hc).symm) hx hy]
 exact r
theorem pz(t:List Row)(x y:Nat):four (bd t x y):=by
 unfold four bd gu
 split
 ·exact .inl rfl
 ·split
  ·exact .inr (.inl rfl)
  ·split
   ·exact .inr (.inr (.inl rfl))
   ·exact .inr (.inr (.inr rfl))
theorem AX{ws:List D}(h:∀d∈ws,four d):shp (.lst ws)=true:=Shp.shp (n:=1) (.lst fun d hd=>by
 rcases h d hd with rfl|rfl|rfl|rfl
 ·exact .non
 ·exact .int
 ·exact .int
 ·exact .int)
theorem nY(ps:List (List Int×Int)):shp (.lst (ps.map tkD))=true:=Shp.shp (n:=4) (.lst fun d hd=>by
 obtain⟨p,_,rfl⟩:=zze.mp hd
 exact .tup fun d hd=>by
  simp only[zzj,zyi,or_false]at hd
  rcases hd with rfl|rfl
  ·exact .tup fun d hd=>by
    obtain⟨k,_,rfl⟩:=zze.mp hd
    exact .int
  ·exact .int)
def gLR:DSp:=fun ds Q=>∃(n:Nat) (ms:List Int) (rs:List Rw) (so:List Int) (a b:Int),ds=[.lst (rs.map rwD),aq so,.int a,.int b,.lst ((dX (aC (BB n ms rs) so (so.length+1)) a.toNat b.toNat).map tkD)]/\RsOk n ms rs/\SoOk (BB n ms rs) so/\AbOk n a b/\(BB n ms rs).cells≠[]/\Q (.bl true)
theorem iR:aY gLR:=fun ds P P' f ⟨n,ms,rs,so,a,b,h1,h2,h3,h4,h5,h⟩=>⟨n,ms,rs,so,a,b,h1,h2,h3,h4,h5,f _ h⟩
theorem iS(T:Tx K mg):FnOk P w K mg base CX0 2 T.cz T.ci ["_law_rows_here","_law_order","_law_a","_law_b","_law_turned"] (spD K 5 gLR):=by
 refine fnD (k:=1) T.aW.F sc__law_leaves_right (fun cdv A outer s H E hr=>(ah (aM (i:=5) sc__law_leaves_right.nd rfl oo (ai (eK T) eJ (rm hr) rfl T.aK.m T.aK.F.kp T.aK.b (aa (ac 0 (pv 0)) (aa (ac 1 (pv 1)) (aa (ac 2 (pv 2)) (aa (ac 3 (pv 3)) ad))))))
   (ah (iD (i:=6) sc__law_leaves_right.nd rfl rfl (vp (N':=["_law_values","_law_parts_here"]) rfl rfl dk rfl (.own (.cap (j:=5) rfl oo rfl .nil)) dk (pv 5) (fun B=>(ar (i:=0) ndB rfl oo)) (fun B=>bb) (fun B=>(ai (cT T) cS (rm hr) rfl T.ay.m T.ay.F.kp T.ay.b (aa (rF hr (ac 1 (pv 1)) (ac 0 (pv 0)) (fun _ _=>rfl)) ad)))))
   (aZ (bE PassesOwn.never rfl (iq (aR (aa af (aa (mP gh af) ad)))) (ar (i:=7) sc__law_leaves_right.nd rfl oo) (ag (bx (PWD.pt (oI (aG (lP hr) (ac 6 (pv 6)) (aN (bD ad)) (aw _)) (oI (aG (cf hr) (pP jA (ac 6 (pv 6)) (ac 7 (pv 7))) (au bF rfl T.cD zzE (aa (ac 6 (pv 6)) ad)) (aw _)) (mO (aG (lP hr) (ai (cT T) cS (rm hr) rfl T.ay.m T.ay.F.kp T.ay.b (aa (ai (lI T) lH (rm hr) rfl T.bA.m T.bA.F.kp T.bA.b (aa (ac 5 (pv 5)) ad)) ad)) (ac 7 (pv 7)) (aw _)))))) (ag (bx (aG (cf hr) (aN (PCD.pld (aQ (N':=["_law_knot","_law_s"]) rfl rfl dk rfl (.own (.cap (j:=7) rfl oo rfl .nil)) dk (ba (ac 4 (pv 4))) (fun B=>(ar (i:=0) ndB rfl oo)) (fun B=>(kq (aG (cf hr) (aL (ac 0 (pv 0)) af (fun _ _=>rfl)) (ac 1 (pv 1)) (aw _)))) (fun B=>(ac 0 (pv 0)))))) (aN (bD ad)) (aw _)) (ag (ax kj)) aA)) aA)))
   (ag (ax kj)))))) (fun ds Q hl h=>?_)
 obtain⟨n,ms,rs,so,a,b,rfl,o,so_,ab,ne,h⟩:=h
 have a0:=ab.a0
 have a1:=ab.a1
 have b0:=ab.b0
 have b1:=ab.b1
 have kl:=sB o (so:=so)
 obtain⟨tu,htu⟩:∃tu,tu=dX (aC (BB n ms rs) so (so.length+1)) a.toNat b.toNat:=⟨_,rfl⟩
 obtain⟨pd,hpd⟩:∃pd,pd=PD a b (Kp rs so) (Xp rs so):=⟨_,rfl⟩
 obtain⟨wh,hwh⟩:∃wh,wh=bd (tblB (BB n ms rs) so) a.toNat b.toNat:=⟨_,rfl⟩
 have wh4:four wh:=by rw[hwh];exact pz _ _ _
 have tul:tu.length <= 1000:=by
  have:=nM (aC (BB n ms rs) so (so.length+1)) (aC (BB n ms rs) so (so.length+1)) a.toNat b.toNat
  have k:=gx (AN o) (so:=so) (so.length+1)
  have s5:=so_.len
  rw[htu]
  unfold dX
  omega
 refine⟨rfl,⟨n,ms,rs,so,a,b,rfl,o,so_.it,so_.len,ab.ne,?_⟩⟩
 obtain⟨ws,hws⟩:∃ws,ws=(Kp rs so).map fun k=>fZ a.toNat b.toNat (bf n (Xp rs so k)):=⟨_,rfl⟩
 have wf:∀d∈ws,four d:=fun d hd=>by
  rw[hws]at hd
  obtain⟨c,_,rfl⟩:=zze.mp hd
  exact dh _ _ _
 have fa:ws.all mV=true:=zzO.mpr fun d hd=>nI (wf d hd)
 refine⟨_,_,rfl,?_⟩
 have e:((Kp rs so).map kI).map keyD=(Kp rs so).map aq:=by
  rw[zzg]
  apply zzv
  intro w _
  exact(dW w).symm
 show cF _ _ _ (((Kp rs so).map kI).map keyD) _ _ _
 rw[e]
 refine qq (l:=Kp rs so) aq (fun k=>fZ a.toNat b.toNat (bf n (Xp rs so k))) (fun ρ=>∃s,ρ=[s,.val (PD a b (Kp rs so) (Xp rs so))]) (by omega) (fun k hk ρ Y Z hN hY=>?_) _ ⟨_,rfl⟩ ?_
 ·obtain⟨s,rfl⟩:=hN
  have hY:=hY [.val (aq k),.val (PD a b (Kp rs so) (Xp rs so))] ⟨_,rfl⟩
  rw[AQ (by omega) (by omega),zyf a0,zyf b0]at hY
  exact Br.t (AR hk ⟨rfl,vQ o k hY⟩)
 rw[←hws]
 have whc:∀Q:D->Prop,Q wh->gWh [pd] fun d=>[d].length=1/\gLS [d] Q:=fun Q q=>by
  rw[hpd]
  refine⟨a,b,Kp rs so,Xp rs so,rfl,by omega,rfl,BT o a0 a1 b0 b1 ?_⟩
  rw[←hwh]
  exact q
 rw[←hpd,←htu]
 refine⟨fun ρ=>∃x7:Sl,ρ=[.val (.lst (rs.map rwD)),.val (aq so),.val (.int a),.val (.int b),.val (.lst (tu.map tkD)),.val pd,.val (.lst ws),x7],⟨sz,?_⟩,?_⟩
 ·show iz _ _ (([1,-1]:List Int).map D.int) _ _
  refine qZ (fun ρ=>∃x7:Sl,ρ=[.val (.lst (rs.map rwD)),.val (aq so),.val (.int a),.val (.int b),.val (.lst (tu.map tkD)),.val pd,.val (.lst ws),x7]) (fun ρ h=>h) (fun d hd ρ X hN hX=>?_) _ ⟨_,rfl⟩
  obtain⟨x7,rfl⟩:=hN
  obtain⟨s,hs,rfl⟩:=zze.mp hd
  have hs:s=1∨s = -1:=by simpa using hs
  refine⟨sz,⟨AX wf,rfl⟩,?_⟩
  show Br (!eqD (.lst ws) (.lst [])) _ _
  rw[za]
  refine⟨fun z1=>?_,fun z1=>Br.f (hX _ ⟨_,rfl⟩)⟩
  refine⟨trivial,⟨rfl,fa⟩,⟨rfl,rfl⟩,fun hc=>?_,fun hc=>Br.f (hX _ ⟨_,rfl⟩)⟩
  have hc:ws.all (isS s)=true:=by rw[←nL];exact hc
  refine⟨rfl,whc _ ⟨⟨qg wh4,rfl⟩,fun z3=>?_,fun z3=>hX _ ⟨_,rfl⟩⟩⟩
  have z3:(!eqD wh (.int s))=true:=z3
  rw[nJ wh4]at z3
  refine qr (l:=tu) tkD tkD (fun p=>decide (p.2=s)) (fun ρ=>∃x,ρ=[x,.val (.int s)]) tul (fun p hp ρ Y Z hN hY hZ=>?_) _ ⟨_,rfl⟩ ?_
  ·obtain⟨x,rfl⟩:=hN
   refine⟨⟨rfl,rfl⟩,?_⟩
   show Br (eqD (.int p.2) (.int s)) _ _
   rw[aV]
   exact⟨fun z=>hY z _ ⟨_,rfl⟩,fun z=>hZ z _ ⟨_,rfl⟩⟩
  ·refine⟨sz,⟨nY _,rfl⟩,?_⟩
   show Br (eqD (.lst ((tu.filter fun p=>decide (p.2=s)).map tkD)) (.lst [])) _ _
   rw[za,List.isEmpty_map]
   have em:(tu.filter fun p=>decide (p.2=s)).isEmpty=false:=by
    cases q:(tu.filter fun p=>decide (p.2=s)) with
    |cons _ _=>rfl
    |nil =>
     exfalso
     have nt:∀p∈dX (aC (BB n ms rs) so (so.length+1)) a.toNat b.toNat,p.2≠s:=fun p hp e=>by
      rw[←htu]at hp
      have:p∈tu.filter fun p=>decide (p.2=s):=zzp.mpr ⟨hp,decide_eq_true e⟩
      rw[q]at this
      simp at this
     have lv:∀c∈aJ (BB n ms rs) so,isS s (sayR a.toNat b.toNat c.2)=true:=fun c hc'=>by
      rw[ml o]at hc'
      obtain⟨k,hk,rfl⟩:=zze.mp hc'
      rw[hws,zzO]at hc
      exact hc _ (zze.mpr ⟨k,(aB _).mem_iff.mp hk,rfl⟩)
     have r:=zE (b:=BB n ms rs) (x:=a.toNat) (y:=b.toNat) (by show a.toNat<n;omega) (by show b.toNat<n;omega) hs ne lv nt
     rw[←hwh]at r
     rw[r]at z3
     cases z3
   rw[em]
   exact Br.f (hX _ ⟨_,rfl⟩)
 ·rintro _ ⟨x7,rfl⟩
  exact h
theorem AY{ws:List D}{d:D}(h:four d):shp (fH ws d)=true:=by
 have tk:∀s:Int,Shp 1 (tkT s d):=fun s=>by
  unfold tkT
  split
  ·exact .tup fun e he=>by
    simp only[zzj,zyi,or_false]at he
    rcases he with rfl|rfl
    ·exact⟨rfl,by decide +kernel,zzH _⟩
    ·exact .int
  ·exact .tup fun e he=>by
    simp only[zzj,zyi,or_false]at he
    rcases he with rfl|rfl|rfl
    ·exact⟨rfl,by decide +kernel,zzH _⟩
    ·exact .int
    ·rcases h with rfl|rfl|rfl|rfl
     ·exact .non
     ·exact .int
     ·exact .int
     ·exact .int
 have k:Shp 1 (fH ws d):=by
  unfold fH
  split
  ·exact tk 1
  ·split
   ·exact tk (-1)
   ·split
    ·exact .tup fun e he=>by
      simp only[zzj,zyi,or_false]at he
      rcases he with rfl|rfl
      ·exact⟨rfl,by decide +kernel,zzH _⟩
      ·exact .int
    ·exact .tup fun e he=>by
      simp only[zzj,zyi,or_false]at he
      rcases he with rfl|rfl|rfl
      ·exact⟨rfl,by decide +kernel,zzH _⟩
      ·exact .int
      ·exact .int
 exact k.shp
theorem mq(ts:List (List Int)):shp (bY ts)=true:=Shp.shp (n:=4) (.lst fun d hd=>by
 obtain⟨c,_,rfl⟩:=zze.mp hd
 exact .tup fun d hd=>by
  obtain⟨k,_,rfl⟩:=zze.mp hd
  exact .int)
theorem AZ{n:Nat}(h:n <= 5):chs n (n+1)=chs n n:=by
 show chs n n++lv n (n+1)=_
 rw[BM n h,zzy]
def gRt:DSp:=fun ds Q=>∃(n:Nat) (ms:List Int) (rs:List Rw) (so:List Int) (a b:Int),ds=[ck (BB n ms rs),.lst (rs.map rwD),.int ms.length,.int a,.int b,aq so]/\RsOk n ms rs/\SoOk (BB n ms rs) so/\AbOk n a b/\(BB n ms rs).cells≠[]/\Q (.bl true)
theorem sD:aY gRt:=fun ds P P' f ⟨n,ms,rs,so,a,b,h1,h2,h3,h4,h5,h⟩=>⟨n,ms,rs,so,a,b,h1,h2,h3,h4,h5,f _ h⟩
theorem sE(T:Tx K mg):FnOk P w K mg base CX0 8 T.gQ T.fR ["_law_book","_law_rows_here","_law_size","_law_a","_law_b","_law_order"] (spD K 6 gRt):=by
 refine fnD (k:=7) T.dm.F sc__law_right (fun cdv A outer s H E hr=>(ah (jw (i:=6) sc__law_right.nd rfl oo (bD ad))
   (aZ (bE PassesOwn.never rfl (ba (ai (jQ T) jP (rm hr) rfl T.bm.m T.bm.F.kp T.bm.b (aa (ac 2 (pv 2)) ad))) (ar (i:=7) sc__law_right.nd rfl oo) (ah (aM (i:=8) sc__law_right.nd rfl oo (ai (wR T) wQ (rm hr) rfl T.fi.m T.fi.F.kp T.fi.b (aa (ai (eK T) eJ (rm hr) rfl T.aK.m T.aK.F.kp T.aK.b (aa (ac 1 (pv 1)) (aa (ac 7 (pv 7)) (aa (ac 3 (pv 3)) (aa (ac 4 (pv 4)) ad))))) ad)))
   (ah (bx (aG (lP hr) (ai (se T) rZ (rm hr) rfl T.du.m T.du.F.kp T.du.b (aa (ai (pf T) oZ (rm hr) rfl T.cB.m T.cB.F.kp T.cB.b (aa (ac 0 (pv 0)) (aa (ac 7 (pv 7)) ad))) (aa (ac 3 (pv 3)) (aa (ac 4 (pv 4)) ad)))) (ac 8 (pv 8)) (aw _)) (ag (ax kj)) aA)
   (ag (bx (aG (cf hr) (aL (ac 8 (pv 8)) af (fun _ _=>rfl)) ip (aw _)) (ag (qY (pv 6) (ac 7 (pv 7)))) aA)))))
   (ah (rJ (k:=6) (bx (aG (lP hr) (ai (nU T) nT (rm hr) rfl T.bS.m T.bS.F.kp T.bS.b (aa (ac 0 (pv 0)) (aa (ac 3 (pv 3)) (aa (ac 4 (pv 4)) ad)))) (ac 6 (pv 6)) (aw _)) (ag (ax kj)) aA))
   (ah (aM (i:=9) sc__law_right.nd rfl oo (ai (iu T) ir (rm hr) rfl T.aT.m T.aT.F.kp T.aT.b (aa (ac 0 (pv 0)) (aa (ac 5 (pv 5)) (aa (ac 3 (pv 3)) (aa (ac 4 (pv 4)) ad))))))
   (ag (ax (oK (dO (cf hr) (ac 9 (pv 9)) (ai (lT T) lS (rm hr) rfl T.bG.m T.bG.F.kp T.bG.b (aa (ac 1 (pv 1)) (aa (ac 5 (pv 5)) (aa (ac 3 (pv 3)) (aa (ac 4 (pv 4)) ad))))) (aw _)) (oJ (ai (iS T) iR (rm hr) rfl T.aW.m T.aW.F.kp T.aW.b (aa (ac 1 (pv 1)) (aa (ac 5 (pv 5)) (aa (ac 3 (pv 3)) (aa (ac 4 (pv 4)) (aa (ac 9 (pv 9)) ad))))))))))))))) (fun ds Q hl h=>?_)
 obtain⟨n,ms,rs,so,a,b,rfl,o,so_,ab,ne,h⟩:=h
 have bo:=AN o
 have m5:=o.mo.l5
 obtain⟨B,hB⟩:∃B,B=BB n ms rs:=⟨_,rfl⟩
 have ab':AbOk B.m a b:=by rw[hB];exact ab
 have eml:B.marks.length=ms.length:=by rw[hB]
 rw[←hB]at bo ne so_ ⊢
 have cok:∀s∈chs ms.length ms.length,SoOk B s:=fun s hs=>by
  have:=BP m5 (show ms.length <= 6 by omega) hs
  exact⟨by rw[eml];exact this.2.1,this.2.2,this.1⟩
 have cl:=gy _ m5 ms.length (by omega)
 refine⟨sz,fun ρ=>∃x7 x8 x9:Sl,ρ=[.val (ck B),.val (.lst (rs.map rwD)),.val (.int ms.length),.val (.int a),.val (.int b),.val (aq so),.own (((chs ms.length ms.length).filter (isT B a.toNat b.toNat)).map aq),x7,x8,x9],⟨rfl,ms.length,rfl,m5,?_⟩,?_⟩
 ·obtain⟨cs,hcs⟩:∃cs,cs=chs ms.length ms.length:=⟨_,rfl⟩
  rw[←hcs]at cok cl ⊢
  refine bO (fun pre ρ=>∃c0 c1:List (List Int),cs=c0++c1/\pre=c0.map aq/\∃x7 x8 x9:Sl,ρ=[.val (ck B),.val (.lst (rs.map rwD)),.val (.int ms.length),.val (.int a),.val (.int b),.val (aq so),.own ((c0.filter (isT B a.toNat b.toNat)).map aq),x7,x8,x9]) (fun ρ hN=>?_) (fun pre d post ρ X e hN hX=>?_) _ ⟨[],cs,rfl,rfl,_,_,_,rfl⟩
  ·obtain⟨c0,c1,e1,e2,x7,x8,x9,rfl⟩:=hN
   have:c1=[]:=by
    have:=congrArg List.length e2
    rw[e1]at this
    simp at this
    exact this
   subst this
   rw[zzy]at e1
   subst e1
   exact⟨x7,x8,x9,rfl⟩
  ·obtain⟨c0,c1,e1,rfl,x7,x8,x9,rfl⟩:=hN
   rw[e1,zzl]at e
   have e:=zzD e
   cases c1 with
   |nil=>simp at e
   |cons c c1 =>
    rw[zzc]at e
    injection e with e3 e4
    subst e3
    have so':=cok c (by rw[e1];simp)
    have tb:=sr bo ne c
    have c31:(c0.filter (isT B a.toNat b.toNat)).length <= 31:=by
     rw[e1,zzi]at cl
     exact zzk (zzN _ _) (by omega)
    have t4:four (bd (tblB B c) a.toNat b.toNat):=pz _ _ _
    have sh:shp (trnB B a.toNat b.toNat c)=true:=AY t4
    refine⟨rfl,⟨n,ms,rs,c,a,b,rfl,o,fun x hx=>by have:=so'.it x hx;rw[eml]at this;exact this,so'.len,ab.ne,rfl,n,ms,rs,c,a,b,rfl,o,ab,?_⟩⟩
    rw[←hB]
    refine⟨rfl,B,c,rfl,bo,so',rfl,B.m,tblB B c,rfl,tb,⟨ab'.a0,ab'.a1,ab'.b0,ab'.b1,ab'.ne⟩,⟨sh,sh⟩,yU sh ?_⟩
    obtain⟨w',r,ew,sw⟩:=pj (told (tblB B c) a.toNat b.toNat) (bd (tblB B c) a.toNat b.toNat)
    have ew:trnB B a.toNat b.toNat c=.tup (.str w'::r):=ew
    have ei:isT B a.toNat b.toNat c=eqD (.str w') (.str (PySem.Str.ofString "turned")):=by
     unfold isT
     rw[ew]
     rfl
    rw[ew]
    refine lB (zyx 0) rfl ⟨⟨sw,ss⟩,fun z=>?_,fun z=>?_⟩
    ·have z:isT B a.toNat b.toNat c=true:=by rw[ei];exact z
     refine⟨trivial,?_,hX _ ⟨c0++[c],c1,by rw[e1];simp,by simp,.val (aq c),.val (.tup (.str w'::r)),x9,?_⟩⟩
     ·rw[zza]
      exact zzC c31 (by decide)
     ·rw[zzQ,zzW z,zzl]
      rfl
    ·have z:isT B a.toNat b.toNat c=false:=by rw[ei];exact z
     refine hX _ ⟨c0++[c],c1,by rw[e1];simp,by simp,.val (aq c),.val (.tup (.str w'::r)),x9,?_⟩
     rw[zzQ,zya (by rw[z];exact zzo)]
     simp
 ·rintro _ ⟨x7,x8,x9,rfl⟩
  have et:D.lst ((tby B a.toNat b.toNat).map aq)=D.lst (((chs ms.length ms.length).filter (isT B a.toNat b.toNat)).map aq):=by
   unfold tby
   rw[if_neg ne,eml,AZ m5]
  refine⟨_,rfl,rfl,B,a,b,rfl,bo,ab',⟨FJ et (mq _),mq _⟩,Dp et (mq _) ?_⟩
  refine⟨rfl,B,so,a,b,rfl,bo,so_,ab',?_⟩
  rw[hB]at so_ ne ⊢
  refine⟨rfl,n,ms,rs,so,a,b,rfl,o,so_,ab,⟨nY _,nY _⟩,?_⟩
  show Br (eqD (.lst ((dX (aC (BB n ms rs) so (so.length+1)) a.toNat b.toNat).map tkD)) (.lst ((dX (aC (BB n ms rs) so (so.length+1)) a.toNat b.toNat).map tkD))) _ _
  rw[uT (nY _)]
  exact Br.t ⟨rfl,n,ms,rs,so,a,b,rfl,o,so_,ab,ne,h⟩
theorem FV{rs:List Rw}(hl:rs.length <= 1000){s:Sl}{Q:List D->Prop}(q:Q ((rs.map (·.t)).map D.int)):cF (ge 0) dQ (dOp gIx (dVar 0) (dC (.int 2))) (rs.map rwD) [] [s] Q:=by
 refine bP (fun d=>match d with|.tup [_,_,x,_]=>x|_=>.non) (fun ρ=>∃s,ρ=[s]) (by rw[zza];exact zzk hl (by decide)) (fun d hd ρ Y Z hN hY=>?_) _ ⟨_,rfl⟩ ?_
 ·obtain⟨s,rfl⟩:=hN
  obtain⟨c,_,rfl⟩:=zze.mp hd
  exact Br.t (hY _ ⟨_,rfl⟩)
 ·rw[zzg]at q ⊢
  exact q
theorem zF{n:Nat}{ms:List Int}{rs:List Rw}(o:RsOk n ms rs)(h:(rs.map (·.t)).sum=0):(BB n ms rs).cells=[]:=by
 have z:∀{l:List Rw},(∀r∈l,0 <= r.t)->(l.map (·.t)).sum=0->∀r∈l,r.t=0:=by
  intro l
  induction l with
  |nil=>intro _ _ r hr;simp at hr
  |cons a l ih =>
   intro h0 hs r hr
   rw[zzc,zzI]at hs
   have a0:=h0 a zzd
   have l0:0 <= (l.map (·.t)).sum:=by
    clear ih hs hr
    have h0:=fun r hr=>h0 r (zzb a hr)
    induction l with
    |nil=>simp
    |cons b l ih2 =>
     rw[zzc,zzI]
     have:=ih2 (fun r hr=>by rcases zzj.mp hr with rfl|hr;exact a0;exact h0 r (zzb _ hr)) (fun r hr=>h0 r (zzb _ hr))
     have:=h0 b zzd
     omega
   rcases zzj.mp hr with rfl|hr
   ·omega
   ·exact ih (fun r hr=>h0 r (zzb _ hr)) (by omega) r hr
 have all:=z (fun r hr=>by have h1:=(o.ro r hr).w0;have h2:=(o.ro r hr).wt;omega) h
 show gath n (prs n rs)=[]
 cases q:gath n (prs n rs) with
 |nil=>rfl
 |cons c t =>
  obtain⟨k,_,r,hr,_,tp⟩:=qp o.ro (c:=c) (by rw[q];exact zzd)
  have:=all r hr
  omega
theorem Ba{n:Nat}{ms:List Int}{rs:List Rw}(o:RsOk n ms rs)(h:(rs.map (·.t)).sum≠0):(BB n ms rs).cells≠[]:=by
 intro e
 have all:∀r∈rs,r.t=0:=fun r hr=>by
  have h1:=(o.ro r hr).w0
  have h2:=(o.ro r hr).wt
  by_cases tp:0<r.t
  ·have:=zo o.ro hr tp
   have e:gath n (prs n rs)=[]:=e
   rw[e]at this
   simp at this
  ·omega
 refine h ?_
 clear h e o
 induction rs with
 |nil=>rfl
 |cons a l ih=>rw[zzc,zzI,all a zzd,ih fun r hr=>all r (zzb _ hr)];rfl
theorem wT{b:Bk}(h:b.cells=[])(so:List Int):aJ b so=[]:=by
 unfold aJ
 rw[h]
 rfl
theorem wU{b:Bk}(h:b.cells=[])(so:List Int)(x y:Nat):dX (aC b so (so.length+1)) x y=[]:=by
 have:aC b so (so.length+1)=[]:=by
  unfold aC
  rw[List.flatMap_eq_nil_iff]
  intro l _
  exact wT h _
 rw[this]
 rfl
structure OrdOk(m:Nat)(A:List Int):Prop where
 it:∀x∈A,0 <= x/\x<m
 nd:A.Nodup
 len:A.length=m
theorem OrdOk.ins{m:Nat}{A:List Int}(h:OrdOk m A)(k:Nat):OrdOk (m+1) (A.take k++(m:Int)::A.drop k):=by
 have e:(A.take k++(m:Int)::A.drop k).Perm ((m:Int)::A):=by
  refine List.perm_middle.trans ?_
  rw[List.take_append_drop]
 refine⟨fun x hx=>?_,e.nodup_iff.mpr (zzL.mpr ⟨fun z=>?_,h.nd⟩),by rw[e.length_eq,zzZ,h.len]⟩
 ·rcases zzj.mp (e.mem_iff.mp hx) with rfl|hx
  ·omega
  ·have:=h.it x hx
   omega
 ·have:=h.it _ z
  omega
set_option maxHeartbeats 1000000 in
theorem Hn(T:Tx K mg):FnOk P w K mg base CX0 12 T.DN T.zJ ["_law_script"] (DL.spLaw K):=by
 refine lawD (k:=11) T.FZ.F sc_law rfl (by decide) (fun cdv A outer s H E hr=>jm (i:=1) sc_law.nd rfl oo (sK (tU T) (rm hr) rfl T.fm.m T.fm.F.kp T.fm.b .nil Cp (bC (pv 0) da))) (fun cdv A outer s H E hr=>(aZ (aM (i:=2) sc_law.nd rfl oo (bL dP af (ai (aD T) aE (rm hr) rfl T.ae.m T.ae.F.kp T.ae.b (aa (ac 1 (pv 1)) (aa af ad)))))
   (aZ (iD (i:=3) sc_law.nd rfl rfl (aQ (N':=["_law_k","_law_pen_here"]) rfl rfl dk rfl (.own (.cap (j:=1) rfl oo rfl .nil)) dk (bN rfl T.cW (aa (bL dP af (ai (aD T) aE (rm hr) rfl T.ae.m T.ae.F.kp T.ae.b (aa (ac 1 (pv 1)) (aa af ad)))) ad)) (fun B=>(ar (i:=0) ndB rfl oo)) (fun B=>bb) (fun B=>(bL dP af (ai (aD T) aE (rm hr) rfl T.ae.m T.ae.F.kp T.ae.b (aa (ac 1 (pv 1)) (aa af ad)))))))
   (ah (aM (i:=4) sc_law.nd rfl oo (ai (uo T) um (rm hr) rfl T.eu.m T.eu.F.kp T.eu.b (aa (ac 1 (pv 1)) (aa (ac 2 (pv 2)) (aa (ac 3 (pv 3)) ad)))))
   (aZ (bx (aG (cf hr) (ai (aD T) aE (rm hr) rfl T.ae.m T.ae.F.kp T.ae.b (aa (ac 1 (pv 1)) (aa af ad))) af (aw _)) (ah (aM (i:=5) sc_law.nd rfl oo (ai (aD T) aE (rm hr) rfl T.ae.m T.ae.F.kp T.ae.b (aa (ac 1 (pv 1)) (aa af ad))))
   (ag (iD (i:=4) sc_law.nd rfl rfl (aQ (N':=["_law_row","_law_gone"]) rfl rfl dk rfl (.own (.cap (j:=5) rfl oo rfl .nil)) dk (ba (ac 4 (pv 4))) (fun B=>(ar (i:=0) ndB rfl oo)) (fun B=>(kq (aG (lP hr) (aL (ac 0 (pv 0)) af (fun _ _=>rfl)) (ac 1 (pv 1)) (aw _)))) (fun B=>(ac 0 (pv 0))))))) aA)
   (ah (aM (i:=6) sc_law.nd rfl oo (ai (ze T) zd (rm hr) rfl T.gK.m T.gK.F.kp T.gK.b (aa (ac 2 (pv 2)) (aa (ac 3 (pv 3)) (aa (ac 4 (pv 4)) ad)))))
   (ah (jw (i:=7) sc_law.nd rfl oo (bD ad))
   (aZ (bE PassesOwn.never rfl (bN rfl T.cW (aa (au bF rfl T.cD zzE (aa (ac 3 (pv 3)) ad)) ad)) (ar (i:=8) sc_law.nd rfl oo) (ag (FE (pv 7) (aa (ai (aD T) aE (rm hr) rfl T.ae.m T.ae.F.kp T.ae.b (aa (ac 1 (pv 1)) (aa (bL dP (ac 8 (pv 8)) af) ad))) (aa (ac 8 (pv 8)) ad)))))
   (ah (rJ (k:=7) (bx (aG (cf hr) (au uS rfl T.zI PyProof.Rows.boot_sum (aa (aN (PCD.pld (aQ (N':=["_law_row"]) rfl rfl dk rfl (.own .nil) dk (ba (ac 4 (pv 4))) (fun B=>(ar (i:=0) ndB rfl oo)) (fun B=>bb) (fun B=>(aL (ac 0 (pv 0)) af (fun _ _=>rfl)))))) ad)) af (aw _)) (ag (ax (oK (dO (cf hr) (ai (nU T) nT (rm hr) rfl T.bS.m T.bS.F.kp T.bS.b (aa (ac 6 (pv 6)) (aa af (aa af ad)))) (aN (bD ad)) (aw _)) (oJ (dO (cf hr) (ai (iu T) ir (rm hr) rfl T.aT.m T.aT.F.kp T.aT.b (aa (ac 6 (pv 6)) (aa (aU cX rfl T.bU rfl (aa (ac 7 (pv 7)) ad)) (aa af (aa af ad))))) (aN (bD ad)) (aw _)))))) aA))
   (aZ (bE PassesOwn.never rfl (bN rfl T.cW (aa (au xX rfl T.Bb PyProof.Rows.boot_min (aa (ac 2 (pv 2)) (aa af ad))) ad)) (ar (i:=9) sc_law.nd rfl oo) (ag (bE PassesOwn.never rfl (bN rfl T.cW (aa (au xX rfl T.Bb PyProof.Rows.boot_min (aa (ac 2 (pv 2)) (aa af ad))) ad)) (ar (i:=10) sc_law.nd rfl oo) (ag (bx (PWD.pt (oI (aG (lP hr) (ac 9 (pv 9)) (ac 10 (pv 10)) (aw _)) (mO (de (cE (ai (sE T) sD (rm hr) rfl T.dm.m T.dm.F.kp T.dm.b (aa (ac 6 (pv 6)) (aa (ac 4 (pv 4)) (aa (au bF rfl T.cD zzE (aa (ac 3 (pv 3)) ad)) (aa (ac 9 (pv 9)) (aa (ac 10 (pv 10)) (aa (aU cX rfl T.bU rfl (aa (ac 7 (pv 7)) ad)) ad)))))))))))) (ag (ax kj)) aA)))))
   (ag (ax kj)))))))))))) ?_
 refine⟨fun ρ=>∃n:Nat,(2 <= n/\n <= 6)/\ρ=[.nil,.val .pen,.val (.int n),.nil,.nil,.nil,.nil,.nil,.nil,.nil,.nil],⟨rfl,⟨by decide,by decide⟩,fun r r0 r1=>⟨(2+r).toNat,⟨by omega,by omega⟩,?_⟩⟩,?_⟩
 ·have e:((2+r).toNat:Int)=2+r:=by omega
  rw[e]
  rfl
 rintro _ ⟨n,⟨n2,n6⟩,rfl⟩
 refine⟨fun ρ=>∃ms:List Int,(MsOk ms/\1 <= ms.length)/\ρ=[.nil,.val .pen,.val (.int n),.val (.lst (ms.map D.int)),.nil,.nil,.nil,.nil,.nil,.nil,.nil],⟨rfl,⟨by decide,by decide⟩,fun m m0 m1=>⟨⟨by omega,by omega⟩,?_⟩⟩,?_⟩
 ·refine br (fun pre acc ρ=>∃ms:List Int,acc=ms.map D.int/\ms.length=pre.length/\(∀x∈ms,1 <= x/\x <= 6)/\∃s,ρ=[s,.val .pen]) (fun acc ρ hN=>?_) (fun pre d post acc ρ Y e hN hY=>?_) _ ⟨[],rfl,rfl,fun x hx=>by simp at hx,_,rfl⟩
  ·obtain⟨ms,rfl,el,hv,_⟩:=hN
   rw[dg,zza,zyc]at el
   exact⟨ms,⟨⟨by omega,hv⟩,by omega⟩,rfl⟩
  ·obtain⟨ms,rfl,el,hv,s,rfl⟩:=hN
   have hlen:=congrArg List.length e
   rw[dg,zza,zyc,zzi,zzZ]at hlen
   refine Br.t ⟨rfl,⟨by decide,by decide⟩,fun r r0 r1=>⟨?_,hY _ _ ⟨ms++[1+r],by rw[zzl];rfl,by simp[el],fun x hx=>?_,_,rfl⟩⟩⟩
   ·rw[zza]
    exact zzC (show ms.length <= 10 by omega) (by decide)
   ·rcases zzw.mp hx with hx|hx
    ·exact hv x hx
    ·rw[zzx.mp hx]
     omega
 rintro _ ⟨ms,⟨mo,m1⟩,rfl⟩
 refine⟨rfl,n,ms,rfl,⟨n2,n6⟩,mo,m1,fun rs rl ro=>?_⟩
 refine⟨fun ρ=>∃(rs:List Rw) (x5:Sl),RsOk n ms rs/\ρ=[.nil,.val .pen,.val (.int n),.val (.lst (ms.map D.int)),.val (.lst (rs.map rwD)),x5,.nil,.nil,.nil,.nil,.nil],?_,?_⟩
 ·have o:RsOk n ms rs:=⟨n2,n6,mo,rl,fun r hr=>(ro r hr).1,fun r hr=>(ro r hr).2⟩
  refine⟨rfl,⟨by decide,by decide⟩,fun u u0 u1=>⟨⟨rfl,rfl⟩,fun _=>?_,fun _=>⟨rs,_,o,rfl⟩⟩⟩
  refine⟨rfl,⟨by decide,by decide⟩,fun g g0 g1=>?_⟩
  refine qr (l:=rs) rwD rwD (fun r=>!decide (r.h=g)) (fun ρ=>∃s,ρ=[s,.val (.int g)]) (by omega) (fun r hr ρ Y Z hN hY hZ=>?_) _ ⟨_,rfl⟩ ?_
  ·obtain⟨s,rfl⟩:=hN
   refine⟨⟨rfl,rfl⟩,?_⟩
   show Br (!eqD (.int r.h) (.int g)) _ _
   rw[aV]
   exact⟨fun z=>hY z _ ⟨_,rfl⟩,fun z=>hZ z _ ⟨_,rfl⟩⟩
  ·exact⟨rs.filter fun r=>!decide (r.h=g),.val (.int g),⟨n2,n6,mo,zzk (zzN _ _) rl,fun r hr=>(ro r (zzp.mp hr).1).1,fun r hr=>(ro r (zzp.mp hr).1).2⟩,rfl⟩
 clear rl ro rs
 rintro _ ⟨rs,x5,o,rfl⟩
 have rl:=o.rl
 have bo:=AN o
 have m5:=mo.l5
 have em:(((ms.map D.int).length:Nat):Int)=ms.length:=by rw[zza]
 refine⟨rfl,n,ms,rs,rfl,⟨n2,n6⟩,mo,by omega,o.ro,?_⟩
 obtain⟨B,hB⟩:∃B,B=BB n ms rs:=⟨_,rfl⟩
 have eB:ck ⟨n,ms,gath n (rs.map fun r=>(r.ks,gb n r))⟩=ck B:=by rw[hB];rfl
 rw[eB]
 refine⟨sz,fun ρ=>∃(A:List Int) (x8:Sl),OrdOk ms.length A/\ρ=[.nil,.val .pen,.val (.int n),.val (.lst (ms.map D.int)),.val (.lst (rs.map rwD)),x5,.val (ck B),.own (A.map D.int),x8,.nil,.nil],⟨⟨by omega,by omega⟩,?_⟩,?_⟩
 ·refine eF (fun k ρ=>∃(A:List Int) (x8:Sl),OrdOk k.toNat A/\ρ=[.nil,.val .pen,.val (.int n),.val (.lst (ms.map D.int)),.val (.lst (rs.map rwD)),x5,.val (ck B),.own (A.map D.int),x8,.nil,.nil]) _ _ ?_ ?_ _ ⟨[],_,⟨fun x hx=>by simp at hx,List.nodup_nil,rfl⟩,rfl⟩
  ·rintro ρ ⟨A,x8,oa,rfl⟩
   have e:(0+((((ms.map D.int).length:Nat):Int).toNat:Int)).toNat=ms.length:=by omega
   rw[e]at oa
   exact⟨A,x8,oa,rfl⟩
  ·rintro k ρ X k0 k1 ⟨A,x8,oa,rfl⟩ hX
   have ol:=oa.len
   refine⟨trivial,rfl,⟨by omega,by omega⟩,fun u u0 u1=>⟨u,.int k,rfl,u0,by rw[zza];omega,by rw[zza];omega,hX _ ⟨A.take u.toNat++k::A.drop u.toNat,.val (.int k),?_,?_⟩⟩⟩
   ·have:=oa.ins u.toNat
    rw[show ((k.toNat:Nat):Int)=k by omega]at this
    rw[show (k+1).toNat=k.toNat+1 by omega]
    exact this
   ·rw[zzl,zzc,List.map_take,List.map_drop]
    rfl
 rintro _ ⟨A,x8,oa,rfl⟩
 have so_:SoOk (BB n ms rs) A:=⟨oa.it,oa.nd,by have:=oa.len;omega⟩
 refine⟨_,rfl,FV (by omega) (mT ⟨⟨rfl,rfl⟩,fun z=>?_,fun z=>?_⟩)⟩
 ·have z:(rs.map (·.t)).sum=0:=by simpa[aV]using z
  have nil:=zF o z
  have ab:AbOk n 0 1:=⟨by decide,by omega,by decide,by omega,by decide⟩
  rw[hB]
  refine⟨rfl,BB n ms rs,0,1,rfl,bo,ab,sz,⟨mq _,rfl⟩,?_⟩
  have et:tby (BB n ms rs) (0:Int).toNat (1:Int).toNat=[]:=by unfold tby;rw[if_pos nil]
  show Br (eqD (.lst ((tby (BB n ms rs) (0:Int).toNat (1:Int).toNat).map aq)) (.lst [])) _ _
  rw[et]
  refine Br.t ⟨rfl,BB n ms rs,A,0,1,rfl,bo,so_,ab,sz,⟨nY _,rfl⟩,?_⟩
  rw[wU nil]
  rfl
 ·have z:(rs.map (·.t)).sum≠0:=by simpa[aV]using z
  have ne:=Ba o z
  refine⟨fun ρ=>∃x9 x10:Sl,ρ=[.nil,.val .pen,.val (.int n),.val (.lst (ms.map D.int)),.val (.lst (rs.map rwD)),x5,.val (ck B),.val (.lst (A.map D.int)),x8,x9,x10],?_,?_⟩
  ·obtain⟨m3,h3,m3n⟩:∃m3:Int,m3=(if (3:Int)<n then 3 else(n:Int))/\(2 <= m3/\m3 <= n/\m3 <= 3):=⟨_,rfl,by split<;>omega⟩
   refine⟨⟨by split<;>omega,by split<;>omega⟩,?_⟩
   rw[←h3]
   refine eF (fun k ρ=>∃x9 x10:Sl,ρ=[.nil,.val .pen,.val (.int n),.val (.lst (ms.map D.int)),.val (.lst (rs.map rwD)),x5,.val (ck B),.val (.lst (A.map D.int)),x8,x9,x10]) _ _ (fun ρ h=>h) ?_ _ ⟨_,_,rfl⟩
   rintro a ρ X a0 a1 ⟨x9,x10,rfl⟩ hX
   refine⟨⟨by split<;>omega,by split<;>omega⟩,?_⟩
   rw[←h3]
   refine eF (fun k ρ=>∃x10:Sl,ρ=[.nil,.val .pen,.val (.int n),.val (.lst (ms.map D.int)),.val (.lst (rs.map rwD)),x5,.val (ck B),.val (.lst (A.map D.int)),x8,.val (.int a),x10]) _ _ ?_ ?_ _ ⟨_,rfl⟩
   ·rintro ρ ⟨x10,rfl⟩
    exact hX _ ⟨_,_,rfl⟩
   ·rintro b ρ Y b0 b1 ⟨x10,rfl⟩ hY
    refine⟨⟨rfl,rfl⟩,fun q=>?_,fun q=>Br.f (hY _ ⟨_,rfl⟩)⟩
    have q:a≠b:=by simpa[aV]using q
    have ed:[ck B,.lst (rs.map rwD),.int ((ms.map D.int).length:Nat),.int a,.int b,.tup (A.map D.int)]=[ck (BB n ms rs),.lst (rs.map rwD),.int ms.length,.int a,.int b,aq A]:=by
     rw[hB,zza]
     rfl
    exact⟨rfl,n,ms,rs,A,a,b,ed,o,so_,⟨by omega,by omega,by omega,by omega,q⟩,ne,Br.f (hY _ ⟨_,rfl⟩)⟩
  ·rintro _ ⟨x9,x10,rfl⟩
   rfl
end
set_option maxHeartbeats 0 in
theorem all_mk{l:PySem.W.OpenLaw}{w:World}{K:PySem.W.Frag}{h:Heap}{mg:Str->Option Value}{fa f0 f1 f2 f3 f4 f5 f6 f7 f8 f9 f10 f11 f12 f13 f14 f15 f16 f17 f18 f19 f20 f21 f22 f23 f24 f25 f26 f27 f28 f29 f30 f31 f32 f33 f34 f35 f36 f37 f38 f39 f40 f41 f42 f43 f44:Addr}(X:K.In h)(G:h.Ns mainGlobals mg)(hfa:mg "law" = some (.ref fa))
  {e0 e1 e2 e3 e4 e5 e6 e7 e8 e9 e10 e11 e12 e13 e14 e15 e16 e17 e18 e19 e20 e21 e22 e23 e24 e25 e26 e27 e28 e29 e30 e31 e32 e33 e34 e35 e36 e37 e38 e39 e40 e41 e42 e43 e44:FuncData}
  (a0:FA K "is_whole" kB f0 e0)
  (a1:FA K "is_within" iH f1 e1)
  (a2:FA K "is_count" kC f2 e2)
  (a3:FA K "together" kD f3 e3)
  (a4:FA K "together_by_house" cu f4 e4)
  (a5:FA K "said" yJ f5 e5)
  (a6:FA K "check_house" fE f6 e6)
  (a7:FA K "check_pair" gj f7 e7)
  (a8:FA K "houses_of" iI f8 e8)
  (a9:FA K "book_of" nq f9 e9)
  (a10:FA K "gathered" kE f10 e10)
  (a11:FA K "is_tried" kF f11 e11)
  (a12:FA K "counts_of_row" dR f12 e12)
  (a13:FA K "are_marks" iJ f13 e13)
  (a14:FA K "are_rows" kG f14 e14)
  (a15:FA K "is_row" pZ f15 e15)
  (a16:FA K "are_kinds" iK f16 e16)
  (a17:FA K "parts_by" kH f17 e17)
  (a18:FA K "table_by" kJ f18 e18)
  (a19:FA K "values_by" iL f19 e19)
  (a20:FA K "check_mark" gk f20 e20)
  (a21:FA K "check_marks" fF f21 e21)
  (a22:FA K "sums_of" nr f22 e22)
  (a23:FA K "says" yL f23 e23)
  (a24:FA K "turning" nu f24 e24)
  (a25:FA K "turned_or_kept" dA f25 e25)
  (a26:FA K "turned_by" iM f26 e26)
  (a27:FA K "choices" ny f27 e27)
  (a28:FA K "longer" qb f28 e28)
  (a29:FA K "knots" tS f29 e29)
  (a30:FA K "turned_knots" eP f30 e30)
  (a31:FA K "says_of_kids" eQ f31 e31)
  (a32:FA K "_law_pen" kL f32 e32)
  (a33:FA K "_law_next" iN f33 e33)
  (a34:FA K "_law_count" gq f34 e34)
  (a35:FA K "_law_rows" iO f35 e35)
  (a36:FA K "_law_parts" gr f36 e36)
  (a37:FA K "_law_said" iP f37 e37)
  (a38:FA K "_law_whole" gs f38 e38)
  (a39:FA K "_law_due" kM f39 e39)
  (a40:FA K "_law_all_choices" cG f40 e40)
  (a41:FA K "_law_knots_due" dD f41 e41)
  (a42:FA K "_law_leaves_right" cw f42 e42)
  (a43:FA K "_law_right" gt f43 e43)
  (a44:FA K "law" Dm f44 e44)
  (z0:PySem.W.nsIn K mainGlobals "ValueError" = some none) (z1:PySem.W.nsIn K mainGlobals "sum" = some none) (z2:PySem.W.nsIn K mainGlobals "tuple" = some none) (z3:PySem.W.nsIn K mainGlobals "len" = some none) (z4:PySem.W.nsIn K mainGlobals "any" = some none) (z5:PySem.W.nsIn K mainGlobals "all" = some none) (z6:PySem.W.nsIn K mainGlobals "enumerate" = some none) (z7:PySem.W.nsIn K mainGlobals "range" = some none) (z8:PySem.W.nsIn K mainGlobals "isinstance" = some none) (z9:PySem.W.nsIn K mainGlobals "int" = some none) (z10:PySem.W.nsIn K mainGlobals "min" = some none) (z11:PySem.W.nsIn K mainGlobals "sorted" = some none) (z12:PySem.W.nsIn K mainGlobals "bool" = some none) (z13:PySem.W.nsIn K mainGlobals "set" = some none) (z14:PySem.W.nsIn K mainGlobals "list" = some none) (z15:PySem.W.nsIn K mainGlobals "zip" = some none)
  {bR cr cL dr cK cJ:Tok}
  (eT:PySem.W.nsIn K mainGlobals "LEAST_HOUSES" = some (some (.int 2 bR)))
  (fN:PySem.W.nsIn K mainGlobals "MOST_HOUSES" = some (some (.int 6 cr)))
  (gM:PySem.W.nsIn K mainGlobals "MOST_MARKS" = some (some (.int 5 cL)))
  (iY:PySem.W.nsIn K mainGlobals "MOST_ROWS" = some (some (.int 60 dr)))
  (gz:PySem.W.nsIn K mainGlobals "MOST_KINDS" = some (some (.int 6 cK)))
  (gH:PySem.W.nsIn K mainGlobals "MOST_TRIED" = some (some (.int 1000000000000 cJ)))
  :
  ∃fd:FuncData,(∀(s:Shared) (v:Value),BindsTo s fd ⟨[v],[]⟩ [("_law_script",v)])/\∀base:Heap,K.In base->base.Ns mainGlobals mg->FnOk l.prog w K mg base CX0 12 fa fd ["_law_script"] (DL.spLaw K):=by
 have e:=hfa.symm.trans (zyH X G a44.a)
 cases e
 let T:Tx K mg:={ kU:=f0,jd:=e0,bv:=a0.d1 X G fun _ _ _ _ _ _ _=>rfl,iZ:=f1,gU:=e1,az:=a1.d3 X G fun _ _ _ _ _ _ _ _ _=>rfl,kY:=f2,jf:=e2,fj:=a2.d1 X G fun _ _ _ _ _ _ _=>rfl,lh:=f3,jg:=e3,fh:=a3.d1 X G fun _ _ _ _ _ _ _=>rfl,cy:=f4,cg:=e4,aI:=a4.d2 X G fun _ _ _ _ _ _ _ _=>rfl,zG:=f5,uu:=e5,eM:=a5.d2 X G fun _ _ _ _ _ _ _ _=>rfl,fK:=f6,eU:=e6,bj:=a6.d2 X G fun _ _ _ _ _ _ _ _=>rfl,gT:=f7,fL:=e7,aP:=a7.d3 X G fun _ _ _ _ _ _ _ _ _=>rfl,jj:=f8,gA:=e8,bT:=a8.d1 X G fun _ _ _ _ _ _ _=>rfl,oj:=f9,kZ:=e9,gK:=a9.d3 X G fun _ _ _ _ _ _ _ _ _=>rfl,ij:=f10,fW:=e10,cA:=a10.d2 X G fun _ _ _ _ _ _ _ _=>rfl,ld:=f11,ji:=e11,fq:=a11.d1 X G fun _ _ _ _ _ _ _=>rfl,dZ:=f12,dG:=e12,bQ:=a12.d2 X G fun _ _ _ _ _ _ _ _=>rfl,iV:=f13,gE:=e13,ej:=a13.d1 X G fun _ _ _ _ _ _ _=>rfl,kW:=f14,jh:=e14,fo:=a14.d3 X G fun _ _ _ _ _ _ _ _ _=>rfl,qw:=f15,on:=e15,jX:=a15.d3 X G fun _ _ _ _ _ _ _ _ _=>rfl,jc:=f16,gF:=e16,ee:=a16.d2 X G fun _ _ _ _ _ _ _ _=>rfl,ig:=f17,fO:=e17,cC:=a17.d2 X G fun _ _ _ _ _ _ _ _=>rfl,ii:=f18,fP:=e18,cB:=a18.d2 X G fun _ _ _ _ _ _ _ _=>rfl,iW:=f19,gL:=e19,eh:=a19.d2 X G fun _ _ _ _ _ _ _ _=>rfl,gS:=f20,fV:=e20,dw:=a20.d2 X G fun _ _ _ _ _ _ _ _=>rfl,fX:=f21,eS:=e21,bh:=a21.d2 X G fun _ _ _ _ _ _ _ _=>rfl,om:=f22,kX:=e22,gJ:=a22.d1 X G fun _ _ _ _ _ _ _=>rfl,vR:=f23,qt:=e23,sF:=a23.d3 X G fun _ _ _ _ _ _ _ _ _=>rfl,oh:=f24,lc:=e24,du:=a24.d3 X G fun _ _ _ _ _ _ _ _ _=>rfl,dE:=f25,cV:=e25,bH:=a25.d2 X G fun _ _ _ _ _ _ _ _=>rfl,iX:=f26,gN:=e26,bS:=a26.d3 X G fun _ _ _ _ _ _ _ _ _=>rfl,oi:=f27,li:=e27,gD:=a27.d1 X G fun _ _ _ _ _ _ _=>rfl,qu:=f28,nZ:=e28,jV:=a28.d2 X G fun _ _ _ _ _ _ _ _=>rfl,qv:=f29,mt:=e29,og:=a29.d2 X G fun _ _ _ _ _ _ _ _=>rfl,cZ:=f30,cM:=e30,aT:=a30.df X G fun us hl=>match us,hl with|[_,_,_,_],_=>fun _ _ _ _ _ _=>rfl,eR:=f31,dY:=e31,cq:=a31.d3 X G fun _ _ _ _ _ _ _ _ _=>rfl,lg:=f32,jb:=e32,fm:=a32.d1 X G fun _ _ _ _ _ _ _=>rfl,fT:=f33,eN:=e33,ae:=a33.d2 X G fun _ _ _ _ _ _ _ _=>rfl,gP:=f34,fS:=e34,dq:=a34.df X G fun us hl=>match us,hl with|[_,_,_,_],_=>fun _ _ _ _ _ _=>rfl,je:=f35,gO:=e35,eu:=a35.d3 X G fun _ _ _ _ _ _ _ _ _=>rfl,gG:=f36,fM:=e36,aK:=a36.df X G fun us hl=>match us,hl with|[_,_,_,_],_=>fun _ _ _ _ _ _=>rfl,iU:=f37,gI:=e37,ay:=a37.d1 X G fun _ _ _ _ _ _ _=>rfl,gC:=f38,fQ:=e38,bA:=a38.d1 X G fun _ _ _ _ _ _ _=>rfl,kT:=f39,iT:=e39,fi:=a39.d1 X G fun _ _ _ _ _ _ _=>rfl,cN:=f40,cx:=e40,bm:=a40.d1 X G fun _ _ _ _ _ _ _=>rfl,dF:=f41,cU:=e41,bG:=a41.df X G fun us hl=>match us,hl with|[_,_,_,_],_=>fun _ _ _ _ _ _=>rfl,cz:=f42,ci:=e42,aW:=a42.df X G fun us hl=>match us,hl with|[_,_,_,_,_],_=>fun _ _ _ _ _ _=>rfl,gQ:=f43,fR:=e43,dm:=a43.df X G fun us hl=>match us,hl with|[_,_,_,_,_,_],_=>fun _ _ _ _ _ _=>rfl,DN:=fa,zJ:=e44,FZ:=a44.d1 X G fun _ _ _ _ _ _ _=>rfl,sG:=zzP X G z0,zI:=zzP X G z1,bU:=zzP X G z2,cD:=zzP X G z3,FY:=zzP X G z4,Bc:=zzP X G z5,fU:=zzP X G z6,cW:=zzP X G z7,bi:=zzP X G z8,uv:=zzP X G z9,Bb:=zzP X G z10,mx:=zzP X G z11,BV:=zzP X G z12,FX:=zzP X G z13,zH:=zzP X G z14,FW:=zzP X G z15,bR:=bR,gR:=zyH X G eT,cr:=cr,iw:=zyH X G fN,cL:=cL,jW:=zyH X G gM,dr:=dr,lJ:=zyH X G iY,cK:=cK,jU:=zyH X G gz,cJ:=cJ,jT:=zyH X G gH }
 exact⟨e44,fun s v=>by obtain⟨_,_,_,_,_,_,_,_,_,q,_⟩:=a44.F.ex;subst q;exact .of_eq rfl,fun base _ _=>Hn T⟩
end My
theorem PySem.W.Fast.tw8225023488710103196 : True := trivial
theorem PySem.W.Fast.tw12962171906467457861 : True := trivial
theorem PySem.W.Fast.tw5610650460573167073 : True := trivial
theorem PySem.W.Fast.tw10475306245137212073 : True := trivial
theorem PySem.W.Fast.tw5261238835265559434 : True := trivial
theorem PySem.W.Fast.tw16313040125157104563 : True := trivial
theorem PySem.W.Fast.tw4566129793558583629 : True := trivial
theorem PySem.W.Fast.tw13878512541884209963 : True := trivial
theorem PySem.W.Fast.tw11166793812454623916 : True := trivial
theorem PySem.W.Fast.tw3629667011368450114 : True := trivial
theorem PySem.W.Fast.tw9704541690700305469 : True := trivial
theorem PySem.W.Fast.tw8211462542135633307 : True := trivial
theorem PySem.W.Fast.tw13446271474455724807 : True := trivial
theorem PySem.W.Fast.tw9977544994347389858 : True := trivial
theorem PySem.W.Fast.tw5444585803653179912 : True := trivial
theorem PySem.W.Fast.tw5110613539508279026 : True := trivial
theorem PySem.W.Fast.tw906219675130874791 : True := trivial
theorem PySem.W.Fast.tw12792516027295025509 : True := trivial
theorem PySem.W.Fast.tw14272035666428067141 : True := trivial
theorem PySem.W.Fast.tw9610985134444528592 : True := trivial
theorem PySem.W.Fast.tw11416167196984695588 : True := trivial
theorem PySem.W.Fast.tw2264546762881791887 : True := trivial
theorem PySem.W.Fast.tw2586013626666345444 : True := trivial
theorem PySem.W.Fast.tw88449701876110594 : True := trivial
theorem PySem.W.Fast.tw12100077766877889775 : True := trivial
theorem PySem.W.Fast.tw4507424298329239888 : True := trivial
theorem PySem.W.Fast.tw13500291639970336476 : True := trivial
theorem PySem.W.Fast.tw15629179646109665666 : True := trivial
theorem PySem.W.Fast.tw13000135870489263059 : True := trivial
theorem PySem.W.Fast.tw8550834266617880728 : True := trivial
theorem PySem.W.Fast.tw12966221072799193373 : True := trivial
theorem PySem.W.Fast.tw17779159806523951651 : True := trivial
theorem PySem.W.Fast.tw13017546594631441425 : True := trivial
theorem PySem.W.Fast.tw15146067246875854187 : True := trivial
theorem PySem.W.Fast.tw15675227269937623318 : True := trivial
theorem PySem.W.Fast.tw3432051521178681290 : True := trivial
theorem PySem.W.Fast.tw10666485978892041894 : True := trivial
theorem PySem.W.Fast.tw16802587114097887761 : True := trivial
theorem PySem.W.Fast.tw15116506181150387000 : True := trivial
theorem PySem.W.Fast.tw13243519738132045885 : True := trivial
theorem PySem.W.Fast.tw4198110232511485032 : True := trivial
theorem PySem.W.Fast.tw11688169885733433292 : True := trivial
theorem PySem.W.Fast.tw2649736528421006464 : True := trivial
theorem PySem.W.Fast.tw17416400601284231383 : True := trivial
theorem PySem.W.Fast.tw8496081859246652471 : True := trivial
theorem PySem.W.Fast.tw13459378140197885469 : True := trivial
theorem PySem.W.Fast.tw13183109266688586810 : True := trivial
theorem PySem.W.Fast.tw11651029813896919769 : True := trivial
theorem PySem.W.Fast.tw6457062715449539264 : True := trivial
theorem PySem.W.Fast.tw8183543387671266067 : True := trivial
theorem PySem.W.Fast.tw16786910042889523816 : True := trivial
theorem PySem.W.Fast.tw8696331102629828735 : True := trivial
theorem PySem.W.Fast.tw6357247339065088916 : True := trivial
theorem PySem.W.Fast.tw17215742300088837897 : True := trivial
theorem PySem.W.Fast.tw4413821749739937383 : True := trivial
theorem PySem.W.Fast.tw6427205118000413180 : True := trivial
theorem PySem.W.Fast.tw16043510900221157103 : True := trivial
theorem PySem.W.Fast.tw9572599598993288586 : True := trivial
theorem PySem.W.Fast.tw11948884686029716008 : True := trivial
theorem PySem.W.Fast.tw18315859883634145020 : True := trivial
theorem PySem.W.Fast.tw7294246480384717873 : True := trivial
theorem PySem.W.Fast.tw15239072238953850307 : True := trivial
theorem PySem.W.Fast.tw9388563730907169212 : True := trivial
theorem PySem.W.Fast.tw15750053778675217158 : True := trivial
theorem PySem.W.Fast.tw17836420502205434302 : True := trivial
theorem PySem.W.Fast.tw3133471642848712567 : True := trivial
theorem PySem.W.Fast.tw4763055922580837955 : True := trivial
theorem PySem.W.Fast.tw2120069462391343837 : True := trivial
theorem PySem.W.Fast.tw15868469738224570505 : True := trivial
theorem PySem.W.Fast.tw9979797364956206735 : True := trivial
theorem PySem.W.Fast.tw16398616422701512370 : True := trivial
theorem PySem.W.Fast.tw6167283587030906708 : True := trivial
theorem PySem.W.Fast.tw12195456802321420193 : True := trivial
theorem PySem.W.Fast.tw4929111496680063773 : True := trivial
theorem PySem.W.Fast.tw2771725179194872585 : True := trivial
theorem PySem.W.Fast.tw18047588382285602840 : True := trivial
theorem PySem.W.Fast.tw13811078903377213067 : True := trivial
theorem PySem.W.Fast.tw7502423790572664114 : True := trivial
theorem PySem.W.Fast.tw3182779950745539479 : True := trivial
theorem PySem.W.Fast.tw1141240337173563549 : True := trivial
theorem PySem.W.Fast.tw7965378187438797548 : True := trivial
theorem PySem.W.Fast.tw11435650032519215463 : True := trivial
theorem PySem.W.Fast.tw1733189228667265815 : True := trivial
theorem PySem.W.Fast.tw10777717528027018580 : True := trivial
theorem PySem.W.Fast.tw5935186687273353005 : True := trivial
theorem PySem.W.Fast.tw11990705667844821449 : True := trivial
theorem PySem.W.Fast.tw14460378851268766156 : True := trivial
theorem PySem.W.Fast.tw17761086897027923878 : True := trivial
theorem PySem.W.Fast.tw2130098535774459160 : True := trivial
theorem PySem.W.Fast.tw8910758008974249283 : True := trivial
theorem PySem.W.Fast.tw3719486613488964896 : True := trivial
theorem PySem.W.Fast.tw10887090588230913492 : True := trivial
theorem PySem.W.Fast.tw5417324020062061771 : True := trivial
theorem PySem.W.Fast.tw15416566877844871922 : True := trivial
theorem PySem.W.Fast.tw17647943963958256050 : True := trivial
theorem PySem.W.Fast.tw13527685009145293475 : True := trivial
theorem PySem.W.Fast.tw14827129591112918595 : True := trivial
theorem PySem.W.Fast.tw9328497347453910109 : True := trivial
theorem PySem.W.Fast.tw7884231696221146902 : True := trivial
theorem PySem.W.Fast.tw4230603774927097896 : True := trivial
theorem PySem.W.Fast.tw8692837616140649209 : True := trivial
theorem PySem.W.Fast.tw12758667382480063948 : True := trivial
theorem PySem.W.Fast.tw6330413946165023305 : True := trivial
theorem PySem.W.Fast.tw6878163452267560267 : True := trivial
theorem PySem.W.Fast.tw7909852495839679207 : True := trivial
theorem PySem.W.Fast.tw16501788198624630702 : True := trivial
theorem PySem.W.Fast.tw4173163502216029029 : True := trivial
theorem PySem.W.Fast.tw3454706745270033814 : True := trivial
open PySem PySem.W PyProof.Rows
set_option maxRecDepth 100000 in
set_option maxHeartbeats 0 in
theorem PySem.Challenge.cw_othersum_k57_whole_each_turning_by_each_holds : PySem.Challenge.rw_othersum_k57_whole_each_turning_by_each.Holds := by
  w_on; o_law; k_head; (case hw => w_witness2)
  k_fill
  refine L2.walk_ofK (l := PySem.Challenge.rw_othersum_k57_whole_each_turning_by_each) (n := 63) (k := 12) (x := "_law_script") (CX := L2.CX0) (sp := DL.spLaw) rfl (by decide) rfl ⟨rfl, by decide, by decide⟩ (fun w h Y => PySem.W.kIn_of Y) ?F DL.law_sp (fun _ _ _ _ z => z)
  case F =>
    intro w mg fa h KX G hmg
    refine' My.all_mk KX G hmg (L2.fa_mk ?a0 ?l0 ?c0 ?k0) (L2.fa_mk ?a1 ?l1 ?c1 ?k1) (L2.fa_mk ?a2 ?l2 ?c2 ?k2) (L2.fa_mk ?a3 ?l3 ?c3 ?k3) (L2.fa_mk ?a4 ?l4 ?c4 ?k4) (L2.fa_mk ?a5 ?l5 ?c5 ?k5) (L2.fa_mk ?a6 ?l6 ?c6 ?k6) (L2.fa_mk ?a7 ?l7 ?c7 ?k7) (L2.fa_mk ?a8 ?l8 ?c8 ?k8) (L2.fa_mk ?a9 ?l9 ?c9 ?k9) (L2.fa_mk ?a10 ?l10 ?c10 ?k10) (L2.fa_mk ?a11 ?l11 ?c11 ?k11) (L2.fa_mk ?a12 ?l12 ?c12 ?k12) (L2.fa_mk ?a13 ?l13 ?c13 ?k13) (L2.fa_mk ?a14 ?l14 ?c14 ?k14) (L2.fa_mk ?a15 ?l15 ?c15 ?k15) (L2.fa_mk ?a16 ?l16 ?c16 ?k16) (L2.fa_mk ?a17 ?l17 ?c17 ?k17) (L2.fa_mk ?a18 ?l18 ?c18 ?k18) (L2.fa_mk ?a19 ?l19 ?c19 ?k19) (L2.fa_mk ?a20 ?l20 ?c20 ?k20) (L2.fa_mk ?a21 ?l21 ?c21 ?k21) (L2.fa_mk ?a22 ?l22 ?c22 ?k22) (L2.fa_mk ?a23 ?l23 ?c23 ?k23) (L2.fa_mk ?a24 ?l24 ?c24 ?k24) (L2.fa_mk ?a25 ?l25 ?c25 ?k25) (L2.fa_mk ?a26 ?l26 ?c26 ?k26) (L2.fa_mk ?a27 ?l27 ?c27 ?k27) (L2.fa_mk ?a28 ?l28 ?c28 ?k28) (L2.fa_mk ?a29 ?l29 ?c29 ?k29) (L2.fa_mk ?a30 ?l30 ?c30 ?k30) (L2.fa_mk ?a31 ?l31 ?c31 ?k31) (L2.fa_mk ?a32 ?l32 ?c32 ?k32) (L2.fa_mk ?a33 ?l33 ?c33 ?k33) (L2.fa_mk ?a34 ?l34 ?c34 ?k34) (L2.fa_mk ?a35 ?l35 ?c35 ?k35) (L2.fa_mk ?a36 ?l36 ?c36 ?k36) (L2.fa_mk ?a37 ?l37 ?c37 ?k37) (L2.fa_mk ?a38 ?l38 ?c38 ?k38) (L2.fa_mk ?a39 ?l39 ?c39 ?k39) (L2.fa_mk ?a40 ?l40 ?c40 ?k40) (L2.fa_mk ?a41 ?l41 ?c41 ?k41) (L2.fa_mk ?a42 ?l42 ?c42 ?k42) (L2.fa_mk ?a43 ?l43 ?c43 ?k43) (L2.fa_mk ?a44 ?l44 ?c44 ?k44) ?z0 ?z1 ?z2 ?z3 ?z4 ?z5 ?z6 ?z7 ?z8 ?z9 ?z10 ?z11 ?z12 ?z13 ?z14 ?z15 ?eT ?fN ?gM ?iY ?gz ?gH
    case a0 | l0 | c0 | k0 | a1 | l1 | c1 | k1 | a2 | l2 | c2 | k2 | a3 | l3 | c3 | k3 | a4 | l4 | c4 | k4 | a5 | l5 | c5 | k5 | a6 | l6 | c6 | k6 | a7 | l7 | c7 | k7 | a8 | l8 | c8 | k8 | a9 | l9 | c9 | k9 | a10 | l10 | c10 | k10 | a11 | l11 | c11 | k11 | a12 | l12 | c12 | k12 | a13 | l13 | c13 | k13 | a14 | l14 | c14 | k14 | a15 | l15 | c15 | k15 | a16 | l16 | c16 | k16 | a17 | l17 | c17 | k17 | a18 | l18 | c18 | k18 | a19 | l19 | c19 | k19 | a20 | l20 | c20 | k20 | a21 | l21 | c21 | k21 | a22 | l22 | c22 | k22 | a23 | l23 | c23 | k23 | a24 | l24 | c24 | k24 | a25 | l25 | c25 | k25 | a26 | l26 | c26 | k26 | a27 | l27 | c27 | k27 | a28 | l28 | c28 | k28 | a29 | l29 | c29 | k29 | a30 | l30 | c30 | k30 | a31 | l31 | c31 | k31 | a32 | l32 | c32 | k32 | a33 | l33 | c33 | k33 | a34 | l34 | c34 | k34 | a35 | l35 | c35 | k35 | a36 | l36 | c36 | k36 | a37 | l37 | c37 | k37 | a38 | l38 | c38 | k38 | a39 | l39 | c39 | k39 | a40 | l40 | c40 | k40 | a41 | l41 | c41 | k41 | a42 | l42 | c42 | k42 | a43 | l43 | c43 | k43 | a44 | l44 | c44 | k44 | z0 | z1 | z2 | z3 | z4 | z5 | z6 | z7 | z8 | z9 | z10 | z11 | z12 | z13 | z14 | z15 | eT | fN | gM | iY | gz | gH => k_is
#print axioms PySem.Challenge.cw_othersum_k57_whole_each_turning_by_each_holds
